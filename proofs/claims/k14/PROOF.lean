import PyProof.Rows.All
import Wide.All
import OpenK.AllK
import Wide.FinOn
import HandS.ForMost
import HandS.ForExc
import HandS.FStr
import HandS.RaiseMore
import HandS.TryMany
import HandS.HotCalls
import HandS.ExcIs
import HandS.Wide
import HandS.Lambda
import HandS.ExcCtx
import HandS.Star
import HandS.Hot
import HandS.Dict
import HandS.ForDict
import HandS.IsInst
import HandS.Text
import HandS.RaiseFrom
import HandS.SuiteRaise
import HandS.SortKw
import HandS.SortInts
import HandS.Keys
import KE.KSortKey
import PyProof.Rows.SortStr
import PyProof.Rows.SortKeyStr
import HandS.TupSets
import HandS.SetTxt0
import HandS.SetFor
import HandS.Strs
import PyProof.Rows.SortShellAny
import HandS.WordsDict
import HandS.Conv
import HandS.Deep
import HandS.More
import HandS.Style
import HandS.Iter
import HandS.DictComp
import HandS.EndTab
import KE.KNestM
import PySem.Challenge.RW_patchweave_k14_steps_between_texts
set_option Elab.async false
set_option linter.all false
set_option maxRecDepth 100000
set_option maxHeartbeats 4000000
/-! Pure data over the layer: what an expression, a statement of a def comes to, told by plain data alone. -/
namespace PD
open PySem L2

/-! ### the strongest readings -/
def WE (X : Cx) (e : Expr) : TE := fun σ H Q => ∀ (pins : List (Addr × Obj)) (s : Shared), Inv X pins σ H s → wpAny (model X.prog X.w) X.A (eval e X.env) (EP X pins σ Q) X.xe s
def WT (X : Cx) (e : Expr) : TT := fun σ H Q => ∀ (pins : List (Addr × Obj)) (s : Shared), Inv X pins σ H s → wpAny (model X.prog X.w) X.A (isTrue e X.env (eval e X.env)) (TP X pins σ Q) X.xe s
def WW (X : Cx) (e : Expr) : TT := fun σ H Q => ∀ (whole : Sem Value) (pins : List (Addr × Obj)) (s : Shared), Inv X pins σ H s → wpAny (model X.prog X.w) X.A (isTrue e X.env whole) (TP X pins σ Q) X.xe s
def WA (X : Cx) (es : List Expr) : TA := fun σ H Q => ∀ (pos : Pos) (pins : List (Addr × Obj)) (s : Shared), Inv X pins σ H s → wpAny (model X.prog X.w) X.A (spliced (backTo pos (starEach es X.env))) (AP X pins σ Q) X.xe s
def WS (X : Cx) (st : Stmt) : TS := fun D σ H => ∀ (pins : List (Addr × Obj)) (s : Shared), Inv X pins σ H s → wpAny (model X.prog X.w) X.A (exec st X.env) (SP X pins D) X.xe s
def WSs (X : Cx) (st : List Stmt) : TS := fun D σ H => ∀ (pins : List (Addr × Obj)) (s : Shared), Inv X pins σ H s → wpAny (model X.prog X.w) X.A (execs st X.env) (SP X pins D) X.xe s
section
variable {X : Cx} {e : Expr} {es : List Expr} {st : Stmt} {sts : List Stmt} {σ : L2.St} {H : Hp} {D : Ends}
theorem pe_w : PE X e (WE X e) := ⟨fun pins s _ _ _ I h => h pins s I⟩
theorem pt_w : PT X e (WT X e) := ⟨fun pins s _ _ _ I h => h pins s I⟩
theorem pw_w : PW X e (WW X e) := ⟨fun whole pins s _ _ _ I h => h whole pins s I⟩
theorem pa_w : PA X es (WA X es) := ⟨fun pos pins s _ _ _ I h => h pos pins s I⟩
theorem ps_w : PS X st (WS X st) := ⟨fun pins s _ _ _ I h => h pins s I⟩
theorem pss_w : PSs X sts (WSs X sts) := ⟨fun pins s _ _ _ I h => h pins s I⟩
theorem w_e {t : TE} (h : PE X e t) {Q : VK} (q : t σ H Q) : WE X e σ H Q := fun pins s I => h.run pins s σ H Q I q
theorem w_t {t : TT} (h : PT X e t) {Q : Bool → Hp → Prop} (q : t σ H Q) : WT X e σ H Q := fun pins s I => h.run pins s σ H Q I q
theorem w_w {t : TT} (h : PW X e t) {Q : Bool → Hp → Prop} (q : t σ H Q) : WW X e σ H Q := fun whole pins s I => h.run whole pins s σ H Q I q
theorem w_a {t : TA} (h : PA X es t) {Q : List V → Hp → Prop} (q : t σ H Q) : WA X es σ H Q := fun pos pins s I => h.run pos pins s σ H Q I q
theorem w_s {t : TS} (h : PS X st t) (q : t D σ H) : WS X st D σ H := fun pins s I => h.run pins s σ H D I q
theorem w_ss {t : TS} (h : PSs X sts t) (q : t D σ H) : WSs X sts D σ H := fun pins s I => h.run pins s σ H D I q
theorem WE.imp {Q Q' : VK} (h : WE X e σ H Q) (k : ∀ v H', Q v H' → Q' v H') : WE X e σ H Q' := fun pins s I =>
  wpAny_mono (h pins s I) (fun _ _ ⟨v, H', I', r, q⟩ => ⟨v, H', I', r, k v H' q⟩) fun _ _ x => x
end

/-! ### heaps -/
/-- no table of code objects -/
def NT (o : HO) : Prop := ∀ ps, o ≠ .tbl ps
/-- no thing told by a word of its own -/
def NX (o : HO) : Prop := ∀ φ, o ≠ .ext φ
/-- what stands, stays; tables of code objects may grow -/
structure Ex (H H' : Hp) : Prop where
  k : ∀ a o, H a = some o → NT o → H' a = some o
  d : ∀ a, H a ≠ none → H' a ≠ none
/-- nothing at all is changed -/
theorem Ex.of {H H' : Hp} (e : ∀ a o, H a = some o → H' a = some o) : Ex H H' := ⟨fun a o h _ => e a o h, fun a h z => by
  cases q : H a with
  | none => exact h q
  | some o => rw [e a o q] at z; cases z⟩
theorem Ex.g {H H' : Hp} (e : Ex H H') {a : Addr} {o : HO} (h : H a = some o) (n : NT o := by intro _ z; cases z) : H' a = some o := e.k a o h n
/-- a thing stands there -/
def Std (H : Hp) (a : Addr) : Prop := ∃ u, H a = some u ∧ NT u ∧ NX u
theorem Std.ne {H : Hp} {a : Addr} (h : Std H a) : H a ≠ none := by
  obtain ⟨u, e, _⟩ := h
  rw [e]; exact fun z => nomatch z
theorem Std.of {H : Hp} {a : Addr} {u : HO} (h : H a = some u) (n : NT u := by intro _ z; cases z) (m : NX u := by intro _ z; cases z) : Std H a := ⟨u, h, n, m⟩
theorem Ex.refl (H : Hp) : Ex H H := .of fun _ _ h => h
theorem Ex.trans {H H1 H2 : Hp} (a : Ex H H1) (b : Ex H1 H2) : Ex H H2 := ⟨fun x o h n => b.k x o (a.k x o h n) n, fun x h => b.d x (a.d x h)⟩
theorem Ex.back {H H' : Hp} (e : Ex H H') {a : Addr} (h : H' a = none) : H a = none := by
  cases q : H a with
  | none => rfl
  | some o => exact absurd h (e.d a (by rw [q]; exact fun z => nomatch z))
theorem Ex.new {H : Hp} {p : Addr} {o : HO} (h : H p = none) : Ex H (upd H p o) := .of fun a u e => by
  rw [upd_ne (ne_of_none e h)]; exact e
theorem Ex.mut {H H' : Hp} {p : Addr} {o : HO} (e : Ex H H') (h : H p = none) : Ex H (upd H' p o) :=
  ⟨fun a u q n => by rw [upd_ne (ne_of_none q h)]; exact e.k a u q n, fun a q => by rw [upd_ne (fun z => q (by rw [z]; exact h))]; exact e.d a q⟩
/-- what stands is known -/
theorem Ex.know {F H : Hp} (e : Ex F H) {p : Addr} {o : HO} (hf : F p = none) (h : H p = some o) : Ex (upd F p o) H := by
  refine ⟨fun a u q n => ?_, fun a q => ?_⟩
  · by_cases z : a = p
    · subst z; rw [upd_same] at q; cases q; exact h
    · rw [upd_ne z] at q; exact e.k a u q n
  · by_cases z : a = p
    · subst z; rw [h]; exact fun z => nomatch z
    · rw [upd_ne z] at q; exact e.d a q
theorem Ex.both {F H : Hp} (e : Ex F H) {p : Addr} {o : HO} (hf : F p = none) (h : H p = none) : Ex (upd F p o) (upd H p o) := (e.trans (Ex.new h)).know hf upd_same
/-- the tables of a row, and the names of what is made there -/
class TabC where
  T : List (Addr × Str)
instance (priority := low) noTabs : TabC := ⟨[]⟩
variable [TabC]
/-- the tables of the row stay what they are, or grow -/
def Tb (H H' : Hp) : Prop := LamX.Tabs TabC.T H → LamX.Tabs TabC.T H'
theorem Tb.of {H H' : Hp} (e : ∀ a o, H a = some o → H' a = some o) : Tb H H' := fun t => t.ext e
theorem Tb.refl (H : Hp) : Tb H H := fun t => t
theorem Tb.trans {H H1 H2 : Hp} (a : Tb H H1) (b : Tb H1 H2) : Tb H H2 := fun t => b (a t)
theorem Tb.new {H : Hp} {p : Addr} {o : HO} (h : H p = none) : Tb H (upd H p o) := .of fun a u e => by
  rw [upd_ne (ne_of_none e h)]; exact e
theorem Tb.mut {H H' : Hp} {p : Addr} {o u : HO} (t : Tb H H') (m : H' p = some u) (n : NX u := by intro _ z; cases z) (nt : NT u := by intro _ z; cases z) : Tb H (upd H' p o) := fun x y hy => by
  obtain ⟨ps', z1, z2, hc1⟩ := t x y hy
  have hP : y.1 ≠ p := fun z => by
    rw [z, m] at z1
    exact nt _ (Option.some.inj z1)
  refine ⟨ps', by rw [upd_ne hP]; exact z1, z2, fun pos cv hc => ?_⟩
  obtain ⟨c, e1, e2⟩ := hc1 pos cv hc
  have hcp : c ≠ p := fun z => by
    rw [z, m] at e2
    exact n _ (Option.some.inj e2)
  exact ⟨c, e1, by rw [upd_ne hcp]; exact e2⟩
theorem Tb.poke {H : Hp} {p : Addr} {o : HO} (s : Std H p) : Tb H (upd H p o) := let ⟨_, e, n, m⟩ := s; (Tb.refl H).mut e m n
theorem Ex.rd {H H' : Hp} (e : Ex H H') {a : Addr} {u : HO} (h : Rd H a u) (n : NT u := by intro _ z; cases z) : Rd H' a u := by
  rcases h with h | ⟨o, h⟩
  · exact .inl (e.g h n)
  · exact .inr ⟨o, e.g h⟩
theorem Ex.sql {K : PySem.W.Frag} {H H' : Hp} (e : Ex H H') {a : Addr} {xs : List V} (h : SqL K H a xs) : SqL K H' a xs := by
  rcases h with h | h
  · exact .inl (e.rd h)
  · exact .inr h
theorem Ex.sqt {K : PySem.W.Frag} {H H' : Hp} (e : Ex H H') {a : Addr} {xs : List V} (h : SqT K H a xs) : SqT K H' a xs := by
  rcases h with h | h
  · exact .inl (e.rd h)
  · exact .inr h
/-- F the part that nobody changes any more; what is new in it was nowhere ahead -/
structure Ext (F H F' H' : Hp) : Prop where
  f : Ex F F'
  h : Ex H H'
  i : Ex F' H'
  n : ∀ a, H a ≠ none → F' a = F a
  t : Tb H H'
theorem Ext.refl {F H : Hp} (i : Ex F H) : Ext F H F H := ⟨Ex.refl F, Ex.refl H, i, fun _ _ => rfl, Tb.refl H⟩
theorem Ex.ne {H H' : Hp} (e : Ex H H') {a : Addr} (h : H a ≠ none) : H' a ≠ none := fun z => h (e.back z)
theorem Ext.trans {F H F1 H1 F2 H2 : Hp} (a : Ext F H F1 H1) (b : Ext F1 H1 F2 H2) : Ext F H F2 H2 :=
  ⟨a.f.trans b.f, a.h.trans b.h, b.i, fun x hx => (b.n x (a.h.ne hx)).trans (a.n x hx), a.t.trans b.t⟩
/-- a thing is made and told for ever -/
theorem Ext.made {F H : Hp} (i : Ex F H) {p : Addr} {o : HO} (h : H p = none) : Ext F H (upd F p o) (upd H p o) := by
  have hf : F p = none := i.back h
  refine ⟨Ex.new hf, Ex.new h, i.both hf h, fun a ha => ?_, Tb.new h⟩
  · rw [upd_ne (fun q => ha (by rw [q]; exact h))]
/-- a thing that is made, held back -/
theorem Ext.kept {F H : Hp} (i : Ex F H) {p : Addr} {o : HO} (h : H p = none) : Ext F H F (upd H p o) :=
  ⟨Ex.refl F, Ex.new h, i.trans (Ex.new h), fun _ _ => rfl, Tb.new h⟩
/-- what was held back is told for ever -/
theorem Ext.told {F H F' H' : Hp} (x : Ext F H F' H') {p : Addr} {o : HO} (hp : H p = none) (hf : F' p = none) (h : H' p = some o) : Ext F H (upd F' p o) H' := by
  refine ⟨x.f.trans (Ex.new hf), x.h, x.i.know hf h, fun a ha => ?_, x.t⟩
  · rw [upd_ne (fun q => ha (by rw [q]; exact hp))]; exact x.n a ha

/-! ### data -/
mutual
inductive Is (K : PySem.W.Frag) (F : Hp) : V → PyData → Prop
  | non : Is K F .non .none
  | bl (b : Bool) : Is K F (.bl b) (.bool b)
  | int (i : Int) : Is K F (.int i) (.int i)
  | str (x : Str) : Is K F (.str x) (.str x)
  | lst {a : Addr} {xs : List V} {ds : List PyData} : F a = some (.lst xs) → IsAll K F xs ds → Is K F (.ref a) (.list ds)
  | tup {a : Addr} {xs : List V} {ds : List PyData} : F a = some (.tup xs) → IsAll K F xs ds → Is K F (.ref a) (.tuple ds)
inductive IsAll (K : PySem.W.Frag) (F : Hp) : List V → List PyData → Prop
  | nil : IsAll K F [] []
  | cons {v : V} {vs : List V} {d : PyData} {ds : List PyData} : Is K F v d → IsAll K F vs ds → IsAll K F (v :: vs) (d :: ds)
end
section
variable {K : PySem.W.Frag} {F F' : Hp}
mutual
theorem Is.mono (e : Ex F F') : ∀ {v : V} {d : PyData}, Is K F v d → Is K F' v d
  | _, _, .non => .non
  | _, _, .bl b => .bl b
  | _, _, .int i => .int i
  | _, _, .str x => .str x
  | _, _, .lst h a => .lst (e.g h) (IsAll.mono e a)
  | _, _, .tup h a => .tup (e.g h) (IsAll.mono e a)
theorem IsAll.mono (e : Ex F F') : ∀ {vs : List V} {ds : List PyData}, IsAll K F vs ds → IsAll K F' vs ds
  | _, _, .nil => .nil
  | _, _, .cons h a => .cons (Is.mono e h) (IsAll.mono e a)
end
mutual
theorem Is.dp : ∀ {v : V} {d : PyData}, Is K F v d → Dp K F v d
  | _, _, .non => .non
  | _, _, .bl b => .bl b
  | _, _, .int i => .int i
  | _, _, .str x => .str x
  | _, _, .lst h a => .lst (SqL.of h) (IsAll.dp a)
  | _, _, .tup h a => .tup (SqT.of h) (IsAll.dp a)
theorem IsAll.dp : ∀ {vs : List V} {ds : List PyData}, IsAll K F vs ds → DpAll K F vs ds
  | _, _, .nil => .nil
  | _, _, .cons h a => .cons (Is.dp h) (IsAll.dp a)
end
theorem IsAll.len : ∀ {vs : List V} {ds : List PyData}, IsAll K F vs ds → vs.length = ds.length
  | _, _, .nil => rfl
  | _, _, .cons _ a => congrArg (· + 1) (IsAll.len a)
theorem IsAll.get : ∀ {vs : List V} {ds : List PyData} {i : Nat} {d : PyData}, IsAll K F vs ds → ds[i]? = some d → ∃ v, vs[i]? = some v ∧ Is K F v d
  | _, _, _, _, .nil, e => by simp at e
  | _, _, 0, _, .cons h _, e => by cases e; exact ⟨_, rfl, h⟩
  | _, _, i + 1, _, .cons _ a, e => IsAll.get (i := i) a e
theorem IsAll.get' : ∀ {vs : List V} {ds : List PyData} {i : Nat} {v : V}, IsAll K F vs ds → vs[i]? = some v → ∃ d, ds[i]? = some d ∧ Is K F v d
  | _, _, _, _, .nil, e => by simp at e
  | _, _, 0, _, .cons h _, e => by cases e; exact ⟨_, rfl, h⟩
  | _, _, i + 1, _, .cons _ a, e => IsAll.get' (i := i) a e
theorem IsAll.append : ∀ {vs ws : List V} {ds es : List PyData}, IsAll K F vs ds → IsAll K F ws es → IsAll K F (vs ++ ws) (ds ++ es)
  | _, _, _, _, .nil, b => b
  | _, _, _, _, .cons h a, b => .cons h (IsAll.append a b)
theorem IsAll.take : ∀ {vs : List V} {ds : List PyData} (n : Nat), IsAll K F vs ds → IsAll K F (vs.take n) (ds.take n)
  | _, _, 0, _ => .nil
  | _, _, _ + 1, .nil => .nil
  | _, _, n + 1, .cons h a => .cons h (IsAll.take n a)
theorem IsAll.drop : ∀ {vs : List V} {ds : List PyData} (n : Nat), IsAll K F vs ds → IsAll K F (vs.drop n) (ds.drop n)
  | _, _, 0, a => a
  | _, _, _ + 1, .nil => .nil
  | _, _, n + 1, .cons _ a => IsAll.drop n a
theorem IsAll.dropLast : ∀ {vs : List V} {ds : List PyData}, IsAll K F vs ds → IsAll K F vs.dropLast ds.dropLast
  | _, _, .nil => .nil
  | _, _, .cons _ .nil => .nil
  | _, _, .cons h (.cons h2 a) => .cons h (IsAll.dropLast (.cons h2 a))
theorem IsAll.set : ∀ {vs : List V} {ds : List PyData} {v : V} {d : PyData} (n : Nat), IsAll K F vs ds → Is K F v d → IsAll K F (vs.set n v) (ds.set n d)
  | _, _, _, _, _, .nil, _ => .nil
  | _, _, _, _, 0, .cons _ a, q => .cons q a
  | _, _, _, _, n + 1, .cons h a, q => .cons h (IsAll.set n a q)
theorem IsAll.erase : ∀ {vs : List V} {ds : List PyData} (n : Nat), IsAll K F vs ds → IsAll K F (vs.eraseIdx n) (ds.eraseIdx n)
  | _, _, _, .nil => .nil
  | _, _, 0, .cons _ a => a
  | _, _, n + 1, .cons h a => .cons h (IsAll.erase n a)
theorem IsAll.strs : ∀ (zs : List Str), IsAll K F (zs.map V.str) (zs.map PyData.str)
  | [] => .nil
  | z :: zs => .cons (.str z) (IsAll.strs zs)
theorem IsAll.ints : ∀ (zs : List Int), IsAll K F (zs.map V.int) (zs.map PyData.int)
  | [] => .nil
  | z :: zs => .cons (.int z) (IsAll.ints zs)
theorem IsAll.bools : ∀ (zs : List Bool), IsAll K F (zs.map V.bl) (zs.map PyData.bool)
  | [] => .nil
  | z :: zs => .cons (.bl z) (IsAll.bools zs)
theorem Is.str_eq {v : V} {z : Str} (h : Is K F v (.str z)) : v = .str z := by cases h; rfl
theorem Is.int_eq {v : V} {z : Int} (h : Is K F v (.int z)) : v = .int z := by cases h; rfl
theorem Is.bl_eq {v : V} {z : Bool} (h : Is K F v (.bool z)) : v = .bl z := by cases h; rfl
theorem Is.non_eq {v : V} (h : Is K F v .none) : v = .non := by cases h; rfl
theorem IsAll.strs_eq : ∀ {zs : List Str} {vs : List V}, IsAll K F vs (zs.map PyData.str) → vs = zs.map V.str
  | [], _, h => by cases h; rfl
  | z :: zs, _, h => by
    cases h with
    | cons h a => rw [h.str_eq, IsAll.strs_eq a]; rfl
theorem IsAll.ints_eq : ∀ {zs : List Int} {vs : List V}, IsAll K F vs (zs.map PyData.int) → vs = zs.map V.int
  | [], _, h => by cases h; rfl
  | z :: zs, _, h => by
    cases h with
    | cons h a => rw [h.int_eq, IsAll.ints_eq a]; rfl
theorem IsAll.bools_eq : ∀ {zs : List Bool} {vs : List V}, IsAll K F vs (zs.map PyData.bool) → vs = zs.map V.bl
  | [], _, h => by cases h; rfl
  | z :: zs, _, h => by
    cases h with
    | cons h a => rw [h.bl_eq, IsAll.bools_eq a]; rfl
end

/-! ### slots: data that nobody changes; a list that can be read; a list of one's own; a value as it is -/
inductive Sl where
  | un
  | sh (d : PyData)
  | bo (ds : List PyData)
  | ow (l : Addr) (ds : List PyData)
  | raw (v : V)
  /-- a thing of one's own: the places that it holds, what stands there -/
  | rg (fp : List Addr) (P : V → Hp → Hp → Prop)
  /-- a thing of the caller's, as it stood at the entry -/
  | rb (P : V → Hp → Hp → Prop)
/-- the places that a slot holds for itself -/
def Sl.fp : Sl → List Addr
  | .ow l _ => [l]
  | .rg fp _ => fp
  | _ => []
def SlOk (K : PySem.W.Frag) (B F H : Hp) : Option V → Sl → Prop
  | _, .un => True
  | some v, .sh d => Is K F v d
  | some v, .bo ds => ∃ l vs, v = .ref l ∧ SqL K B l vs ∧ IsAll K F vs ds
  | some v, .ow l ds => v = .ref l ∧ F l = none ∧ B l = none ∧ ∃ vs, H l = some (.lst vs) ∧ IsAll K F vs ds
  | some v, .raw w => v = w
  | some v, .rg fp P => (∀ F' H', Ex F F' → (∀ a ∈ fp, H' a = H a) → P v F' H') ∧ ∀ a ∈ fp, F a = none ∧ B a = none ∧ Std H a
  | some v, .rb P => ∀ F' H', Ex F F' → Ex B H' → P v F' H'
  | none, _ => False
theorem SlOk.held {K : PySem.W.Frag} {B F H : Hp} : ∀ {o : Option V} {t : Sl} {a : Addr}, SlOk K B F H o t → a ∈ t.fp → F a = none ∧ B a = none ∧ Std H a
  | some _, .ow l _, a, ⟨_, hf, hb, vs, h, _⟩, m => by
    rw [List.mem_singleton.mp m]
    exact ⟨hf, hb, .of h⟩
  | some _, .rg fp P, a, ⟨_, h⟩, m => h a m
  | none, .ow _ _, _, h, _ => h.elim
  | none, .rg _ _, _, h, _ => h.elim
  | _, .un, _, _, m => nomatch m
  | _, .sh _, _, _, m => nomatch m
  | _, .bo _, _, _, m => nomatch m
  | _, .raw _, _, _, m => nomatch m
  | _, .rb _, _, _, m => nomatch m
/-- what a slot tells stays where the places that it holds stay -/
theorem SlOk.mut {K : PySem.W.Frag} {B F H H' : Hp} : ∀ {o : Option V} {t : Sl}, SlOk K B F H o t → (∀ a ∈ t.fp, H' a = H a) → SlOk K B F H' o t
  | _, .un, _, _ => trivial
  | some _, .sh _, h, _ => h
  | some _, .bo _, h, _ => h
  | some _, .raw _, h, _ => h
  | some _, .rb _, h, _ => h
  | some _, .ow l _, ⟨e, hf, hb, vs, h, a⟩, m => ⟨e, hf, hb, vs, (m l (List.mem_singleton.mpr rfl)).trans h, a⟩
  | some _, .rg fp P, ⟨h, q⟩, m => ⟨fun F' H2 x y => h F' H2 x fun a ha => (y a ha).trans (m a ha), fun a ha => ⟨(q a ha).1, (q a ha).2.1, by obtain ⟨u, e, n⟩ := (q a ha).2.2; exact ⟨u, (m a ha).trans e, n⟩⟩⟩
  | none, .sh _, h, _ => h.elim
  | none, .bo _, h, _ => h.elim
  | none, .ow _ _, h, _ => h.elim
  | none, .raw _, h, _ => h.elim
  | none, .rg _ _, h, _ => h.elim
  | none, .rb _, h, _ => h.elim
theorem SlOk.frz {K : PySem.W.Frag} {B F F' H : Hp} (xf : Ex F F') : ∀ {o : Option V} {t : Sl}, SlOk K B F H o t → (∀ a ∈ t.fp, F' a = F a) → SlOk K B F' H o t
  | _, .un, _, _ => trivial
  | some _, .sh _, h, _ => Is.mono xf h
  | some _, .bo _, ⟨l, vs, e, h, a⟩, _ => ⟨l, vs, e, h, a.mono xf⟩
  | some _, .raw _, h, _ => h
  | some _, .rb _, h, _ => fun F2 H2 x y => h F2 H2 (xf.trans x) y
  | some _, .ow l _, ⟨e, hf, hb, vs, h, a⟩, m => ⟨e, (m l (List.mem_singleton.mpr rfl)).trans hf, hb, vs, h, a.mono xf⟩
  | some _, .rg fp P, ⟨h, q⟩, m => ⟨fun F2 H2 x y => h F2 H2 (xf.trans x) y, fun a ha => ⟨(m a ha).trans (q a ha).1, (q a ha).2⟩⟩
  | none, .sh _, h, _ => h.elim
  | none, .bo _, h, _ => h.elim
  | none, .ow _ _, h, _ => h.elim
  | none, .raw _, h, _ => h.elim
  | none, .rg _ _, h, _ => h.elim
  | none, .rb _, h, _ => h.elim
/-- the slots hold what is told of them; B: the heap at the def's entry -/
structure En (K : PySem.W.Frag) (B F H : Hp) (σ : L2.St) (ρ : List Sl) : Prop where
  i : Ex F H
  b : Ex B H
  s : ∀ (j : Nat) (s : Sl), ρ[j]? = some s → ∃ o, σ[j]? = some o ∧ SlOk K B F H o s
  d : ∀ (i j : Nat) (s t : Sl) (a : Addr), ρ[i]? = some s → ρ[j]? = some t → a ∈ s.fp → a ∈ t.fp → i = j
  t : LamX.Tabs TabC.T H
theorem SlOk.ext {K : PySem.W.Frag} {B F H F' H' : Hp} (x : Ext F H F' H') {o : Option V} {s : Sl} (h : SlOk K B F H o s) : SlOk K B F' H' o s := by
  have k : ∀ a ∈ s.fp, H' a = H a ∧ F' a = F a := fun a ha => by
    have q := (h.held ha).2.2
    refine ⟨?_, x.n a q.ne⟩
    obtain ⟨u, e, n, _⟩ := q
    rw [e]; exact x.h.g e n
  exact (h.mut fun a ha => (k a ha).1).frz x.f fun a ha => (k a ha).2
theorem _root_.LamX.Tabs.ups {H H' : Hp} (t : LamX.Tabs TabC.T H) (x : Tb H H') : LamX.Tabs TabC.T H' := x t
theorem En.ext {K : PySem.W.Frag} {B F H F' H' : Hp} {σ : L2.St} {ρ : List Sl} (E : En K B F H σ ρ) (x : Ext F H F' H') : En K B F' H' σ ρ :=
  ⟨x.i, E.b.trans x.h, fun j s e => let ⟨o, q, h⟩ := E.s j s e; ⟨o, q, h.ext x⟩, E.d, E.t.ups x.t⟩
theorem set_at {α : Type} {xs : List α} {i j : Nat} {x y : α} (e : (xs.set i x)[j]? = some y) : (i = j ∧ i < xs.length ∧ y = x) ∨ (i ≠ j ∧ xs[j]? = some y) := by
  by_cases q : i = j
  · subst q
    by_cases hi : i < xs.length
    · rw [List.getElem?_set_self hi] at e
      exact .inl ⟨rfl, hi, (Option.some.inj e).symm⟩
    · rw [List.getElem?_eq_none (by rw [List.length_set]; omega)] at e
      cases e
  · rw [List.getElem?_set_ne q] at e
    exact .inr ⟨q, e⟩
theorem En.set_ {K : PySem.W.Frag} {B F H : Hp} {σ : L2.St} {ρ : List Sl} (E : En K B F H σ ρ) {i : Nat} {o : Option V} {s : Sl} (h : SlOk K B F H o s)
    (hd : ∀ (j : Nat) (t : Sl) (a : Addr), ρ[j]? = some t → a ∈ s.fp → a ∈ t.fp → i = j) : En K B F H (σ.set i o) (ρ.set i s) := by
  refine ⟨E.i, E.b, fun j t e => ?_, fun x y t u a ea eb ha hb => ?_, E.t⟩
  · rcases set_at e with ⟨rfl, hi, rfl⟩ | ⟨q, e⟩
    · obtain ⟨o2, e2, _⟩ := E.s i _ (List.getElem?_eq_getElem hi)
      exact ⟨o, List.getElem?_set_self (List.getElem?_eq_some_iff.mp e2).1, h⟩
    · obtain ⟨o2, e2, h2⟩ := E.s j t e
      exact ⟨o2, by rw [List.getElem?_set_ne q]; exact e2, h2⟩
  · rcases set_at ea with ⟨rfl, _, rfl⟩ | ⟨q1, ea2⟩
    · rcases set_at eb with ⟨rfl, _, _⟩ | ⟨_, eb2⟩
      · rfl
      · exact hd y u a eb2 ha hb
    · rcases set_at eb with ⟨rfl, _, rfl⟩ | ⟨_, eb2⟩
      · exact (hd x t a ea2 hb ha).symm
      · exact E.d x y t u a ea2 eb2 ha hb
def Sl.free : Sl → Bool
  | .ow _ _ => false
  | .rg _ _ => false
  | _ => true
theorem Sl.free_fp : ∀ {s : Sl} {a : Addr}, s.free = true → a ∈ s.fp → False
  | .ow _ _, _, h, _ => nomatch h
  | .rg _ _, _, h, _ => nomatch h
  | .un, _, _, m => nomatch m
  | .sh _, _, _, m => nomatch m
  | .bo _, _, _, m => nomatch m
  | .raw _, _, _, m => nomatch m
  | .rb _, _, _, m => nomatch m
theorem En.set {K : PySem.W.Frag} {B F H : Hp} {σ : L2.St} {ρ : List Sl} (E : En K B F H σ ρ) {i : Nat} {v : V} {s : Sl} (h : SlOk K B F H (some v) s) (hs : s.free = true) : En K B F H (σ.set i (some v)) (ρ.set i s) :=
  E.set_ h fun j t a _ ha _ => (Sl.free_fp hs ha).elim
/-- a new list of one's own -/
theorem En.own {K : PySem.W.Frag} {B F H F' H' : Hp} {σ : L2.St} {ρ : List Sl} (E : En K B F H σ ρ) (x : Ext F H F' H') {i : Nat} {p : Addr} {vs : List V} {ds : List PyData} (hp : H p = none) (hf : F' p = none) (hh : H' p = some (.lst vs)) (a : IsAll K F' vs ds) :
    En K B F' H' (σ.set i (some (.ref p))) (ρ.set i (.ow p ds)) :=
  (E.ext x).set_ (o := some (.ref p)) ⟨rfl, hf, E.b.back hp, vs, hh, a⟩ fun j t b ej hb ht => by
    obtain ⟨o, _, h2⟩ := E.s j _ ej
    rw [List.mem_singleton.mp hb] at ht
    exact absurd hp (h2.held ht).2.2.ne
/-- one's own list is changed -/
theorem En.wr {K : PySem.W.Frag} {B F H : Hp} {σ : L2.St} {ρ : List Sl} (E : En K B F H σ ρ) {i : Nat} {l : Addr} {ds es : List PyData} {ws : List V} (hi : ρ[i]? = some (.ow l ds)) (a : IsAll K F ws es) :
    En K B F (upd H l (.lst ws)) σ (ρ.set i (.ow l es)) := by
  obtain ⟨o, e1, h1⟩ := E.s i _ hi
  cases o with
  | none => exact h1.elim
  | some v =>
  obtain ⟨e0, hf, hb, vs, hh, _⟩ := h1
  refine ⟨E.i.mut hf, E.b.mut hb, fun j t e => ?_, fun x y t u b ea eb ha hb => ?_, E.t.ups ((Tb.refl H).mut hh)⟩
  · rcases set_at e with ⟨rfl, _, rfl⟩ | ⟨q, e⟩
    · exact ⟨_, e1, e0, hf, hb, ws, upd_same, a⟩
    · obtain ⟨o2, e2, h2⟩ := E.s j t e
      refine ⟨o2, e2, h2.mut fun b hb => upd_ne fun z => ?_⟩
      rw [z] at hb
      exact q (E.d i j _ t l hi e (List.mem_singleton.mpr rfl) hb)
  · have back : ∀ (z : Nat) (s : Sl), (ρ.set i (.ow l es))[z]? = some s → b ∈ s.fp → ∃ s2, ρ[z]? = some s2 ∧ b ∈ s2.fp := fun z s e m => by
      rcases set_at e with ⟨rfl, _, rfl⟩ | ⟨_, e⟩
      · exact ⟨_, hi, m⟩
      · exact ⟨s, e, m⟩
    obtain ⟨s1, h1, m1⟩ := back x t ea ha
    obtain ⟨s2, h2, m2⟩ := back y u eb hb
    exact E.d x y s1 s2 b h1 h2 m1 m2
/-- one's own list is told for ever -/
theorem En.frz {K : PySem.W.Frag} {B F H : Hp} {σ : L2.St} {ρ : List Sl} (E : En K B F H σ ρ) {i : Nat} {l : Addr} {ds : List PyData} (hi : ρ[i]? = some (.ow l ds)) :
    ∃ F', Ex F F' ∧ (∀ a, B a ≠ none → F' a = F a) ∧ En K B F' H σ (ρ.set i (.sh (.list ds))) := by
  obtain ⟨o, e1, h1⟩ := E.s i _ hi
  cases o with
  | none => exact h1.elim
  | some v =>
  obtain ⟨e0, hf, hb, vs, hh, a0⟩ := h1
  have xf : Ex F (upd F l (.lst vs)) := Ex.new hf
  refine ⟨upd F l (.lst vs), xf, fun a ha => by rw [upd_ne (fun q => ha (by rw [q]; exact hb))], E.i.know hf hh, E.b, fun j t e => ?_, fun x y t u b ea eb ha hb => ?_, E.t⟩
  · rcases set_at e with ⟨rfl, _, rfl⟩ | ⟨q, e⟩
    · subst e0
      exact ⟨_, e1, .lst upd_same (a0.mono xf)⟩
    · obtain ⟨o2, e2, h2⟩ := E.s j t e
      refine ⟨o2, e2, h2.frz xf fun b hb => upd_ne fun z => ?_⟩
      rw [z] at hb
      exact q (E.d i j _ t l hi e (List.mem_singleton.mpr rfl) hb)
  · have back : ∀ (z : Nat) (s : Sl), (ρ.set i (.sh (.list ds)))[z]? = some s → b ∈ s.fp → ρ[z]? = some s := fun z s e m => by
      rcases set_at e with ⟨rfl, _, rfl⟩ | ⟨_, e⟩
      · exact nomatch m
      · exact e
    exact E.d x y t u b (back x t ea ha) (back y u eb hb) ha hb
end PD

set_option maxHeartbeats 4000000
namespace PD
open PySem L2
variable [PD.TabC]

def isNone : PyData → Bool
  | .none => true
  | _ => false
/-! ### judgements of expressions. ex C: the class C may be raised here; W: what is wanted then -/
def Xc (W : WX) (ex : Addr → Prop) (F H : Hp) (σ : L2.St) : Prop := ∀ C F' H', ex C → Ext F H F' H' → W (.ref C) none σ H'
theorem Xc.ext {W : WX} {ex : Addr → Prop} {F H F1 H1 : Hp} {σ : L2.St} (c : Xc W ex F H σ) (x : Ext F H F1 H1) : Xc W ex F1 H1 σ := fun C F' H' e y => c C F' H' e (x.trans y)
def noX : Addr → Prop := fun _ => False
theorem xc0 {W : WX} {F H : Hp} {σ : L2.St} : Xc W noX F H σ := fun _ _ _ e => e.elim
/-- a value that is data -/
def ED (X : Cx) (W : WX) (ex : Addr → Prop) (e : Expr) (ρ : List Sl) (d : PyData) : Prop := ∀ B F H σ (Q : VK), En X.K B F H σ ρ → Xc W ex F H σ → (∀ v F' H', Ext F H F' H' → Is X.K F' v d → Q v H') → WE X e σ H Q
/-- a new list -/
def EL (X : Cx) (W : WX) (ex : Addr → Prop) (e : Expr) (ρ : List Sl) (ds : List PyData) : Prop := ∀ B F H σ (Q : VK), En X.K B F H σ ρ → Xc W ex F H σ →
  (∀ p vs F' H', Ext F H F' H' → H p = none → F' p = none → H' p = some (.lst vs) → IsAll X.K F' vs ds → Q (.ref p) H') → WE X e σ H Q
/-- a list that can be read -/
def EB (X : Cx) (W : WX) (ex : Addr → Prop) (e : Expr) (ρ : List Sl) (ds : List PyData) : Prop := ∀ B F H σ (Q : VK), En X.K B F H σ ρ → Xc W ex F H σ →
  (∀ p vs F' H', Ext F H F' H' → SqL X.K H' p vs → IsAll X.K F' vs ds → Q (.ref p) H') → WE X e σ H Q
/-- .. that nobody changes -/
def EP' (X : Cx) (W : WX) (ex : Addr → Prop) (e : Expr) (ρ : List Sl) (ds : List PyData) : Prop := ∀ B F H σ (Q : VK), En X.K B F H σ ρ → Xc W ex F H σ →
  (∀ p vs F' H', Ext F H F' H' → (SqL X.K B p vs ∨ SqL X.K F' p vs) → IsAll X.K F' vs ds → Q (.ref p) H') → WE X e σ H Q
/-- a test -/
def ET (X : Cx) (W : WX) (ex : Addr → Prop) (e : Expr) (ρ : List Sl) (b : Bool) : Prop := ∀ B F H σ (Q : Bool → Hp → Prop), En X.K B F H σ ρ → Xc W ex F H σ → (∀ F' H', Ext F H F' H' → Q b H') → WT X e σ H Q
def EW (X : Cx) (W : WX) (ex : Addr → Prop) (e : Expr) (ρ : List Sl) (b : Bool) : Prop := ∀ B F H σ (Q : Bool → Hp → Prop), En X.K B F H σ ρ → Xc W ex F H σ → (∀ F' H', Ext F H F' H' → Q b H') → WW X e σ H Q
/-- arguments -/
def AgOk (K : PySem.W.Frag) (F H : Hp) (v : V) : Sl → Prop
  | .sh d => Is K F v d
  | .bo ds => ∃ l vs, v = .ref l ∧ SqL K H l vs ∧ IsAll K F vs ds
  | .raw w => v = w
  | .rb P => ∀ F' H', Ex F F' → Ex H H' → P v F' H'
  | _ => False
abbrev AgsOk (K : PySem.W.Frag) (F H : Hp) : List V → List Sl → Prop := Paired (AgOk K F H)
theorem AgOk.ext {K : PySem.W.Frag} {F H F' H' : Hp} (x : Ext F H F' H') {v : V} : ∀ {s : Sl}, AgOk K F H v s → AgOk K F' H' v s
  | .sh _, h => Is.mono x.f h
  | .bo _, ⟨l, vs, e, h, a⟩ => ⟨l, vs, e, x.h.sql h, a.mono x.f⟩
  | .raw _, h => h
  | .rb _, h => fun F2 H2 y z => h F2 H2 (x.f.trans y) (x.h.trans z)
  | .un, h => h.elim
  | .ow _ _, h => h.elim
  | .rg _ _, h => h.elim
def EA (X : Cx) (W : WX) (ex : Addr → Prop) (es : List Expr) (ρ : List Sl) (as : List Sl) : Prop := ∀ B F H σ (Q : List V → Hp → Prop), En X.K B F H σ ρ → Xc W ex F H σ → (∀ vs F' H', Ext F H F' H' → AgsOk X.K F' H' vs as → Q vs H') → WA X es σ H Q

section
variable {X : Cx} {W : WX} {ex : Addr → Prop} {e a b c o : Expr} {es : List Expr} {ρ : List Sl} {d x y z : PyData} {ds xs ys : List PyData} {pos p p2 apos : Pos}
theorem EL.dat (h : EL X W ex e ρ ds) : ED X W ex e ρ (.list ds) := fun B F H σ Q E c q => h B F H σ Q E c fun p vs F' H' x hp hf hh a => q _ _ H' (x.told hp hf hh) (.lst upd_same (a.mono (Ex.new hf)))
theorem EP'.rd (h : EP' X W ex e ρ ds) : EB X W ex e ρ ds := fun B F H σ Q E c q => h B F H σ Q E c fun p vs F' H' x hs a => q p vs F' H' x (by
  rcases hs with hs | hs
  · exact (E.b.trans x.h).sql hs
  · exact x.i.sql hs) a
theorem ED.pst (h : ED X W ex e ρ (.list ds)) : EP' X W ex e ρ ds := fun B F H σ Q E c q => h B F H σ Q E c fun v F' H' x i => by
  cases i with
  | lst h a => exact q _ _ F' H' x (.inr (SqL.of h)) a
theorem ED.rd (h : ED X W ex e ρ (.list ds)) : EB X W ex e ρ ds := h.pst.rd
theorem EL.pst (h : EL X W ex e ρ ds) : EP' X W ex e ρ ds := h.dat.pst
theorem EL.rd (h : EL X W ex e ρ ds) : EB X W ex e ρ ds := h.dat.pst.rd

/-! names, constants -/
theorem ed_at {i : Nat} {n : Str} (hN : X.N[i]? = some n) (hv : Vis X.env.scope n) (hs : ρ[i]? = some (.sh d)) (hd : (n == ("__debug__" : Str)) = false := by decide) (hcd : (n == ("__classdict__" : Str)) = false := by decide) : ED X W ex (.Name n pos) ρ d :=
  fun B F H σ Q E _ q => by
    obtain ⟨o, e1, h⟩ := E.s i _ hs
    cases o with
    | none => exact h.elim
    | some v => exact w_e (pe_var hN hv hd hcd) ⟨v, e1, q v F H (Ext.refl E.i) h⟩
theorem eb_bo {i : Nat} {n : Str} (hN : X.N[i]? = some n) (hv : Vis X.env.scope n) (hs : ρ[i]? = some (.bo ds)) (hd : (n == ("__debug__" : Str)) = false := by decide) (hcd : (n == ("__classdict__" : Str)) = false := by decide) : EP' X W ex (.Name n pos) ρ ds :=
  fun B F H σ Q E _ q => by
    obtain ⟨o, e1, h⟩ := E.s i _ hs
    cases o with
    | none => exact h.elim
    | some v =>
      obtain ⟨l, vs, rfl, hl, ha⟩ := h
      exact w_e (pe_var hN hv hd hcd) ⟨_, e1, q l vs F H (Ext.refl E.i) (.inl hl) ha⟩
theorem eb_ow {i : Nat} {n : Str} {l : Addr} (hN : X.N[i]? = some n) (hv : Vis X.env.scope n) (hs : ρ[i]? = some (.ow l ds)) (hd : (n == ("__debug__" : Str)) = false := by decide) (hcd : (n == ("__classdict__" : Str)) = false := by decide) : EB X W ex (.Name n pos) ρ ds :=
  fun B F H σ Q E _ q => by
    obtain ⟨o, e1, h⟩ := E.s i _ hs
    cases o with
    | none => exact h.elim
    | some v =>
      obtain ⟨rfl, hf, hb, vs, hl, ha⟩ := h
      exact w_e (pe_var hN hv hd hcd) ⟨_, e1, q l vs F H (Ext.refl E.i) (SqL.of hl) ha⟩
theorem ed_int {i : Int} {j} : ED X W ex (.Constant (.int i) j pos) ρ (.int i) := fun B F H σ Q E _ q => w_e pe_int (q _ F H (Ext.refl E.i) (.int i))
theorem ed_bl {i : Bool} {j} : ED X W ex (.Constant (.bool i) j pos) ρ (.bool i) := fun B F H σ Q E _ q => w_e pe_bl (q _ F H (Ext.refl E.i) (.bl i))
theorem ed_str {i : Str} {j} : ED X W ex (.Constant (.str i) j pos) ρ (.str i) := fun B F H σ Q E _ q => w_e pe_str (q _ F H (Ext.refl E.i) (.str i))
theorem ed_non {j} : ED X W ex (.Constant .none j pos) ρ .none := fun B F H σ Q E _ q => w_e pe_non (q _ F H (Ext.refl E.i) .non)
/-- a module's constant -/
theorem ed_gint {n : Str} {i : Int} (hg : Gl X n) (hm : ∃ t, X.mg n = some (.int i t)) (hd : (n == ("__debug__" : Str)) = false := by decide) : ED X W ex (.Name n pos) ρ (.int i) := fun B F H σ Q E _ q => by
  obtain ⟨t, hm⟩ := hm
  exact w_e (pe_glob (v := .int i) hg hm ⟨t, rfl⟩ hd) (q _ F H (Ext.refl E.i) (.int i))
theorem ed_gstr {n i : Str} (hg : Gl X n) (hm : ∃ t, X.mg n = some (.str i t)) (hd : (n == ("__debug__" : Str)) = false := by decide) : ED X W ex (.Name n pos) ρ (.str i) := fun B F H σ Q E _ q => by
  obtain ⟨t, hm⟩ := hm
  exact w_e (pe_glob (v := .str i) hg hm ⟨t, rfl⟩ hd) (q _ F H (Ext.refl E.i) (.str i))
theorem ED.to (h : ED X W ex e ρ d) (q : d = x) : ED X W ex e ρ x := q ▸ h
theorem EL.to (h : EL X W ex e ρ ds) (q : ds = xs) : EL X W ex e ρ xs := q ▸ h
theorem EB.to (h : EB X W ex e ρ ds) (q : ds = xs) : EB X W ex e ρ xs := q ▸ h
theorem EP'.to (h : EP' X W ex e ρ ds) (q : ds = xs) : EP' X W ex e ρ xs := q ▸ h
theorem ET.to {k l : Bool} (h : ET X W ex e ρ k) (q : k = l) : ET X W ex e ρ l := q ▸ h

/-! operators -/
def R2D (K : PySem.W.Frag) (r : R2) (x y z : PyData) : Prop := ∀ v u F H (Q : VK), Ex F H → Is K F v x → Is K F u y → (∀ t F' H', Ext F H F' H' → Is K F' t z → Q t H') → r v u H Q
theorem ed_op {op : Operator} {r : R2} (ho : OpR X (binaryOp op) r) (ha : ED X W ex a ρ x) (hb : ED X W ex b ρ y) (hr : R2D X.K r x y z) : ED X W ex (.BinOp a op b pos) ρ z := fun B F H σ Q E c q =>
  w_e (pe_op ho pe_w pe_w) (ha B F H σ _ E c fun v F1 H1 x1 i1 => hb B F1 H1 σ _ (E.ext x1) (c.ext x1) fun u F2 H2 x2 i2 => hr v u F2 H2 Q x2.i (i1.mono x2.f) i2 fun t F3 H3 x3 i3 => q t F3 H3 ((x1.trans x2).trans x3) i3)
theorem ed_cmp {op : CmpOp} {r : R2} (ho : OpR X (compareOp op) r) (ha : ED X W ex a ρ x) (hb : ED X W ex b ρ y) (hm : behindInMarks op b = false) (hr : R2D X.K r x y z) : ED X W ex (.Compare a [op] [b] pos) ρ z := fun B F H σ Q E c q =>
  w_e (pe_cmpR ho pe_w pe_w hm) (ha B F H σ _ E c fun v F1 H1 x1 i1 => hb B F1 H1 σ _ (E.ext x1) (c.ext x1) fun u F2 H2 x2 i2 => hr v u F2 H2 Q x2.i (i1.mono x2.f) i2 fun t F3 H3 x3 i3 => q t F3 H3 ((x1.trans x2).trans x3) i3)
section
variable {K : PySem.W.Frag}
theorem r2_I0 {g : Int → Int → Int} {i j : Int} : R2D K (rI0 fun i j => V.int (g i j)) (.int i) (.int j) (.int (g i j)) := fun v u F H Q i0 hv hu q => ⟨i, j, hv.int_eq, hu.int_eq, q _ F H (Ext.refl i0) (.int _)⟩
theorem r2_I {C : Int → Int → Prop} {g : Int → Int → Int} {i j : Int} (h : C i j) : R2D K (rI C fun i j => V.int (g i j)) (.int i) (.int j) (.int (g i j)) := fun v u F H Q i0 hv hu q => ⟨i, j, hv.int_eq, hu.int_eq, h, q _ F H (Ext.refl i0) (.int _)⟩
theorem r2_B {g : Int → Int → Bool} {i j : Int} : R2D K (rI0 fun i j => V.bl (g i j)) (.int i) (.int j) (.bool (g i j)) := fun v u F H Q i0 hv hu q => ⟨i, j, hv.int_eq, hu.int_eq, q _ F H (Ext.refl i0) (.bl _)⟩
end
theorem ed_add {i j : Int} (ha : ED X W ex a ρ (.int i)) (hb : ED X W ex b ρ (.int j)) : ED X W ex (.BinOp a .Add b pos) ρ (.int (i + j)) := ed_op op_add ha hb r2_I0
theorem ed_sub {i j : Int} (ha : ED X W ex a ρ (.int i)) (hb : ED X W ex b ρ (.int j)) : ED X W ex (.BinOp a .Sub b pos) ρ (.int (i - j)) := ed_op op_sub ha hb r2_I0
theorem ed_mul {i j : Int} (ha : ED X W ex a ρ (.int i)) (hb : ED X W ex b ρ (.int j)) (h : CMul i j) : ED X W ex (.BinOp a .Mult b pos) ρ (.int (i * j)) := ed_op op_mul ha hb (r2_I h)
theorem ed_mod {i j : Int} (ha : ED X W ex a ρ (.int i)) (hb : ED X W ex b ρ (.int j)) (h : 0 < j) : ED X W ex (.BinOp a .Mod b pos) ρ (.int (i % j)) := ed_op op_mod ha hb (r2_I (C := fun _ j => 0 < j) h)
theorem ed_div {i j : Int} (ha : ED X W ex a ρ (.int i)) (hb : ED X W ex b ρ (.int j)) (h : CDiv i j) : ED X W ex (.BinOp a .FloorDiv b pos) ρ (.int (i / j)) := ed_op op_fdiv ha hb (r2_I h)
theorem ed_cat {i j : Str} (ha : ED X W ex a ρ (.str i)) (hb : ED X W ex b ρ (.str j)) (h : i.length + j.length ≤ 100000) : ED X W ex (.BinOp a .Add b pos) ρ (.str (i ++ j)) :=
  ed_op op_add_str ha hb fun v u F H Q i0 hv hu q => ⟨i, j, hv.str_eq, hu.str_eq, Nat.le_trans h (by decide), q _ F H (Ext.refl i0) (.str _)⟩
theorem sz_le {n : Nat} (h : n ≤ 100000) : n ≤ sizeLine := Nat.le_trans h (by decide)
theorem el_cat (ha : ED X W ex a ρ (.list xs)) (hb : ED X W ex b ρ (.list ys)) (h : xs.length + ys.length ≤ 100000) : EL X W ex (.BinOp a .Add b pos) ρ (xs ++ ys) := fun B F H σ Q E c q =>
  w_e (pe_op op_cat pe_w pe_w) (ha B F H σ _ E c fun v F1 H1 x1 i1 => hb B F1 H1 σ _ (E.ext x1) (c.ext x1) fun u F2 H2 x2 i2 => by
    cases i1 with
    | lst h1 a1 =>
    cases i2 with
    | lst h2 a2 =>
    rename_i l1 v1 l2 v2
    refine ⟨_, _, _, _, rfl, rfl, x2.i.g (x2.f.g h1), x2.i.g h2, by rw [a1.len, a2.len]; exact sz_le h, fun p hp => ?_⟩
    have x3 := Ext.kept (o := .lst (v1 ++ v2)) x2.i hp
    have hp0 : H p = none := (x1.trans x2).h.back hp
    exact q p _ F2 _ ((x1.trans x2).trans x3) hp0 (x2.i.back hp) upd_same ((a1.mono x2.f).append a2))
/-- [..] * n, the list made on the spot or told -/
theorem el_rep {k : Int} (ha : ED X W ex a ρ (.list xs)) (hb : ED X W ex b ρ (.int k)) (hk : -(2 ^ 63) ≤ k ∧ k < 2 ^ 63) (h : xs.length * k.toNat ≤ 100000) : EL X W ex (.BinOp a .Mult b pos) ρ (List.replicate k.toNat xs).flatten := fun B F H σ Q E c q =>
  w_e (pe_op op_rep pe_w pe_w) (ha B F H σ _ E c fun v F1 H1 x1 i1 => hb B F1 H1 σ _ (E.ext x1) (c.ext x1) fun u F2 H2 x2 i2 => by
    cases i1 with
    | lst h1 a1 =>
    rename_i l1 v1
    refine ⟨_, k, _, rfl, i2.int_eq, x2.i.g (x2.f.g h1), hk.1, hk.2, by rw [a1.len]; exact sz_le h, fun p hp => ?_⟩
    have x3 := Ext.kept (o := .lst (List.replicate k.toNat v1).flatten) x2.i hp
    have hp0 : H p = none := (x1.trans x2).h.back hp
    refine q p _ F2 _ ((x1.trans x2).trans x3) hp0 (x2.i.back hp) upd_same ?_
    have a3 := a1.mono x2.f
    generalize k.toNat = n
    induction n with
    | zero => exact .nil
    | succ n ih => rw [List.replicate_succ, List.replicate_succ, List.flatten_cons, List.flatten_cons]; exact a3.append ih)
/-! comparisons -/
theorem ed_lt {i j : Int} (ha : ED X W ex a ρ (.int i)) (hb : ED X W ex b ρ (.int j)) : ED X W ex (.Compare a [.Lt] [b] pos) ρ (.bool (decide (i < j))) := ed_cmp op_lt ha hb (nomark _) (r2_B (g := fun i j => decide (i < j)))
theorem ed_le {i j : Int} (ha : ED X W ex a ρ (.int i)) (hb : ED X W ex b ρ (.int j)) : ED X W ex (.Compare a [.LtE] [b] pos) ρ (.bool (decide (i ≤ j))) := ed_cmp op_le ha hb (nomark _) (r2_B (g := fun i j => decide (i ≤ j)))
theorem ed_gt {i j : Int} (ha : ED X W ex a ρ (.int i)) (hb : ED X W ex b ρ (.int j)) : ED X W ex (.Compare a [.Gt] [b] pos) ρ (.bool (decide (j < i))) := ed_cmp op_gt ha hb (nomark _) (r2_B (g := fun i j => decide (j < i)))
theorem ed_ge {i j : Int} (ha : ED X W ex a ρ (.int i)) (hb : ED X W ex b ρ (.int j)) : ED X W ex (.Compare a [.GtE] [b] pos) ρ (.bool (decide (j ≤ i))) := ed_cmp op_ge ha hb (nomark _) (r2_B (g := fun i j => decide (j ≤ i)))
section
variable {K : PySem.W.Frag}
theorem r2_eqI {i j : Int} : R2D K rEq (.int i) (.int j) (.bool (decide (i = j))) := fun v u F H Q i0 hv hu q => by
  rw [hv.int_eq, hu.int_eq]
  refine ⟨rfl, ?_⟩
  rw [show decide (V.int i = V.int j) = decide (i = j) from by simp]
  exact q _ F H (Ext.refl i0) (.bl _)
theorem r2_neI {i j : Int} : R2D K rNe (.int i) (.int j) (.bool (!decide (i = j))) := fun v u F H Q i0 hv hu q => by
  rw [hv.int_eq, hu.int_eq]
  refine ⟨rfl, ?_⟩
  rw [show decide (V.int i = V.int j) = decide (i = j) from by simp]
  exact q _ F H (Ext.refl i0) (.bl _)
theorem r2_eqS {i j : Str} : R2D K rEq (.str i) (.str j) (.bool (decide (i = j))) := fun v u F H Q i0 hv hu q => by
  rw [hv.str_eq, hu.str_eq]
  refine ⟨rfl, ?_⟩
  rw [show decide (V.str i = V.str j) = decide (i = j) from by simp]
  exact q _ F H (Ext.refl i0) (.bl _)
theorem r2_neS {i j : Str} : R2D K rNe (.str i) (.str j) (.bool (!decide (i = j))) := fun v u F H Q i0 hv hu q => by
  rw [hv.str_eq, hu.str_eq]
  refine ⟨rfl, ?_⟩
  rw [show decide (V.str i = V.str j) = decide (i = j) from by simp]
  exact q _ F H (Ext.refl i0) (.bl _)
end
theorem ed_eqI {i j : Int} (ha : ED X W ex a ρ (.int i)) (hb : ED X W ex b ρ (.int j)) : ED X W ex (.Compare a [.Eq] [b] pos) ρ (.bool (decide (i = j))) := ed_cmp op_eq ha hb (nomark _) r2_eqI
theorem ed_neI {i j : Int} (ha : ED X W ex a ρ (.int i)) (hb : ED X W ex b ρ (.int j)) : ED X W ex (.Compare a [.NotEq] [b] pos) ρ (.bool (!decide (i = j))) := ed_cmp op_ne ha hb (nomark _) r2_neI
theorem ed_eqS {i j : Str} (ha : ED X W ex a ρ (.str i)) (hb : ED X W ex b ρ (.str j)) : ED X W ex (.Compare a [.Eq] [b] pos) ρ (.bool (decide (i = j))) := ed_cmp op_eq ha hb (nomark _) r2_eqS
theorem ed_neS {i j : Str} (ha : ED X W ex a ρ (.str i)) (hb : ED X W ex b ρ (.str j)) : ED X W ex (.Compare a [.NotEq] [b] pos) ρ (.bool (!decide (i = j))) := ed_cmp op_ne ha hb (nomark _) r2_neS
theorem ed_eqD (hu : X.A.units + 64 < cLine) (ha : ED X W ex a ρ x) (hb : ED X W ex b ρ y) (hx : SeqAt.shaped x = true) (hy : SeqAt.shaped y = true) : ED X W ex (.Compare a [.Eq] [b] pos) ρ (.bool (PyData.eqv x y)) :=
  ed_cmp (op_eqD hu) ha hb (nomark _) fun v u F H Q i0 hv hu q => ⟨x, y, (hv.mono i0).dp, (hu.mono i0).dp, hx, hy, q _ F H (Ext.refl i0) (.bl _)⟩
theorem ed_neD (hu : X.A.units + 64 < cLine) (ha : ED X W ex a ρ x) (hb : ED X W ex b ρ y) (hx : SeqAt.shaped x = true) (hy : SeqAt.shaped y = true) : ED X W ex (.Compare a [.NotEq] [b] pos) ρ (.bool (!PyData.eqv x y)) :=
  ed_cmp (op_neD hu) ha hb (nomark _) fun v u F H Q i0 hv hu q => ⟨x, y, (hv.mono i0).dp, (hu.mono i0).dp, hx, hy, q _ F H (Ext.refl i0) (.bl _)⟩
theorem ed_leS {i j : Str} (ha : ED X W ex a ρ (.str i)) (hb : ED X W ex b ρ (.str j)) : ED X W ex (.Compare a [.LtE] [b] pos) ρ (.bool (!decide (j.cps.toList < i.cps.toList))) :=
  ed_cmp op_le_str ha hb (nomark _) fun v u F H Q i0 hv hu q => ⟨i, j, hv.str_eq, hu.str_eq, q _ F H (Ext.refl i0) (.bl _)⟩
theorem ed_geS {i j : Str} (ha : ED X W ex a ρ (.str i)) (hb : ED X W ex b ρ (.str j)) : ED X W ex (.Compare a [.GtE] [b] pos) ρ (.bool (!decide (i.cps.toList < j.cps.toList))) :=
  ed_cmp op_ge_str ha hb (nomark _) fun v u F H Q i0 hv hu q => ⟨i, j, hv.str_eq, hu.str_eq, q _ F H (Ext.refl i0) (.bl _)⟩
/-- one sign in a text -/
theorem ed_inC {k : Nat} {z : Str} (ha : ED X W ex a ρ (.str ⟨#[k]⟩)) (hb : ED X W ex b ρ (.str z)) (hm : behindInMarks .In b = false := by rfl) : ED X W ex (.Compare a [.In] [b] pos) ρ (.bool (decide (k ∈ z.cps.toList))) :=
  ed_cmp op_in_sign ha hb hm fun v u F H Q i0 hv hu q => ⟨k, z, hv.str_eq, hu.str_eq, q _ F H (Ext.refl i0) (.bl _)⟩
theorem ed_isN (ha : ED X W ex a ρ x) (hb : ED X W ex b ρ .none) : ED X W ex (.Compare a [.Is] [b] pos) ρ (.bool (isNone x)) :=
  ed_cmp op_isN ha hb (nomark _) fun v u F H Q i0 hv hu q => ⟨hu.non_eq, by
    have e : decide (v = V.non) = isNone x := by cases hv <;> rfl
    rw [e]; exact q _ F H (Ext.refl i0) (.bl _)⟩
theorem ed_notN (ha : ED X W ex a ρ x) (hb : ED X W ex b ρ .none) : ED X W ex (.Compare a [.IsNot] [b] pos) ρ (.bool (!isNone x)) :=
  ed_cmp op_notN ha hb (nomark _) fun v u F H Q i0 hv hu q => ⟨hu.non_eq, by
    have e : (!decide (v = V.non)) = (!isNone x) := by cases hv <;> rfl
    rw [e]; exact q _ F H (Ext.refl i0) (.bl _)⟩
theorem inV_strs {i : Str} : ∀ zs : List Str, inV (.str i) (zs.map V.str) = decide (i ∈ zs)
  | [] => by simp [inV]
  | z :: zs => by
    have ih := inV_strs (i := i) zs
    unfold inV at ih ⊢
    rw [List.map_cons, List.any_cons, ih]
    show ((z == i) || _) = _
    by_cases q : i = z
    · subst q; simp
    · have : (z == i) = false := beq_eq_false_iff_ne.mpr (fun h => q h.symm)
      rw [this]; simp [q]
theorem flat_strs (zs : List Str) : (zs.map V.str).all flatV = true := by
  rw [List.all_map, List.all_eq_true]; intro z _; rfl
/-- a text in a list of texts -/
theorem ed_inL {i : Str} {zs : List Str} (ha : ED X W ex a ρ (.str i)) (hb : EB X W ex b ρ (zs.map .str)) (hm : behindInMarks .In b = false := by rfl) : ED X W ex (.Compare a [.In] [b] pos) ρ (.bool (decide (i ∈ zs))) := fun B F H σ Q E c q =>
  w_e (pe_cmpR op_in_seq pe_w pe_w hm) (ha B F H σ _ E c fun v F1 H1 x1 i1 => hb B F1 H1 σ _ (E.ext x1) (c.ext x1) fun p vs F2 H2 x2 hs i2 => by
    rw [i1.str_eq]
    rw [i2.strs_eq] at hs
    refine ⟨p, _, rfl, .inl hs, rfl, flat_strs zs, ?_⟩
    rw [if_neg Bool.false_ne_true, inV_strs]
    exact q _ F2 H2 (x1.trans x2) (.bl _))
theorem ed_niL {i : Str} {zs : List Str} (ha : ED X W ex a ρ (.str i)) (hb : EB X W ex b ρ (zs.map .str)) (hm : behindInMarks .NotIn b = false := by rfl) : ED X W ex (.Compare a [.NotIn] [b] pos) ρ (.bool (!decide (i ∈ zs))) := fun B F H σ Q E c q =>
  w_e (pe_cmpR op_notIn_seq pe_w pe_w hm) (ha B F H σ _ E c fun v F1 H1 x1 i1 => hb B F1 H1 σ _ (E.ext x1) (c.ext x1) fun p vs F2 H2 x2 hs i2 => by
    rw [i1.str_eq]
    rw [i2.strs_eq] at hs
    refine ⟨p, _, rfl, .inl hs, rfl, flat_strs zs, ?_⟩
    rw [if_pos rfl, inV_strs]
    exact q _ F2 H2 (x1.trans x2) (.bl _))
/-- a text in a tuple of texts -/
theorem ed_niT {i : Str} {zs : List Str} (ha : ED X W ex a ρ (.str i)) (hb : ED X W ex b ρ (.tuple (zs.map .str))) (hm : behindInMarks .NotIn b = false := by rfl) : ED X W ex (.Compare a [.NotIn] [b] pos) ρ (.bool (!decide (i ∈ zs))) :=
  ed_cmp op_notIn_seq ha hb hm fun v u F H Q i0 hv hu q => by
    rw [hv.str_eq]
    cases hu with
    | tup hs a =>
    rw [a.strs_eq] at hs
    refine ⟨_, _, rfl, .inr (SqT.of (i0.g hs)), rfl, flat_strs zs, ?_⟩
    rw [if_pos rfl, inV_strs]
    exact q _ F H (Ext.refl i0) (.bl _)
/-- a text in a tuple of texts of the module's top -/
theorem ed_niG {i n : Str} {zs : List Str} {t : Addr} (ha : ED X W ex a ρ (.str i)) (hg : Gl X n) (hm : X.mg n = some (.ref t)) (ht : ∀ H, SqT X.K H t (zs.map V.str)) (hd : (n == ("__debug__" : Str)) = false := by decide) (hb : behindInMarks .NotIn (.Name n p) = false := by rfl) : ED X W ex (.Compare a [.NotIn] [.Name n p] pos) ρ (.bool (!decide (i ∈ zs))) := fun B F H σ Q E c q =>
  w_e (pe_cmpR op_notIn_seq pe_w (pe_glob (v := .ref t) hg hm rfl hd) hb) (ha B F H σ _ E c fun v F1 H1 x1 i1 => by
    rw [i1.str_eq]
    refine ⟨t, _, rfl, .inr (ht H1), rfl, flat_strs zs, ?_⟩
    rw [if_pos rfl, inV_strs]
    exact q _ F1 H1 x1 (.bl _))
theorem et_niG {i n : Str} {zs : List Str} {t : Addr} (ha : ED X W ex a ρ (.str i)) (hg : Gl X n) (hm : X.mg n = some (.ref t)) (ht : ∀ H, SqT X.K H t (zs.map V.str)) (hd : (n == ("__debug__" : Str)) = false := by decide) (hb : behindInMarks .NotIn (.Name n p) = false := by rfl) : ET X W ex (.Compare a [.NotIn] [.Name n p] pos) ρ (!decide (i ∈ zs)) := fun B F H σ Q E c q =>
  w_t (pt_cmpR op_notIn_seq pe_w (pe_glob (v := .ref t) hg hm rfl hd) hb) (ha B F H σ _ E c fun v F1 H1 x1 i1 => by
    rw [i1.str_eq]
    refine ⟨t, _, rfl, .inr (ht H1), rfl, flat_strs zs, ?_⟩
    rw [if_pos rfl, inV_strs]
    exact ⟨_, rfl, q F1 H1 x1⟩)
theorem ed_inT {i : Str} {zs : List Str} (ha : ED X W ex a ρ (.str i)) (hb : ED X W ex b ρ (.tuple (zs.map .str))) (hm : behindInMarks .In b = false := by rfl) : ED X W ex (.Compare a [.In] [b] pos) ρ (.bool (decide (i ∈ zs))) :=
  ed_cmp op_in_seq ha hb hm fun v u F H Q i0 hv hu q => by
    rw [hv.str_eq]
    cases hu with
    | tup hs a =>
    rw [a.strs_eq] at hs
    refine ⟨_, _, rfl, .inr (SqT.of (i0.g hs)), rfl, flat_strs zs, ?_⟩
    rw [if_neg Bool.false_ne_true, inV_strs]
    exact q _ F H (Ext.refl i0) (.bl _)
/-- a < b < c -/
theorem ed_chain {op op' : CmpOp} {r r' : R2} {k l : Bool} (ho : OpR X (compareOp op) r) (ho' : OpR X (compareOp op') r') (ha : ED X W ex a ρ x) (hb : ED X W ex b ρ y) (hc : ED X W ex c ρ z)
    (h1 : R2D X.K r x y (.bool k)) (h2 : R2D X.K r' y z (.bool l)) (hm : lastMarks [op, op'] [b, c] = false := by rfl) : ED X W ex (.Compare a [op, op'] [b, c] pos) ρ (.bool (k && l)) := fun B F H σ Q E g q =>
  w_e (pe_chain ho ho' pe_w pe_w pe_w hm) (ha B F H σ _ E g fun v F1 H1 x1 i1 => hb B F1 H1 σ _ (E.ext x1) (g.ext x1) fun u F2 H2 x2 i2 => h1 v u F2 H2 _ x2.i (i1.mono x2.f) i2 fun t F3 H3 x3 i3 => ⟨k, i3.bl_eq, by
    have x13 := (x1.trans x2).trans x3
    cases k with
    | false => exact iteF (q _ F3 H3 x13 (.bl _))
    | true => exact iteT (hc B F3 H3 σ _ (E.ext x13) (g.ext x13) fun t4 F4 H4 x4 i4 => h2 u t4 F4 H4 Q x4.i ((i2.mono x3.f).mono x4.f) i4 fun t5 F5 H5 x5 i5 => by
        rw [i5.bl_eq]; exact q _ F5 H5 ((x13.trans x4).trans x5) (.bl _))⟩)
end
end PD

set_option maxHeartbeats 4000000
namespace PD
open PySem L2
variable [PD.TabC]
section
variable {X : Cx} {W : WX} {ex : Addr → Prop} {e a b c o : Expr} {es : List Expr} {ρ : List Sl} {d x y z : PyData} {ds xs ys : List PyData} {pos p p2 apos : Pos}
/-! arguments -/
theorem ea_nil : EA X W ex [] ρ [] := fun B F H σ Q E c q => w_a pa_nil (q [] F H (Ext.refl E.i) .nil)
theorem AgsOk.ext {K : PySem.W.Frag} {F H F' H' : Hp} (x : Ext F H F' H') : ∀ {vs : List V} {as : List Sl}, AgsOk K F H vs as → AgsOk K F' H' vs as
  | _, _, .nil => .nil
  | _, _, .cons h t => .cons (h.ext x) (AgsOk.ext x t)
theorem ea_d {as : List Sl} (h : ED X W ex e ρ d) (r : EA X W ex es ρ as) (hs : starEach (e :: es) X.env = (false, eval e X.env) :: starEach es X.env := by rfl) : EA X W ex (e :: es) ρ (.sh d :: as) := fun B F H σ Q E c q =>
  w_a (pa_cons pe_w pa_w hs) (h B F H σ _ E c fun v F1 H1 x1 i1 => r B F1 H1 σ _ (E.ext x1) (c.ext x1) fun vs F2 H2 x2 i2 => q (v :: vs) F2 H2 (x1.trans x2) (.cons (i1.mono x2.f) i2))
theorem ea_b {as : List Sl} (h : EB X W ex e ρ ds) (r : EA X W ex es ρ as) (hs : starEach (e :: es) X.env = (false, eval e X.env) :: starEach es X.env := by rfl) : EA X W ex (e :: es) ρ (.bo ds :: as) := fun B F H σ Q E c q =>
  w_a (pa_cons pe_w pa_w hs) (h B F H σ _ E c fun p vs F1 H1 x1 h1 i1 => r B F1 H1 σ _ (E.ext x1) (c.ext x1) fun ws F2 H2 x2 i2 => q (.ref p :: ws) F2 H2 (x1.trans x2) (.cons ⟨p, vs, rfl, x2.h.sql h1, i1.mono x2.f⟩ i2))
theorem ea_raw {as : List Sl} {i : Nat} {n : Str} {w : V} (hN : X.N[i]? = some n) (hv : Vis X.env.scope n) (hw : ρ[i]? = some (.raw w)) (r : EA X W ex es ρ as) (hs : starEach (.Name n pos :: es) X.env = (false, eval (.Name n pos) X.env) :: starEach es X.env := by rfl)
    (hd : (n == ("__debug__" : Str)) = false := by decide) (hcd : (n == ("__classdict__" : Str)) = false := by decide) : EA X W ex (.Name n pos :: es) ρ (.raw w :: as) := fun B F H σ Q E c q => by
  obtain ⟨o, e1, h⟩ := E.s i _ hw
  cases o with
  | none => exact h.elim
  | some v => exact w_a (pa_cons (pe_var hN hv hd hcd) pa_w hs) ⟨v, e1, r B F H σ _ E c fun ws F2 H2 x2 i2 => q (v :: ws) F2 H2 x2 (.cons h i2)⟩
/-! displays -/
theorem ea_data : ∀ {K : PySem.W.Frag} {F H : Hp} {vs : List V} {ds : List PyData}, AgsOk K F H vs (ds.map .sh) → IsAll K F vs ds
  | _, _, _, _, [], h => by cases h; exact .nil
  | _, _, _, _, d :: ds, h => by
    cases h with
    | cons h t => exact .cons h (ea_data t)
theorem ed_tup {k : Nat} (h : EA X W ex es ρ (ds.map .sh)) (hl : ds.length ≤ 100000) : ED X W ex (.Tuple es k pos) ρ (.tuple ds) := fun B F H σ Q E c q =>
  w_e (pe_tup pa_w) (h B F H σ _ E c fun vs F1 H1 x1 i1 => by
    have i2 := ea_data i1
    refine ⟨by rw [i2.len]; exact sz_le hl, fun p hp => ?_⟩
    have x2 := Ext.made (o := .tup vs) x1.i hp
    exact q _ _ _ (x1.trans x2) (.tup upd_same (i2.mono x2.f)))
theorem el_lst (h : EA X W ex es ρ (ds.map .sh)) (hl : ds.length ≤ 100000) : EL X W ex (.List es pos) ρ ds := fun B F H σ Q E c q =>
  w_e (pe_lst pa_w) (h B F H σ _ E c fun vs F1 H1 x1 i1 => by
    have i2 := ea_data i1
    refine ⟨by rw [i2.len]; exact sz_le hl, fun p hp => ?_⟩
    have x2 := Ext.kept (o := .lst vs) x1.i hp
    exact q _ vs _ _ (x1.trans x2) (x1.h.back hp) (x1.i.back hp) upd_same i2)
/-! items -/
theorem ix_get {K : PySem.W.Frag} {F : Hp} {vs : List V} {i : Int} (a : IsAll K F vs ds) (h : atI ds i = some d) : ∃ v, atI vs i = some v ∧ Is K F v d := by
  unfold atI at h ⊢
  rw [a.len]
  cases e : ixN ds.length i with
  | none => rw [e] at h; cases h
  | some j =>
    rw [e] at h
    exact a.get h
theorem ed_ixL {i : Int} (ha : EB X W ex a ρ ds) (hb : ED X W ex b ρ (.int i)) (h : atI ds i = some d) (hs : PlainIx b := by exact fun _ _ => rfl) : ED X W ex (.Subscript a b pos) ρ d := fun B F H σ Q E c q =>
  w_e (pe_ix ix_list pe_w pe_w hs) (ha B F H σ _ E c fun p vs F1 H1 x1 h1 i1 => hb B F1 H1 σ _ (E.ext x1) (c.ext x1) fun u F2 H2 x2 i2 => by
    obtain ⟨v, hv, i3⟩ := ix_get (i1.mono x2.f) h
    exact ⟨p, vs, i, v, rfl, i2.int_eq, x2.h.sql h1, hv, q v F2 H2 (x1.trans x2) i3⟩)
theorem ed_ixT {i : Int} (ha : ED X W ex a ρ (.tuple ds)) (hb : ED X W ex b ρ (.int i)) (h : atI ds i = some d) (hs : PlainIx b := by exact fun _ _ => rfl) : ED X W ex (.Subscript a b pos) ρ d := fun B F H σ Q E c q =>
  w_e (pe_ix ix_tup pe_w pe_w hs) (ha B F H σ _ E c fun v F1 H1 x1 i1 => hb B F1 H1 σ _ (E.ext x1) (c.ext x1) fun u F2 H2 x2 i2 => by
    cases i1 with
    | tup h1 a1 =>
    obtain ⟨v, hv, i3⟩ := ix_get (a1.mono x2.f) h
    exact ⟨_, _, i, v, rfl, i2.int_eq, SqT.of ((x2.f.trans x2.i).g h1), hv, q v F2 H2 (x1.trans x2) i3⟩)
theorem ed_ixS {i : Int} {w : Str} {k : Nat} (ha : ED X W ex a ρ (.str w)) (hb : ED X W ex b ρ (.int i)) (hl : w.length ≤ 100000) (h : atI w.cps.toList i = some k) (hs : PlainIx b := by exact fun _ _ => rfl) : ED X W ex (.Subscript a b pos) ρ (.str ⟨#[k]⟩) := fun B F H σ Q E c q =>
  w_e (pe_ix ix_str pe_w pe_w hs) (ha B F H σ _ E c fun v F1 H1 x1 i1 => hb B F1 H1 σ _ (E.ext x1) (c.ext x1) fun u F2 H2 x2 i2 =>
    ⟨w, i, k, i1.str_eq, i2.int_eq, sz_le hl, h, q _ F2 H2 (x1.trans x2) (.str _)⟩)
/-! slices -/
def EO (X : Cx) (W : WX) (ex : Addr → Prop) (e : Option Expr) (ρ : List Sl) (o : Option Int) : Prop := match e, o with
  | none, none => True
  | some e, some i => ED X W ex e ρ (.int i)
  | _, _ => False
theorem po_w {e : Option Expr} {ob : Option Int} (h : EO X W ex e ρ ob) : ∃ t, PO X e t ∧ ∀ B F H σ (Q : Option Int → Hp → Prop), En X.K B F H σ ρ → Xc W ex F H σ → (∀ F' H', Ext F H F' H' → Q ob H') → t σ H Q := by
  cases e with
  | none =>
    cases ob with
    | none => exact ⟨tNoPart, po_none, fun B F H σ Q E c q => q F H (Ext.refl E.i)⟩
    | some i => exact h.elim
  | some e =>
    cases ob with
    | none => exact h.elim
    | some i => exact ⟨tPart (WE X e), po_some pe_w, fun B F H σ Q E c q => h B F H σ _ E c fun v F' H' x i' => ⟨i, i'.int_eq, q F' H' x⟩⟩
def cutD {α : Type} (xs : List α) (lo hi : Option Int) : List α := (xs.drop (HT.sIx xs.length 0 lo)).take (HT.sIx xs.length xs.length hi - HT.sIx xs.length 0 lo)
theorem cut_all {K : PySem.W.Frag} {F : Hp} {vs : List V} (lo hi : Option Int) (a : IsAll K F vs ds) : IsAll K F (cutV vs lo hi) (cutD ds lo hi) := by
  unfold cutV cutD
  rw [a.len]
  exact (a.drop _).take _
theorem el_cut {lo hi : Option Expr} {l u : Option Int} (ha : EB X W ex a ρ ds) (hl : EO X W ex lo ρ l) (hu : EO X W ex hi ρ u) : EL X W ex (.Subscript a (.Slice lo hi none p2) pos) ρ (cutD ds l u) := fun B F H σ Q E c q => by
  obtain ⟨tl, pl, kl⟩ := po_w hl
  obtain ⟨tu, pu, ku⟩ := po_w hu
  exact w_e (pe_slice sl_list pe_w pl pu) (ha B F H σ _ E c fun p vs F1 H1 x1 h1 i1 => kl B F1 H1 σ _ (E.ext x1) (c.ext x1) fun F2 H2 x2 => ku B F2 H2 σ _ ((E.ext x1).ext x2) ((c.ext x1).ext x2) fun F3 H3 x3 => by
    have x23 := x2.trans x3
    refine ⟨p, vs, rfl, x23.h.sql h1, fun r hr => ?_⟩
    have x4 := Ext.kept (o := .lst (cutV vs l u)) x23.i hr
    have x14 := (x1.trans x23).trans x4
    exact q r _ F3 _ x14 ((x1.trans x23).h.back hr) (x23.i.back hr) upd_same (cut_all l u (i1.mono x23.f)))
theorem ed_cutS {lo hi : Option Expr} {l u : Option Int} {w : Str} (ha : ED X W ex a ρ (.str w)) (hl : EO X W ex lo ρ l) (hu : EO X W ex hi ρ u) (hz : w.length ≤ 100000) : ED X W ex (.Subscript a (.Slice lo hi none p2) pos) ρ (.str (cutS w l u)) := fun B F H σ Q E c q => by
  obtain ⟨tl, pl, kl⟩ := po_w hl
  obtain ⟨tu, pu, ku⟩ := po_w hu
  exact w_e (pe_slice sl_str pe_w pl pu) (ha B F H σ _ E c fun v F1 H1 x1 i1 => kl B F1 H1 σ _ (E.ext x1) (c.ext x1) fun F2 H2 x2 => ku B F2 H2 σ _ ((E.ext x1).ext x2) ((c.ext x1).ext x2) fun F3 H3 x3 =>
    ⟨w, i1.str_eq, sz_le hz, q _ F3 H3 ((x1.trans x2).trans x3) (.str _)⟩)
/-! built-ins -/
theorem ed_len (ha : EB X W ex a ρ ds) (hg : Gl X ("len" : Str)) (hm : X.mg ("len" : Str) = none) (hs : starEach [a] X.env = [(false, eval a X.env)] := by rfl) : ED X W ex (.Call (.Name "len" p) [a] [] pos) ρ (.int ds.length) := fun B F H σ Q E c q =>
  w_e (pe_callB call_len_seq hg hm PySem.boot_len (pa_cons pe_w pa_nil hs) (by decide) (by decide) hs (by rfl)) (ha B F H σ _ E c fun l vs F1 H1 x1 h1 i1 => ⟨l, vs, rfl, .inl h1, by
    rw [i1.len]; exact q _ F1 H1 x1 (.int _)⟩)
theorem ed_lenT (ha : ED X W ex a ρ (.tuple ds)) (hg : Gl X ("len" : Str)) (hm : X.mg ("len" : Str) = none) (hs : starEach [a] X.env = [(false, eval a X.env)] := by rfl) : ED X W ex (.Call (.Name "len" p) [a] [] pos) ρ (.int ds.length) := fun B F H σ Q E c q =>
  w_e (pe_callB call_len_seq hg hm PySem.boot_len (pa_cons pe_w pa_nil hs) (by decide) (by decide) hs (by rfl)) (ha B F H σ _ E c fun v F1 H1 x1 i1 => by
    cases i1 with
    | tup h1 a1 =>
    refine ⟨_, _, rfl, .inr (SqT.of (x1.i.g h1)), ?_⟩
    rw [a1.len]; exact q _ F1 H1 x1 (.int _))
theorem ed_lenS {w : Str} (ha : ED X W ex a ρ (.str w)) (hz : w.length ≤ 100000) (hg : Gl X ("len" : Str)) (hm : X.mg ("len" : Str) = none) (hs : starEach [a] X.env = [(false, eval a X.env)] := by rfl) : ED X W ex (.Call (.Name "len" p) [a] [] pos) ρ (.int w.length) := fun B F H σ Q E c q =>
  w_e (pe_callB call_len_str hg hm PySem.boot_len (pa_cons pe_w pa_nil hs) (by decide) (by decide) hs (by rfl)) (ha B F H σ _ E c fun v F1 H1 x1 i1 => ⟨w, by rw [i1.str_eq], sz_le hz, q _ F1 H1 x1 (.int _)⟩)
theorem ed_strI {i : Int} (ha : ED X W ex a ρ (.int i)) (hz : i.natAbs.log2 < 1920) (hg : Gl X ("str" : Str)) (hm : X.mg ("str" : Str) = none) (hs : starEach [a] X.env = [(false, eval a X.env)] := by rfl) : ED X W ex (.Call (.Name "str" p) [a] [] pos) ρ (.str (Str.ofString (toString i))) := fun B F H σ Q E c q =>
  w_e (pe_callTy call_str_int hg hm (by decide +kernel) (pa_cons pe_w pa_nil hs) (by decide) (by decide) hs (by rfl)) (ha B F H σ _ E c fun v F1 H1 x1 i1 => ⟨i, by rw [i1.int_eq], hz, q _ F1 H1 x1 (.str _)⟩)
theorem ed_min {i j : Int} (hc : X.calm = true) (ha : ED X W ex a ρ (.int i)) (hb : ED X W ex b ρ (.int j)) (hg : Gl X ("min" : Str)) (hm : X.mg ("min" : Str) = none) (hs : starEach [a, b] X.env = (false, eval a X.env) :: starEach [b] X.env := by rfl) (hs2 : starEach [b] X.env = [(false, eval b X.env)] := by rfl)
    (hz : (backTo pos (starEach [b] X.env)).any (·.1) = false := by rfl) : ED X W ex (.Call (.Name "min" p) [a, b] [] pos) ρ (.int (if j < i then j else i)) := fun B F H σ Q E c q =>
  w_e (pe_callB (call_min2 hc) hg hm (by decide +kernel) (pa_cons pe_w (pa_cons pe_w pa_nil hs2) hs) (by decide) (by decide) hs hz) (ha B F H σ _ E c fun v F1 H1 x1 i1 => hb B F1 H1 σ _ (E.ext x1) (c.ext x1) fun u F2 H2 x2 i2 => ⟨i, j, by rw [i1.int_eq, i2.int_eq], q _ F2 H2 (x1.trans x2) (.int _)⟩)
/-- sorted(a list of texts, fewer than 64): the list that the walk of it finds -/
theorem el_sorted {zs : List Str} (ha : EB X W ex a ρ (zs.map .str)) (h64 : zs.length < 64) (hg : Gl X ("sorted" : Str)) (hm : X.mg ("sorted" : Str) = none) (u : ∀ ys : List Str, ys.Perm zs → PyProof.Rows.sortedS ys = true → ds = ys.map .str)
    (hs : starEach [a] X.env = [(false, eval a X.env)] := by rfl) : EL X W ex (.Call (.Name "sorted" p) [a] [] pos) ρ ds := fun B F H σ Q E c q =>
  w_e (pe_callB cr_sortedS hg hm (by decide +kernel) (pa_cons pe_w pa_nil hs) (by decide) (by decide) hs (by rfl)) (ha B F H σ _ E c fun l vs F1 H1 x1 h1 i1 => by
    rw [i1.strs_eq] at h1
    refine ⟨l, zs, rfl, h1, h64, fun ys r hp hsrt hr => ?_⟩
    have x2 := Ext.kept (o := .lst (ys.map V.str)) x1.i hr
    rw [u ys hp hsrt] at q
    exact q r _ F1 _ (x1.trans x2) (x1.h.back hr) (x1.i.back hr) upd_same (IsAll.strs ys))
theorem el_list (ha : EB X W ex a ρ ds) (hg : Gl X ("list" : Str)) (hm : X.mg ("list" : Str) = none) (hs : starEach [a] X.env = [(false, eval a X.env)] := by rfl) : EL X W ex (.Call (.Name "list" p) [a] [] pos) ρ ds := fun B F H σ Q E c q =>
  w_e (pe_callTy call_list_of hg hm (by decide +kernel) (pa_cons pe_w pa_nil hs) (by decide) (by decide) hs (by rfl)) (ha B F H σ _ E c fun l vs F1 H1 x1 h1 i1 => by
    refine ⟨l, vs, rfl, .inl h1, fun r hr => ?_⟩
    have x2 := Ext.kept (o := .lst vs) x1.i hr
    exact q r _ F1 _ (x1.trans x2) (x1.h.back hr) (x1.i.back hr) upd_same i1)
theorem ed_all {bs : List Bool} (hc : X.calm = true) (ha : EB X W ex a ρ (bs.map .bool)) (hg : Gl X ("all" : Str)) (hm : X.mg ("all" : Str) = none) (hs : starEach [a] X.env = [(false, eval a X.env)] := by rfl) : ED X W ex (.Call (.Name "all" p) [a] [] pos) ρ (.bool (bs.all id)) := fun B F H σ Q E c q =>
  w_e (pe_callB (cr_all hc) hg hm (by decide +kernel) (pa_cons pe_w pa_nil hs) (by decide) (by decide) hs (by rfl)) (ha B F H σ _ E c fun l vs F1 H1 x1 h1 i1 => by
    rw [i1.bools_eq] at h1
    exact ⟨l, bs, rfl, h1, q _ F1 H1 x1 (.bl _)⟩)
theorem ed_join {w : Str} {zs : List Str} (ho : ED X W ex o ρ (.str w)) (ha : EB X W ex a ρ (zs.map .str)) (hz : (zs.map (·.length)).sum + zs.length * w.length ≤ 100000)
    (hs : starEach [a] X.env = [(false, eval a X.env)] := by rfl) (hb : attributeBase o "join" X.env (eval o X.env) = eval o X.env := by rfl) (hl : (apos.endLine == pos.line) = true := by rfl) : ED X W ex (.Call (.Attribute o "join" apos) [a] [] pos) ρ (.str (Str.join w zs)) := fun B F H σ Q E c q =>
  w_e (pe_join pe_w pe_w hs hb hl) (ho B F H σ _ E c fun v F1 H1 x1 i1 => ⟨⟨w, i1.str_eq⟩, ha B F1 H1 σ _ (E.ext x1) (c.ext x1) fun l vs F2 H2 x2 h2 i2 => by
    rw [i2.strs_eq] at h2
    refine ⟨w, l, zs, i1.str_eq, rfl, .inl h2, Nat.le_trans hz (by decide), ?_⟩
    rw [TL.join_eq]
    exact q _ F2 H2 (x1.trans x2) (.str _)⟩)
/-! tests -/
theorem et_val {k : Bool} (h : ED X W ex e ρ (.bool k)) (hw : ∀ whole : Sem Value, isTrue e X.env whole = (do let v ← whole; standAt e.pos; holding [v] (truthy v)) := by intro _; rfl) : ET X W ex e ρ k := fun B F H σ Q E c q =>
  w_t (pt_val pe_w hw) (h B F H σ _ E c fun v F1 H1 x1 i1 => ⟨k, i1.bl_eq, q F1 H1 x1⟩)
theorem et_not {k : Bool} (h : ET X W ex e ρ k) : ET X W ex (.UnaryOp .Not e pos) ρ (!k) := fun B F H σ Q E c q => w_t (pt_not pt_w) (h B F H σ _ E c fun F1 H1 x1 => q F1 H1 x1)
theorem ew_and {k l : Bool} {r : List Expr} (h1 : ET X W ex a ρ k) (h2 : k = true → EW X W ex (.BoolOp .And (b :: r) pos) ρ l) : EW X W ex (.BoolOp .And (a :: b :: r) pos) ρ (k && l) := fun B F H σ Q E c q =>
  w_w (pw_and pt_w pw_w) (h1 B F H σ _ E c fun F1 H1 x1 => by
    cases k with
    | false => exact iteF (q F1 H1 x1)
    | true => exact iteT (h2 rfl B F1 H1 σ _ (E.ext x1) (c.ext x1) fun F2 H2 x2 => q F2 H2 (x1.trans x2)))
theorem ew_and1 {k : Bool} (h : ET X W ex a ρ k) : EW X W ex (.BoolOp .And [a] pos) ρ k := fun B F H σ Q E c q => w_w (pw_and1 pt_w) (h B F H σ Q E c q)
theorem ew_or {k l : Bool} {r : List Expr} (h1 : ET X W ex a ρ k) (h2 : k = false → EW X W ex (.BoolOp .Or (b :: r) pos) ρ l) : EW X W ex (.BoolOp .Or (a :: b :: r) pos) ρ (k || l) := fun B F H σ Q E c q =>
  w_w (pw_or pt_w pw_w) (h1 B F H σ _ E c fun F1 H1 x1 => by
    cases k with
    | true => exact iteT (q F1 H1 x1)
    | false => exact iteF (h2 rfl B F1 H1 σ _ (E.ext x1) (c.ext x1) fun F2 H2 x2 => q F2 H2 (x1.trans x2)))
theorem ew_or1 {k : Bool} (h : ET X W ex a ρ k) : EW X W ex (.BoolOp .Or [a] pos) ρ k := fun B F H σ Q E c q => w_w (pw_or1 pt_w) (h B F H σ Q E c q)
theorem et_w {k : Bool} (h : EW X W ex e ρ k) : ET X W ex e ρ k := fun B F H σ Q E c q => w_t (PW.pt pw_w) (h B F H σ Q E c q)
/-- the truth of a list -/
theorem et_list (h : EB X W ex e ρ ds) (hw : ∀ whole : Sem Value, isTrue e X.env whole = (do let v ← whole; standAt e.pos; holding [v] (truthy v)) := by intro _; rfl) : ET X W ex e ρ (!ds.isEmpty) := fun B F H σ Q E c q =>
  w_t (pt_truth pe_w hw) (h B F H σ _ E c fun l vs F1 H1 x1 h1 i1 => ⟨!ds.isEmpty, .inl ⟨vs, h1, by cases i1 <;> rfl⟩, q F1 H1 x1⟩)
theorem ed_ifx {k : Bool} (h : ET X W ex c ρ k) (h1 : k = true → ED X W ex a ρ d) (h2 : k = false → ED X W ex b ρ d) : ED X W ex (.IfExp c a b pos) ρ d := fun B F H σ Q E g q =>
  w_e (pe_ifExp pt_w pe_w pe_w) (h B F H σ _ E g fun F1 H1 x1 => by
    cases k with
    | false => exact iteF (h2 rfl B F1 H1 σ _ (E.ext x1) (g.ext x1) fun v F2 H2 x2 i2 => q v F2 H2 (x1.trans x2) i2)
    | true => exact iteT (h1 rfl B F1 H1 σ _ (E.ext x1) (g.ext x1) fun v F2 H2 x2 i2 => q v F2 H2 (x1.trans x2) i2))
/-! and, or, not as values -/
theorem ed_one {op : BoolOp} (h : ED X W ex a ρ d) : ED X W ex (.BoolOp op [a] pos) ρ d := fun B F H σ Q E c q => w_e (pe_one pe_w) (h B F H σ Q E c q)
theorem ed_and {k l : Bool} {r : List Expr} (h1 : ED X W ex a ρ (.bool k)) (h2 : k = true → ED X W ex (.BoolOp .And (b :: r) pos) ρ (.bool l)) : ED X W ex (.BoolOp .And (a :: b :: r) pos) ρ (.bool (k && l)) := fun B F H σ Q E c q =>
  w_e (pe_and pe_w pe_w) (h1 B F H σ _ E c fun v F1 H1 x1 i1 => ⟨k, i1.bl_eq, by
    cases k with
    | false => exact iteF (q _ F1 H1 x1 (.bl _))
    | true => exact iteT (h2 rfl B F1 H1 σ _ (E.ext x1) (c.ext x1) fun v F2 H2 x2 i2 => q v F2 H2 (x1.trans x2) i2)⟩)
theorem ed_or {k l : Bool} {r : List Expr} (h1 : ED X W ex a ρ (.bool k)) (h2 : k = false → ED X W ex (.BoolOp .Or (b :: r) pos) ρ (.bool l)) : ED X W ex (.BoolOp .Or (a :: b :: r) pos) ρ (.bool (k || l)) := fun B F H σ Q E c q =>
  w_e (pe_or pe_w pe_w) (h1 B F H σ _ E c fun v F1 H1 x1 i1 => ⟨k, i1.bl_eq, by
    cases k with
    | true => exact iteT (q _ F1 H1 x1 (.bl _))
    | false => exact iteF (h2 rfl B F1 H1 σ _ (E.ext x1) (c.ext x1) fun v F2 H2 x2 i2 => q v F2 H2 (x1.trans x2) i2)⟩)
theorem ed_not {k : Bool} (h1 : ED X W ex a ρ (.bool k)) : ED X W ex (.UnaryOp .Not a pos) ρ (.bool (!k)) := fun B F H σ Q E c q =>
  w_e (pe_not pe_w) (h1 B F H σ _ E c fun v F1 H1 x1 i1 => ⟨k, i1.bl_eq, q _ F1 H1 x1 (.bl _)⟩)
end
end PD

set_option maxHeartbeats 4000000
namespace PD
open PySem L2 PyProof.Rows
variable [PD.TabC]

/-! ### statements -/
structure De where
  nx : List Sl → Prop
  rt : PyData → Prop := fun _ => False
  rl : List PyData → Prop := fun _ => False
  bk : List Sl → Prop := fun _ => False
  ct : List Sl → Prop := fun _ => False
  ex : Addr → List Sl → Prop := fun _ _ => False
  /-- a thing of one's own is told: its places, where it stands -/
  ro : V → List Addr → Hp → Hp → Prop := fun _ _ _ _ => False
/-- where a def's body stands; F0, H0: its entry -/
structure S2 (K : PySem.W.Frag) (F0 H0 F H : Hp) (σ : L2.St) (ρ : List Sl) : Prop where
  x : Ext F0 H0 F H
  e : En K H0 F H σ ρ
structure Lk (K : PySem.W.Frag) (W : WX) (F0 H0 : Hp) (T : De) (D : Ends) : Prop where
  nx : ∀ ρ σ F H, T.nx ρ → S2 K F0 H0 F H σ ρ → D.nx σ H
  rt : ∀ d v F H, T.rt d → Ext F0 H0 F H → Is K F v d → D.rt v H
  rl : ∀ ds p vs F H, T.rl ds → Ext F0 H0 F H → H0 p = none → F p = none → H p = some (.lst vs) → IsAll K F vs ds → D.rt (.ref p) H
  bk : ∀ ρ σ F H, T.bk ρ → S2 K F0 H0 F H σ ρ → D.bk σ H
  ct : ∀ ρ σ F H, T.ct ρ → S2 K F0 H0 F H σ ρ → D.ct σ H
  ex : ∀ C ρ σ F H, T.ex C ρ → S2 K F0 H0 F H σ ρ → W (.ref C) none σ H
  ro : ∀ v fp F H, T.ro v fp F H → Ext F0 H0 F H → (∀ a ∈ fp, H0 a = none ∧ F a = none ∧ Std H a) → D.rt v H
def SD (X : Cx) (W : WX) (st : Stmt) (ρ : List Sl) (T : De) : Prop := ∀ F0 H0 F H σ D, S2 X.K F0 H0 F H σ ρ → Lk X.K W F0 H0 T D → WS X st D σ H
def SDs (X : Cx) (W : WX) (sts : List Stmt) (ρ : List Sl) (T : De) : Prop := ∀ F0 H0 F H σ D, S2 X.K F0 H0 F H σ ρ → Lk X.K W F0 H0 T D → WSs X sts D σ H
theorem S2.go {K : PySem.W.Frag} {F0 H0 F H F' H' : Hp} {σ : L2.St} {ρ : List Sl} (s : S2 K F0 H0 F H σ ρ) (x : Ext F H F' H') : S2 K F0 H0 F' H' σ ρ := ⟨s.x.trans x, s.e.ext x⟩
theorem Lk.xc {K : PySem.W.Frag} {W : WX} {F0 H0 F H : Hp} {σ : L2.St} {ρ : List Sl} {T : De} {D : Ends} (l : Lk K W F0 H0 T D) (s : S2 K F0 H0 F H σ ρ) : Xc W (fun C => T.ex C ρ) F H σ := fun C F' H' e x => l.ex C ρ σ F' H' e (s.go x)
theorem Lk.nxt {K : PySem.W.Frag} {W : WX} {F0 H0 : Hp} {T : De} {D : Ends} (l : Lk K W F0 H0 T D) {P : List Sl → Prop} {q : L2.St → Hp → Prop} (h : ∀ ρ σ F H, P ρ → S2 K F0 H0 F H σ ρ → q σ H) : Lk K W F0 H0 { T with nx := P } { D with nx := q } := ⟨h, l.rt, l.rl, l.bk, l.ct, l.ex, l.ro⟩
theorem Ext.on {F0 H0 F H F' H' : Hp} (x : Ext F0 H0 F H) (y : Ext F H0 F' H') : Ext F0 H0 F' H' := ⟨x.f.trans y.f, y.h, y.i, fun a ha => (y.n a ha).trans (x.n a ha), y.t⟩
theorem Ext.at {F0 H0 F H : Hp} (x : Ext F0 H0 F H) : Ext F H0 F H := ⟨Ex.refl F, x.h, x.i, fun _ _ => rfl, x.t⟩
theorem S2.on {K : PySem.W.Frag} {F0 H0 F H F' H' : Hp} {σ : L2.St} {ρ : List Sl} (x : Ext F0 H0 F H) (s : S2 K F H0 F' H' σ ρ) : S2 K F0 H0 F' H' σ ρ := ⟨x.on s.x, s.e⟩
theorem S2.at {K : PySem.W.Frag} {F0 H0 F H : Hp} {σ : L2.St} {ρ : List Sl} (s : S2 K F0 H0 F H σ ρ) : S2 K F H0 F H σ ρ := ⟨s.x.at, s.e⟩
theorem Lk.re {K : PySem.W.Frag} {W : WX} {F0 H0 F H : Hp} {T : De} {D : Ends} (l : Lk K W F0 H0 T D) (x : Ext F0 H0 F H) : Lk K W F H0 T D :=
  ⟨fun ρ σ F1 H1 q s => l.nx ρ σ F1 H1 q (s.on x), fun d v F1 H1 q y i => l.rt d v F1 H1 q (x.on y) i, fun ds p vs F1 H1 q y a b c d => l.rl ds p vs F1 H1 q (x.on y) a b c d,
    fun ρ σ F1 H1 q s => l.bk ρ σ F1 H1 q (s.on x), fun ρ σ F1 H1 q s => l.ct ρ σ F1 H1 q (s.on x), fun C ρ σ F1 H1 q s => l.ex C ρ σ F1 H1 q (s.on x), fun v fp F1 H1 q y z => l.ro v fp F1 H1 q (x.on y) z⟩
section
variable {X : Cx} {W : WX} {e a b c o : Expr} {es : List Expr} {st : Stmt} {sts ths els : List Stmt} {ρ : List Sl} {d : PyData} {ds xs ys : List PyData} {pos p p2 apos : Pos} {T : De}
theorem sds_nil (h : T.nx ρ) : SDs X W [] ρ T := fun F0 H0 F H σ D s l => w_ss pss_nil (l.nx ρ σ F H h s)
theorem sds_cons (h : SD X W st ρ { T with nx := fun ρ' => SDs X W sts ρ' T }) : SDs X W (st :: sts) ρ T := fun F0 H0 F H σ D s l =>
  w_ss (pss_cons ps_w pss_w) (h F0 H0 F H σ _ s (l.nxt fun ρ' σ' F' H' q s' => q F0 H0 F' H' σ' D s' l))
theorem sds_one (h : SD X W st ρ T) : SDs X W [st] ρ T := fun F0 H0 F H σ D s l => w_ss (pss_one ps_w) (h F0 H0 F H σ D s l)
theorem SDs.imp {T' : De} (h : SDs X W sts ρ T) (k : ∀ K F0 H0 D, Lk K W F0 H0 T' D → Lk K W F0 H0 T D) : SDs X W sts ρ T' := fun F0 H0 F H σ D s l => h F0 H0 F H σ D s (k _ _ _ _ l)
/-- x = e -/
theorem sd_set {i : Nat} {n : Str} (nd : X.N.Nodup) (hN : X.N[i]? = some n) (hl : Loc X.env.scope n) (hfn : X.fn n = true ∨ X.env.scope.names.lookup n = some .local) (h : ED X W (fun C => T.ex C ρ) e ρ d) (q : T.nx (ρ.set i (.sh d)))
    (hw : swapsWith e (some (.Name n p)) pos.line X.env = pure false := by rfl) : SD X W (.Assign [.Name n p] e pos) ρ T := fun F0 H0 F H σ D s l =>
  w_s (ps_set nd hN hl pe_w hw hfn) (h H0 F H σ _ s.e (l.xc s) fun v F1 H1 x1 i1 => l.nx _ _ F1 H1 q ⟨s.x.trans x1, (s.e.ext x1).set i1 rfl⟩)
theorem sd_setL {i : Nat} {n : Str} (nd : X.N.Nodup) (hN : X.N[i]? = some n) (hl : Loc X.env.scope n) (hfn : X.fn n = true ∨ X.env.scope.names.lookup n = some .local) (h : EL X W (fun C => T.ex C ρ) e ρ ds) (q : ∀ r, T.nx (ρ.set i (.ow r ds)))
    (hw : swapsWith e (some (.Name n p)) pos.line X.env = pure false := by rfl) : SD X W (.Assign [.Name n p] e pos) ρ T := fun F0 H0 F H σ D s l =>
  w_s (ps_set nd hN hl pe_w hw hfn) (h H0 F H σ _ s.e (l.xc s) fun r vs F1 H1 x1 h0 f0 h1 i1 => l.nx _ _ F1 H1 (q r) ⟨s.x.trans x1, s.e.own x1 h0 f0 h1 i1⟩)
/-- one's own list stands still from here on -/
theorem sds_frz {i : Nat} {r : Addr} (hi : ρ[i]? = some (.ow r ds)) (h : SDs X W sts (ρ.set i (.sh (.list ds))) T) : SDs X W sts ρ T := fun F0 H0 F H σ D s l => by
  obtain ⟨F', xf, nf, E'⟩ := s.e.frz hi
  exact h F0 H0 F' H σ D ⟨⟨s.x.f.trans xf, s.x.h, E'.i, fun a ha => (nf a ha).trans (s.x.n a ha), s.x.t⟩, E'⟩ l
/-- x.append(e) -/
theorem sd_app {i : Nat} {n : Str} {r : Addr} (hN : X.N[i]? = some n) (hv : Vis X.env.scope n) (hi : ρ[i]? = some (.ow r ds)) (h : ED X W (fun C => T.ex C ρ) e ρ d) (hz : ds.length < 100000) (q : T.nx (ρ.set i (.ow r (ds ++ [d]))))
    (hd : (n == ("__debug__" : Str)) = false := by decide) (hcd : (n == ("__classdict__" : Str)) = false := by decide) (hs : starEach [e] X.env = [(false, eval e X.env)] := by rfl) (hb : attributeBase (.Name n p2) "append" X.env (eval (.Name n p2) X.env) = eval (.Name n p2) X.env := by rfl)
    (ha : (((backTo p (starEach [e] X.env)).all (fun x => !x.1) && (backToKw p (keywordEach [] X.env)).all (fun x => x.1.isSome)) && decide (([e].length + ([] : List Keyword).length + if ([] : List Keyword).isEmpty = true then 0 else 1) < 30)) = true := by rfl)
    (hl : (apos.endLine == p.line) = true := by rfl) (hz2 : (backTo p (starEach [] X.env)).any (·.1) = false := by rfl)
    (hw : swapsWith (.Call (.Attribute (.Name n p2) "append" apos) [e] [] p) none pos.line X.env = pure false := by rfl) : SD X W (.Expr (.Call (.Attribute (.Name n p2) "append" apos) [e] [] p) pos) ρ T := fun F0 H0 F H σ D s l => by
  obtain ⟨v, e1, h1⟩ := s.e.s i _ hi
  cases v with
  | none => exact h1.elim
  | some v =>
  obtain ⟨rfl, hf, hb0, vs, hh, a0⟩ := h1
  refine w_s (ps_expr (pe_bm PySem.F.plainAttrs_list PySem.F.slot_list_append PySem.F.type_list_append mt_append (pe_var hN hv hd hcd) (pa_cons pe_w pa_nil hs) hb ha hl hs hz2) hw) ⟨_, e1, .inl ⟨rfl, vs, SqL.of hh⟩, ?_⟩
  refine h H0 F H σ _ s.e (l.xc s) fun v2 F1 H1 x1 i1 => ?_
  have hh1 := x1.h.g hh
  have E1 := s.e.ext x1
  have hz1 : vs.length < sizeLine := Nat.lt_of_lt_of_le (by rw [a0.len]; exact hz) (by decide)
  refine ⟨r, vs, v2, rfl, rfl, hh1, hz1, ?_⟩
  have E2 := E1.wr (es := ds ++ [d]) hi ((a0.mono x1.f).append (.cons i1 .nil))
  exact l.nx _ _ F1 _ q ⟨⟨s.x.f.trans x1.f, (s.x.h.trans x1.h).mut hb0, E2.i, fun z hz => ((s.x.trans x1).n z hz), (s.x.t.trans x1.t).mut hh1⟩, E2⟩
theorem sd_ret (h : ED X W (fun C => T.ex C ρ) e ρ d) (q : T.rt d) : SD X W (.Return (some e) pos) ρ T := fun F0 H0 F H σ D s l =>
  w_s (ps_ret pe_w) (h H0 F H σ _ s.e (l.xc s) fun v F1 H1 x1 i1 => l.rt d v F1 H1 q (s.x.trans x1) i1)
theorem sd_retL (h : EL X W (fun C => T.ex C ρ) e ρ ds) (q : T.rl ds) : SD X W (.Return (some e) pos) ρ T := fun F0 H0 F H σ D s l =>
  w_s (ps_ret pe_w) (h H0 F H σ _ s.e (l.xc s) fun r vs F1 H1 x1 h0 f0 h1 i1 => l.rl ds r vs F1 H1 q (s.x.trans x1) (s.x.h.back h0) f0 h1 i1)
theorem sd_retO {i : Nat} {n : Str} {r : Addr} (hN : X.N[i]? = some n) (hv : Vis X.env.scope n) (hi : ρ[i]? = some (.ow r ds)) (q : T.rl ds) (hd : (n == ("__debug__" : Str)) = false := by decide) (hcd : (n == ("__classdict__" : Str)) = false := by decide) :
    SD X W (.Return (some (.Name n p)) pos) ρ T := fun F0 H0 F H σ D s l => by
  obtain ⟨v, e1, h1⟩ := s.e.s i _ hi
  cases v with
  | none => exact h1.elim
  | some v =>
  obtain ⟨rfl, hf, hb0, vs, hh, a0⟩ := h1
  exact w_s (ps_ret (pe_var hN hv hd hcd)) ⟨_, e1, l.rl ds r vs F H q s.x hb0 hf hh a0⟩
theorem sd_expr (h : ED X W (fun C => T.ex C ρ) e ρ d) (q : T.nx ρ) (hw : swapsWith e none pos.line X.env = pure false := by rfl) : SD X W (.Expr e pos) ρ T := fun F0 H0 F H σ D s l =>
  w_s (ps_expr pe_w hw) (h H0 F H σ _ s.e (l.xc s) fun v F1 H1 x1 i1 => l.nx ρ σ F1 H1 q (s.go x1))
theorem sd_if {k : Bool} (h : ET X W (fun C => T.ex C ρ) c ρ k) (h1 : k = true → SDs X W ths ρ T) (h2 : k = false → SDs X W els ρ T) : SD X W (.If c ths els pos) ρ T := fun F0 H0 F H σ D s l =>
  w_s (ps_if pt_w pss_w pss_w) (h H0 F H σ _ s.e (l.xc s) fun F1 H1 x1 => by
    cases k with
    | false => exact iteF (h2 rfl F0 H0 F1 H1 σ D (s.go x1) l)
    | true => exact iteT (h1 rfl F0 H0 F1 H1 σ D (s.go x1) l))
/-- C(e), an error of one's own; nothing is handled meanwhile -/
theorem pmkN {C : Addr} {bmB : List Value} {B0 newId initId : String} {n : Str} {te : TE} (F : ExcBaseFacts B0 newId initId bmB) (q : PySem.W.excIn X.K C bmB newId = true) (gC : X.mg n = some (.ref C)) (kC : PySem.W.keepIn X.K (.ref C) = true) (r : Raises X (.ref C)) (hg : Gl X n)
    (h : PE X e te) (hs : starEach [e] X.env = (false, eval e X.env) :: starEach [] X.env := by rfl) (hdb : (n == ("__debug__" : Str)) = false := by decide) : L2N.PMk X (.Call (.Name n p) [e] [] pos) (fun σ H Q => te σ H fun _ H1 => Q (.ref C) none H1) := fun pins s σ H Q I hq => by
  refine wpAny_Call_Name_kw (ld_glob I hg gC (PySem.W.callWith_K (h₀ := X.base) I.ok.mod.kin kC ?_ hs (by rfl)) hdb)
  rw [hs]
  refine Calls.spliced_cons (thn (h.run pins s σ H _ I hq) fun u s1 ⟨v, H1, I1, _, q1⟩ => Calls.spliced_nil ⟨I1.kIn, ?_⟩)
  obtain ⟨_, _, _, _, _, _, _, _, _, _, _, _, _, _, _, _, _, hC, hN, hni, T⟩ := exc_obj I1.kIn q
  exact wpAny_call_exc_subT F T hC hN hni (fun h' e' hm => L2N.mk_of I1 hm r q1 (I1.hok.gone hm.new)) (by show 1 ≤ sizeLine; decide)
/-- raise C(e) -/
theorem sd_raise {C : Addr} {n : Str} {bmB : List Value} {B0 newId initId : String} (hc : X.calm = true) (tk : L2N.Takes X W) (F : ExcBaseFacts B0 newId initId bmB) (q : PySem.W.excIn X.K C bmB newId = true) (gC : X.mg n = some (.ref C)) (kC : PySem.W.keepIn X.K (.ref C) = true) (r : Raises X (.ref C)) (hg : Gl X n)
    (h : ED X W (fun C => T.ex C ρ) e ρ d) (hx : T.ex C ρ) (hs : starEach [e] X.env = (false, eval e X.env) :: starEach [] X.env := by rfl) (hdb : (n == ("__debug__" : Str)) = false := by decide) : SD X W (.Raise (some (.Call (.Name n p) [e] [] p2)) none pos) ρ T := fun F0 H0 F1 H1 σ D s l =>
  w_s (L2N.ps_raise hc tk (pmkN F q gC kC r hg pe_w hs hdb)) (h H0 F1 H1 σ _ s.e (l.xc s) fun v F2 H2 x2 i2 => l.ex C ρ σ F2 H2 hx (s.go x2))
/-- for x in a list that stands still -/
theorem sd_for {j : Nat} {n : Str} {body : List Stmt} (I : Nat → List Sl → Prop) (hp : PassesOwn (model X.prog X.w) X.A X.env X.xe) (hc : X.calm = true) (nd : X.N.Nodup) (hN : X.N[j]? = some n) (hl : Loc X.env.scope n) (hfn : X.fn n = true ∨ X.env.scope.names.lookup n = some .local)
    (h : EP' X W (fun C => T.ex C ρ) e ρ ds) (h0 : I 0 ρ) (hs : ∀ i d ρ', ds[i]? = some d → I i ρ' → SDs X W body (ρ'.set j (.sh d)) { T with nx := I (i + 1), ct := I (i + 1), bk := T.nx }) (hd : ∀ ρ', I ds.length ρ' → T.nx ρ')
    (hf : ∀ x, foldedSetIterable e X.env x = pure x := by intro _; rfl) : SD X W (.For (.Name n p) e body [] pos) ρ T := fun F0 H0 F H σ D s l =>
  w_s (ps_for hp hc (pi_list pe_w) (pg_name nd hN hl hfn) pss_w hf) (h H0 F H σ _ s.e (l.xc s) fun r vs F1 H1 x1 hr i1 => by
    have s1 := s.go x1
    refine ⟨r, rfl, ⟨vs, ?_⟩, for_list (xs := vs) (fun i σ' H' => ∃ F' ρ', I i ρ' ∧ Ex F1 F' ∧ S2 X.K F0 H0 F' H' σ' ρ') ⟨F1, ρ, h0, Ex.refl F1, s1⟩ ?_ ?_ ?_⟩
    · rcases hr with hr | hr
      · exact s1.e.b.sql hr
      · exact s1.e.i.sql hr
    · rintro i σ' H' hi ⟨F', ρ', hI, hx, s'⟩
      rcases hr with hr | hr
      · exact s'.e.b.sql hr
      · exact (hx.trans s'.e.i).sql hr
    · rintro i x σ' H' hi ⟨F', ρ', hI, hx, s'⟩
      obtain ⟨d, hd', id'⟩ := i1.get' hi
      refine hs i d ρ' hd' hI F' H0 F' H' (σ'.set j (some x)) _ ⟨s'.x.at, s'.e.set (s := .sh d) (id'.mono hx) rfl⟩ ?_
      have l' := l.re s'.x
      have nx : ∀ ρ2 σ2 F2 H2, I (i + 1) ρ2 → S2 X.K F' H0 F2 H2 σ2 ρ2 → ∃ F3 ρ3, I (i + 1) ρ3 ∧ Ex F1 F3 ∧ S2 X.K F0 H0 F3 H2 σ2 ρ3 := fun ρ2 σ2 F2 H2 q s2 => ⟨F2, ρ2, q, hx.trans s2.x.f, s2.on s'.x⟩
      exact ⟨nx, l'.rt, l'.rl, l'.nx, nx, l'.ex, l'.ro⟩
    · rintro σ' H' ⟨F', ρ', hI, hx, s'⟩
      rw [i1.len] at hI
      exact l.nx ρ' σ' F' H' (hd ρ' hI) s')
end
end PD

set_option maxHeartbeats 4000000
namespace PD
open PySem L2
variable [PD.TabC]
section
variable {X : Cx} {W : WX} {ex : Addr → Prop} {e a b c o elt : Expr} {es : List Expr} {st : Stmt} {sts ths els body : List Stmt} {ρ : List Sl} {d : PyData} {ds xs ys : List PyData} {pos p p2 apos tpos : Pos} {T : De}
theorem ags_sh {K : PySem.W.Frag} {F H : Hp} : ∀ {vs ws : List V} {ds : List PyData} {as : List Sl}, IsAll K F vs ds → AgsOk K F H ws as → AgsOk K F H (vs ++ ws) (ds.map .sh ++ as)
  | _, _, _, _, .nil, r => r
  | _, _, _, _, .cons h t, r => .cons h (ags_sh t r)
theorem ea_star {as : List Sl} (h : EB X W ex e ρ ds) (r : EA X W ex es ρ as) (hs : starEach (.Starred e p :: es) X.env = (true, eval e X.env) :: starEach es X.env := by rfl) : EA X W ex (.Starred e p :: es) ρ (ds.map .sh ++ as) := fun B F H σ Q E c q =>
  w_a (StX.pa_star pe_w pa_w hs) (h B F H σ _ E c fun l vs F1 H1 x1 h1 i1 => ⟨l, vs, rfl, .inr h1, r B F1 H1 σ _ (E.ext x1) (c.ext x1) fun ws F2 H2 x2 i2 => q _ F2 H2 (x1.trans x2) (ags_sh (i1.mono x2.f) i2)⟩)

/-! f-strings: some text -/
def ShortS (z : Str) : Prop := z.length ≤ 20000
theorem ed_fs1 (h : ED X W ex e ρ d) : ED X W ex (.JoinedStr [e] pos) ρ d := fun B F H σ Q E c q => w_e (pe_joined1 pe_w) (h B F H σ Q E c q)
/-- parts, one behind the other -/
def EJ (X : Cx) (W : WX) (ex : Addr → Prop) (es : List Expr) (ρ : List Sl) (zs : List Str) : Prop := Paired (fun e z => ED X W ex e ρ (.str z)) es zs
theorem ed_fstr {e1 e2 : Expr} {zs : List Str} (h : EJ X W ex (e1 :: e2 :: es) ρ zs) (hz : (zs.map (·.length)).sum ≤ 100000) : ED X W ex (.JoinedStr (e1 :: e2 :: es) pos) ρ (.str (zs.foldl (· ++ ·) Str.empty)) := by
  have pj : ∀ fs : List Expr, PJ X fs (fs.map (WE X)) := fun fs => by
    induction fs with
    | nil => exact .nil
    | cons f r ih => exact .cons pe_w ih
  have go : ∀ (fs : List Expr) (zs : List Str), EJ X W ex fs ρ zs → ∀ (acc : Str) B F H σ (Q : Str → Hp → Prop), acc.length + (zs.map (·.length)).sum ≤ 100000 → En X.K B F H σ ρ → Xc W ex F H σ → (∀ F' H', Ext F H F' H' → Q (zs.foldl (· ++ ·) acc) H') → tJs (fs.map (WE X)) acc σ H Q := by
    intro fs zs h
    induction h with
    | nil => intro acc B F H σ Q _ E c q; exact q F H (Ext.refl E.i)
    | @cons f z fs zs hf _ ih =>
      intro acc B F H σ Q hl E c q
      refine hf B F H σ _ E c fun v F1 H1 x1 i1 => ?_
      rw [List.map_cons, List.sum_cons] at hl
      have e1 : (acc ++ z).length = acc.length + z.length := by
        show (acc ++ z).cps.size = _
        rw [Str.cps_append, Array.size_append]; rfl
      refine ⟨z, i1.str_eq, sz_le (by omega), ih (acc ++ z) B F1 H1 σ _ (by omega) (E.ext x1) (c.ext x1) fun F2 H2 x2 => q F2 H2 (x1.trans x2)⟩
  intro B F H σ Q E c q
  exact w_e (pe_joined (pj _)) (go _ _ h Str.empty B F H σ _ (by show 0 + _ ≤ _; omega) E c fun F1 H1 x1 => q _ F1 H1 x1 (.str _))
theorem ed_fmt {z : Str} (h : ED X W ex e ρ (.str z)) (hz : z.length ≤ 100000) : ED X W ex (.FormattedValue e (-1) none pos) ρ (.str z) := fun B F H σ Q E c q => w_e (pe_fmt pe_w) (h B F H σ _ E c fun v F1 H1 x1 i1 => .inl ⟨z, i1.str_eq, sz_le hz, q _ F1 H1 x1 (.str _)⟩)
theorem ed_fmtI {i : Int} (h : ED X W ex e ρ (.int i)) (hz : i.natAbs.log2 < 1920) : ED X W ex (.FormattedValue e (-1) none pos) ρ (.str (toString i)) := fun B F H σ Q E c q => w_e (pe_fmt pe_w) (h B F H σ _ E c fun v F1 H1 x1 i1 => .inr ⟨i, i1.int_eq, hz, q _ F1 H1 x1 (.str _)⟩)
theorem ed_fmtR {z : Str} (h : ED X W ex e ρ (.str z)) (hz : (reprText z).length ≤ 100000) : ED X W ex (.FormattedValue e 114 none pos) ρ (.str (reprText z)) := fun B F H σ Q E c q => w_e (pe_fmtR pe_w) (h B F H σ _ E c fun v F1 H1 x1 i1 => .inl ⟨z, i1.str_eq, sz_le hz, q _ F1 H1 x1 (.str _)⟩)

/-! targets: names, tuples of names -/
def GU (X : Cx) (tg : Expr) (f : List Sl → PyData → List Sl → Prop) : Prop := ∃ g, PG X tg g ∧ ∀ ρ d ρ', f ρ d ρ' → ∀ B F H σ v (Q : L2.St → Hp → Prop), En X.K B F H σ ρ → Is X.K F v d → (∀ σ', En X.K B F H σ' ρ' → Q σ' H) → g v σ H Q
def GUs (X : Cx) (tgs : List Expr) (f : List Sl → List PyData → List Sl → Prop) : Prop := ∃ g, PGs X tgs g ∧ ∀ ρ ds ρ', f ρ ds ρ' → ∀ B F H σ vs (Q : L2.St → Hp → Prop), En X.K B F H σ ρ → IsAll X.K F vs ds → (∀ σ', En X.K B F H σ' ρ' → Q σ' H) → g vs σ H Q
def fName (j : Nat) : List Sl → PyData → List Sl → Prop := fun ρ d ρ' => ρ' = ρ.set j (.sh d)
def fNil : List Sl → List PyData → List Sl → Prop := fun ρ ds ρ' => ds = [] ∧ ρ' = ρ
def fCons (f : List Sl → PyData → List Sl → Prop) (g : List Sl → List PyData → List Sl → Prop) : List Sl → List PyData → List Sl → Prop := fun ρ ds ρ' => ∃ d r ρ1, ds = d :: r ∧ f ρ d ρ1 ∧ g ρ1 r ρ'
def fTup (g : List Sl → List PyData → List Sl → Prop) (n : Nat) : List Sl → PyData → List Sl → Prop := fun ρ d ρ' => ∃ ds, d = .tuple ds ∧ ds.length = n ∧ g ρ ds ρ'
theorem gu_name {j : Nat} {n : Str} (nd : X.N.Nodup) (hN : X.N[j]? = some n) (hl : Loc X.env.scope n) (hfn : X.fn n = true ∨ X.env.scope.names.lookup n = some .local) : GU X (.Name n pos) (fName j) :=
  ⟨gName j, pg_name nd hN hl hfn, fun ρ d ρ' e B F H σ v Q E i q => by
    have e : ρ' = ρ.set j (.sh d) := e
    subst e
    exact q _ (E.set (s := .sh d) i rfl)⟩
theorem gus_nil : GUs X [] fNil := ⟨gNil, pgs_nil, fun ρ ds ρ' h B F H σ vs Q E i q => by
  obtain ⟨rfl, rfl⟩ := h
  cases i
  exact ⟨rfl, q σ E⟩⟩
theorem gus_cons {f : List Sl → PyData → List Sl → Prop} {g : List Sl → List PyData → List Sl → Prop} {tgs : List Expr} (h : GU X e f) (r : GUs X tgs g) (hm : (assignEach (e :: tgs) X.env).map (·.2) = assign e X.env :: (assignEach tgs X.env).map (·.2) := by rfl) : GUs X (e :: tgs) (fCons f g) := by
  obtain ⟨g1, p1, k1⟩ := h
  obtain ⟨g2, p2, k2⟩ := r
  refine ⟨gCons g1 g2, pgs_cons p1 p2 hm, fun ρ ds ρ' hf B F H σ vs Q E i q => ?_⟩
  obtain ⟨d, rest, ρ1, rfl, h1, h2⟩ := hf
  cases i with
  | cons i1 i2 => exact ⟨_, _, rfl, k1 ρ d ρ1 h1 B F H σ _ _ E i1 fun σ1 E1 => k2 ρ1 rest ρ' h2 B F H σ1 _ Q E1 i2 q⟩
theorem gu_tup {g : List Sl → List PyData → List Sl → Prop} {tgs : List Expr} {k n : Nat} (hc : X.calm = true) (h : GUs X tgs g) (h1 : (assignEach tgs X.env).length = n := by rfl) (h2 : (assignEach tgs X.env).findIdx? (·.1) = none := by rfl) : GU X (.Tuple tgs k pos) (fTup g n) := by
  obtain ⟨g1, p1, k1⟩ := h
  refine ⟨gTup X.K n g1, pg_tup hc p1 h1 h2, fun ρ d ρ' hf B F H σ v Q E i q => ?_⟩
  obtain ⟨ds, rfl, hn, hg⟩ := hf
  cases i with
  | tup hs ia => exact ⟨_, _, rfl, SqT.of (E.i.g hs), ia.len.trans hn, k1 ρ ds ρ' hg B F H σ _ Q E ia q⟩
/-- a, b = e -/
theorem sd_asg {tg : Expr} {ρ' : List Sl} {f : List Sl → PyData → List Sl → Prop} (h : ED X W (fun C => T.ex C ρ) e ρ d) (g : GU X tg f) (hf : f ρ d ρ') (q : T.nx ρ')
    (h1 : swapsWithSole [tg] e pos.line X.env = pure false := by rfl) (h2 : swappedStores [tg] e X.env = pure none := by rfl) (h3 : (assignEach [tg] X.env).map (·.2) = [assign tg X.env] := by rfl) : SD X W (.Assign [tg] e pos) ρ T := by
  obtain ⟨g1, p1, k1⟩ := g
  exact fun F0 H0 F H σ D s l => w_s (ps_asg pe_w p1 h1 h2 h3) (h H0 F H σ _ s.e (l.xc s) fun v F1 H1 x1 i1 => k1 ρ d ρ' hf H0 F1 H1 σ v _ (s.e.ext x1) i1 fun σ' E' => l.nx ρ' σ' F1 H1 q ⟨s.x.trans x1, E'⟩)
/-- for .. in a list that stands still, any target -/
theorem sd_forG {tg : Expr} {f : List Sl → PyData → List Sl → Prop} (I : Nat → List Sl → Prop) (hp : PassesOwn (model X.prog X.w) X.A X.env X.xe) (hc : X.calm = true) (g : GU X tg f)
    (h : EP' X W (fun C => T.ex C ρ) e ρ ds) (h0 : I 0 ρ) (hs : ∀ i d ρ1, ds[i]? = some d → I i ρ1 → ∃ ρ2, f ρ1 d ρ2 ∧ SDs X W body ρ2 { T with nx := I (i + 1), ct := I (i + 1), bk := T.nx }) (hd : ∀ ρ', I ds.length ρ' → T.nx ρ')
    (hf : ∀ x, foldedSetIterable e X.env x = pure x := by intro _; rfl) : SD X W (.For tg e body [] pos) ρ T := by
  obtain ⟨g1, p1, k1⟩ := g
  refine fun F0 H0 F H σ D s l => w_s (ps_for hp hc (pi_list pe_w) p1 pss_w hf) (h H0 F H σ _ s.e (l.xc s) fun r vs F1 H1 x1 hr i1 => ?_)
  have s1 := s.go x1
  refine ⟨r, rfl, ⟨vs, ?_⟩, for_list (xs := vs) (fun i σ' H' => ∃ F' ρ', I i ρ' ∧ Ex F1 F' ∧ S2 X.K F0 H0 F' H' σ' ρ') ⟨F1, ρ, h0, Ex.refl F1, s1⟩ ?_ ?_ ?_⟩
  · rcases hr with hr | hr
    · exact s1.e.b.sql hr
    · exact s1.e.i.sql hr
  · rintro i σ' H' hi ⟨F', ρ', hI, hx, s'⟩
    rcases hr with hr | hr
    · exact s'.e.b.sql hr
    · exact (hx.trans s'.e.i).sql hr
  · rintro i x σ' H' hi ⟨F', ρ', hI, hx, s'⟩
    obtain ⟨d, hd', id'⟩ := i1.get' hi
    obtain ⟨ρ2, hf2, hb⟩ := hs i d ρ' hd' hI
    refine k1 ρ' d ρ2 hf2 H0 F' H' σ' x _ s'.e (id'.mono hx) fun σ2 E2 => ?_
    refine hb F' H0 F' H' σ2 _ ⟨s'.x.at, E2⟩ ?_
    have l' := l.re s'.x
    have nx : ∀ ρ2 σ2 F2 H2, I (i + 1) ρ2 → S2 X.K F' H0 F2 H2 σ2 ρ2 → ∃ F3 ρ3, I (i + 1) ρ3 ∧ Ex F1 F3 ∧ S2 X.K F0 H0 F3 H2 σ2 ρ3 := fun ρ2 σ2 F2 H2 q s2 => ⟨F2, ρ2, q, hx.trans s2.x.f, s2.on s'.x⟩
    exact ⟨nx, l'.rt, l'.rl, l'.nx, nx, l'.ex, l'.ro⟩
  · rintro σ' H' ⟨F', ρ', hI, hx, s'⟩
    rw [i1.len] at hI
    exact l.nx ρ' σ' F' H' (hd ρ' hI) s'
/-- for j in range(n) -/
theorem sd_rng {j : Nat} {n : Str} {k : Int} (I : Nat → List Sl → Prop) (hp : PassesOwn (model X.prog X.w) X.A X.env X.xe) (hc : X.calm = true) (nd : X.N.Nodup) (hN : X.N[j]? = some n) (hl : Loc X.env.scope n) (hfn : X.fn n = true ∨ X.env.scope.names.lookup n = some .local)
    (hg : Gl X ("range" : Str)) (hm : X.mg ("range" : Str) = none) (h : ED X W (fun C => T.ex C ρ) a ρ (.int k)) (hk : k < 2 ^ 62 ∧ -(2 ^ 62) ≤ k) (h0 : I 0 ρ)
    (hs : ∀ (i : Nat) ρ', i < k.toNat → I i ρ' → SDs X W body (ρ'.set j (.sh (.int i))) { T with nx := I (i + 1), ct := I (i + 1), bk := T.nx }) (hd : ∀ ρ', I k.toNat ρ' → T.nx ρ')
    (hst : starEach [a] X.env = [(false, eval a X.env)] := by rfl) (hf : ∀ x, foldedSetIterable (.Call (.Name "range" p) [a] [] p2) X.env x = pure x := by intro _; rfl) : SD X W (.For (.Name n tpos) (.Call (.Name "range" p) [a] [] p2) body [] pos) ρ T := fun F0 H0 F H σ D s l =>
  w_s (ps_for hp hc (pi_range1 hg hm (pa_cons pe_w pa_nil hst) hst) (pg_name nd hN hl hfn) pss_w hf) (h H0 F H σ _ s.e (l.xc s) fun v F1 H1 x1 i1 => by
    have s1 := s.go x1
    refine ⟨k, by rw [i1.int_eq], hk.2, hk.1, for_range (lo := 0) (n := k.toNat) (fun i σ' H' => ∃ F' ρ', I i ρ' ∧ S2 X.K F0 H0 F' H' σ' ρ') ⟨F1, ρ, h0, s1⟩ ?_ ?_⟩
    · rintro i σ' H' hi ⟨F', ρ', hI, s'⟩
      have e0 : (0 : Int) + (i : Int) = (i : Int) := Int.zero_add _
      rw [e0]
      refine hs i ρ' hi hI F' H0 F' H' (σ'.set j (some (.int i))) _ ⟨s'.x.at, s'.e.set (s := .sh (.int i)) (.int _) rfl⟩ ?_
      have l' := l.re s'.x
      have nx : ∀ ρ2 σ2 F2 H2, I (i + 1) ρ2 → S2 X.K F' H0 F2 H2 σ2 ρ2 → ∃ F3 ρ3, I (i + 1) ρ3 ∧ S2 X.K F0 H0 F3 H2 σ2 ρ3 := fun ρ2 σ2 F2 H2 q s2 => ⟨F2, ρ2, q, s2.on s'.x⟩
      exact ⟨nx, l'.rt, l'.rl, l'.nx, nx, l'.ex, l'.ro⟩
    · rintro σ' H' ⟨F', ρ', hI, s'⟩
      exact l.nx ρ' σ' F' H' (hd ρ' hI) s')
end
end PD

set_option maxHeartbeats 4000000
namespace PD
open PySem L2
variable [PD.TabC]

/-! ### comprehensions: one clause over a name, a test or none -/
abbrev noW : WX := fun _ _ _ _ => False
theorem xcN {W : WX} {F H : Hp} {σ : L2.St} : Xc W noX F H σ := fun _ _ _ e => e.elim
/-- in the comprehension's block -/
abbrev Blk (X : Cx) (scope : Scope) (P : Cx → Prop) : Prop := ∀ (s : Shared) (H : Hp) (C : Addr) (cl : List (Str × Addr)) (fp : List Addr), P (X.blk s H scope (compEnvC scope cl C X.env) fp)
/-- what is made so far: at D, told nowhere yet -/
def Cm (K : PySem.W.Frag) (F1 H1 : Hp) (D : Addr) (out : List PyData) (H : Hp) : Prop := ∃ F acc, Ext F1 H1 F H ∧ F D = none ∧ H D = some (.lst acc) ∧ IsAll K F acc out
theorem wipe1 {σ : L2.St} {j : Nat} {o : Option V} : wipe ((wipe σ [j]).set j o) [j] = wipe σ [j] := by
  show (((σ.set j none).set j o).set j none) = σ.set j none
  rw [List.set_set, List.set_set]
theorem En.wipe {K : PySem.W.Frag} {B F H : Hp} {σ : L2.St} {ρ : List Sl} (E : En K B F H σ ρ) (j : Nat) : En K B F H (L2.wipe σ [j]) (ρ.set j .un) :=
  E.set_ (o := none) (s := .un) trivial fun _ _ _ _ h _ => nomatch h
section
variable {X : Cx} {W : WX} {ex : Addr → Prop} {e a b c o elt iter : Expr} {es ifs : List Expr} {st : Stmt} {ρ : List Sl} {d : PyData} {ds xs ys : List PyData} {pos p p2 apos tpos spos : Pos} {T : De} {scope : Scope} {n : Str} {j : Nat}
/-- the turn of a block -/
theorem cm_turn {α : Type} {t : TT} {te : TE} {B F1 H1 H' : Hp} {D : Addr} {σ2 : L2.St} {ρ2 : List Sl} {out : List PyData} {k : Bool} {r : PyData} {σ : L2.St}
    (ht : ∀ F H (Q : Bool → Hp → Prop), En X.K B F H σ2 ρ2 → (∀ F' H', Ext F H F' H' → Q k H') → t σ2 H Q)
    (he : k = true → ∀ F H (Q : VK), En X.K B F H σ2 ρ2 → (∀ v F' H', Ext F H F' H' → Is X.K F' v r → Q v H') → te σ2 H Q)
    (hE : ∀ F H, Ext F1 H1 F H → En X.K B F H σ2 ρ2) (hD : H1 D = none) (hz : out.length < 100000) (c : Cm X.K F1 H1 D out H') :
    t σ2 H' fun b H3 => if b = true then te σ2 H3 fun y H4 => ∃ acc, H4 D = some (.lst acc) ∧ acc.length < sizeLine ∧ Cm X.K F1 H1 D (if k = true then out ++ [r] else out) (upd H4 D (.lst (acc ++ [y]))) else Cm X.K F1 H1 D (if k = true then out ++ [r] else out) H3 := by
  obtain ⟨F, acc, x, hf, hh, ia⟩ := c
  refine ht F H' _ (hE F H' x) fun F2 H2 x2 => ?_
  have nD : H' D ≠ none := by rw [hh]; exact fun q => nomatch q
  cases k with
  | false => exact iteF ⟨F2, acc, x.trans x2, (x2.n D nD).trans hf, x2.h.g hh, by rw [if_neg Bool.false_ne_true]; exact ia.mono x2.f⟩
  | true =>
    refine iteT (he rfl F2 H2 _ (hE F2 H2 (x.trans x2)) fun v F3 H3 x3 i3 => ?_)
    have x23 := x2.trans x3
    have x13 := x.trans x23
    have hf3 : F3 D = none := (x23.n D nD).trans hf
    refine ⟨acc, x23.h.g hh, Nat.lt_of_lt_of_le (by rw [ia.len]; exact hz) (by decide), F3, acc ++ [v], ⟨x13.f, x13.h.mut hD, x13.i.mut hf3, x13.n, x13.t.mut (x23.h.g hh)⟩, hf3, upd_same, ?_⟩
    rw [if_pos rfl]
    exact (ia.mono x23.f).append (.cons i3 .nil)
def TsD (X : Cx) (ifs : List Expr) (ρ : List Sl) (k : Bool) : Prop := match ifs with
  | [] => k = true
  | [c] => ET X noW noX c ρ k
  | _ => False
/-- a clause's tests as they are -/
theorem pts_w {X : Cx} : ∀ {ifs : List Expr}, (∃ ρ k, TsD X ifs ρ k) → ∃ t, PTs X ifs t ∧ ∀ ρ k, TsD X ifs ρ k → ∀ B F H σ (Q : Bool → Hp → Prop), En X.K B F H σ ρ → (∀ F' H', Ext F H F' H' → Q k H') → t σ H Q
  | [], _ => ⟨tYes, pts_nil, fun ρ k h B F H σ Q E q => by
      have h : k = true := h
      subst h
      exact q F H (Ext.refl E.i)⟩
  | [c], _ => ⟨WT X c, pts_one pt_w, fun ρ k h B F H σ Q E q => h B F H σ Q E xcN q⟩
  | _ :: _ :: _, ⟨_, _, h⟩ => h.elim
def ptsT (X : Cx) : List Expr → TT
  | [] => tYes
  | [c] => WT X c
  | _ => fun _ _ _ => False
theorem pts_T {X : Cx} {ifs : List Expr} (h : ifs.length ≤ 1) : PTs X ifs (ptsT X ifs) := match ifs, h with
  | [], _ => pts_nil
  | [c], _ => pts_one pt_w
theorem pts_run {X : Cx} {ifs : List Expr} {ρ : List Sl} {k : Bool} (h : TsD X ifs ρ k) {B F H : Hp} {σ : L2.St} {Q : Bool → Hp → Prop} (E : En X.K B F H σ ρ) (q : ∀ F' H', Ext F H F' H' → Q k H') : ptsT X ifs σ H Q := match ifs, h with
  | [], h => by
    have h : k = true := h
    subst h
    exact q F H (Ext.refl E.i)
  | [c], h => h B F H σ Q E xcN q
end

/-- the readings of a block, one for all its contexts -/
def WEB (X : Cx) (scope : Scope) (e : Expr) : TE := fun σ H Q => ∀ (s : Shared) (H0 : Hp) (C : Addr) (cl : List (Str × Addr)) (fp : List Addr), WE (X.blk s H0 scope (compEnvC scope cl C X.env) fp) e σ H Q
def WTB (X : Cx) (scope : Scope) (ifs : List Expr) : TT := fun σ H Q => ∀ (s : Shared) (H0 : Hp) (C : Addr) (cl : List (Str × Addr)) (fp : List Addr), ptsT (X.blk s H0 scope (compEnvC scope cl C X.env) fp) ifs σ H Q
section
variable {X : Cx} {W : WX} {ex : Addr → Prop} {e a b c o elt iter : Expr} {es ifs : List Expr} {st : Stmt} {ρ : List Sl} {d : PyData} {ds xs ys : List PyData} {pos p p2 apos tpos spos : Pos} {T : De} {scope : Scope} {n y : Str} {i j : Nat}
theorem pe_wb {s : Shared} {H0 : Hp} {C : Addr} {cl : List (Str × Addr)} {fp : List Addr} : PE (X.blk s H0 scope (compEnvC scope cl C X.env) fp) e (WEB X scope e) := ⟨fun pins s1 σ H Q I h => h s H0 C cl fp pins s1 I⟩
theorem pts_wb {s : Shared} {H0 : Hp} {C : Addr} {cl : List (Str × Addr)} {fp : List Addr} (h : ifs.length ≤ 1) : PTs (X.blk s H0 scope (compEnvC scope cl C X.env) fp) ifs (WTB X scope ifs) := ⟨fun pins s1 σ H Q I q => (pts_T h).run pins s1 σ H Q I (q s H0 C cl fp)⟩

theorem filt_snoc {α : Type} (xs : List α) (b : α → Bool) (g : α → PyData) {i : Nat} {x : α} (h : xs[i]? = some x) : ((xs.take (i + 1)).filter b).map g = if b x = true then ((xs.take i).filter b).map g ++ [g x] else ((xs.take i).filter b).map g := by
  rw [List.take_add_one, h, List.filter_append, List.map_append]
  show _ ++ (List.filter b [x]).map g = _
  cases hb : b x with
  | true => rw [List.filter_cons, if_pos hb, if_pos rfl]; rfl
  | false => rw [List.filter_cons, if_neg (by rw [hb]; exact Bool.false_ne_true), if_neg Bool.false_ne_true]; exact List.append_nil _

/-- what a comprehension asks: the names' side -/
structure LcOk (X : Cx) (scope : Scope) (ifs : List Expr) (n : Str) (j : Nat) (iter : Expr) : Prop where
  calm : X.calm = true
  nd : X.N.Nodup
  blk : BlkOk X.N X.env.scope scope [(n, j)]
  one : ifs.length ≤ 1
  loc : scope.names.lookup n = some .local
  at_ : X.N[j]? = some n
  fset : ∀ x, foldedSetIterable iter X.env x = pure x
theorem lc_tgt (L : LcOk X scope ifs n j iter) (s : Shared) (H : Hp) (C : Addr) (cl : List (Str × Addr)) (fp : List Addr) : PG (X.blk s H scope (compEnvC scope cl C X.env) fp) (.Name n tpos) (gName j) := by
  have h : (X.blk s H scope (compEnvC scope cl C X.env) fp).env.scope.names.lookup n = some .local := lookup_relabel_local (env := X.env) L.loc
  exact pg_name L.nd L.at_ (.inl h) (.inr h)
theorem lc_run {α : Type} {wi : TI} {J : It} {B F1 H1 : Hp} {σ : L2.St} (xs : List α) (q : α → PyData) (bt : α → Bool) (g : α → PyData) (hz : xs.length ≤ 50000)
    (E : En X.K B F1 H1 σ ρ) {Q : VK}
    (hT : ∀ x ∈ xs, Blk X scope fun Y => TsD Y ifs ((ρ.set j .un).set j (.sh (q x))) (bt x)) (hG : ∀ x ∈ xs, bt x = true → Blk X scope fun Y => ED Y noW noX elt ((ρ.set j .un).set j (.sh (q x))) (g x))
    {D : Addr} (hD : H1 D = none)
    (k : ∀ H', Cm X.K F1 H1 D ((xs.filter bt).map g) H' → Q (.ref D) H') :
    ∀ (i : Nat) (x : α) (v : V) (H' : Hp), xs[i]? = some x → Is X.K F1 v (q x) → Cm X.K F1 H1 D (((xs.take i).filter bt).map g) H' →
      (gName j v (wipe σ [j]) H' fun σ2 H2 => wipe σ2 [j] = wipe σ [j] ∧ WTB X scope ifs σ2 H2 fun b H3 => if b = true then WEB X scope elt σ2 H3 fun y H4 => ∃ acc, H4 D = some (.lst acc) ∧ acc.length < sizeLine ∧ Cm X.K F1 H1 D (((xs.take (i + 1)).filter bt).map g) (upd H4 D (.lst (acc ++ [y]))) else Cm X.K F1 H1 D (((xs.take (i + 1)).filter bt).map g) H3) := by
  intro i x v H' hi iv c
  refine ⟨wipe1, ?_⟩
  rw [filt_snoc xs bt g hi]
  have hm : x ∈ xs := List.mem_of_getElem? hi
  refine cm_turn (α := α) (σ := σ) (B := B) (ρ2 := (ρ.set j .un).set j (.sh (q x))) (fun F H Q E2 k2 s H0 C cl fp => ?_) (fun hk F H Q E2 k2 s H0 C cl fp => ?_) (fun F H x1 => ?_) hD ?_ c
  · exact pts_run (hT x hm s H0 C cl fp) E2 k2
  · exact hG x hm hk s H0 C cl fp B F H _ Q E2 xcN k2
  · exact ((E.ext x1).wipe j).set (s := .sh (q x)) (iv.mono x1.f) rfl
  · rw [List.length_map]
    have h1 := List.length_filter_le bt (xs.take i)
    have h2 := List.length_take_le i xs
    have h3 : (xs.take i).length ≤ xs.length := by rw [List.length_take]; exact Nat.min_le_right _ _
    omega
/-- [elt for n in xs if ..] over a list that stands still -/
theorem lc_over {α : Type} (L : LcOk X scope ifs n j iter) (xs : List α) (q : α → PyData) (bt : α → Bool) (g : α → PyData) (h : EP' X W ex iter ρ (xs.map q)) (hz : xs.length ≤ 50000)
    (hT : ∀ x ∈ xs, Blk X scope fun Y => TsD Y ifs ((ρ.set j .un).set j (.sh (q x))) (bt x)) (hG : ∀ x ∈ xs, bt x = true → Blk X scope fun Y => ED Y noW noX elt ((ρ.set j .un).set j (.sh (q x))) (g x))
    {B F H : Hp} {σ : L2.St} (E : En X.K B F H σ ρ) (c : Xc W ex F H σ) {Q : VK} (k : ∀ r vs F' H', Ext F H F' H' → H r = none → F' r = none → H' r = some (.lst vs) → IsAll X.K F' vs ((xs.filter bt).map g) → Q (.ref r) H') :
    tLc (iList X.K (WE X iter)) (gName j) (WTB X scope ifs) (WEB X scope elt) [j] σ H Q := by
  refine h B F H σ _ E c fun r vs F1 H1 x1 hr i1 => ?_
  have E1 := E.ext x1
  have hsq : ∀ H', Ex H1 H' → SqL X.K H' r vs := fun H' y => by
    rcases hr with hr | hr
    · exact (E1.b.trans y).sql hr
    · exact (x1.i.trans y).sql hr
  refine ⟨r, rfl, ⟨vs, hsq H1 (Ex.refl H1)⟩, fun D hD => lc_list (xs := vs) (fun i H' => Cm X.K F1 H1 D (((xs.take i).filter bt).map g) H') ⟨F1, [], Ext.kept x1.i hD, x1.i.back hD, upd_same, .nil⟩ (fun i H' _ ⟨F', acc, y, _⟩ => hsq H' y.h) ?_ ?_⟩
  · intro i v H' hi hc
    obtain ⟨d', hd, id'⟩ := i1.get' hi
    rw [List.getElem?_map] at hd
    cases hx : xs[i]? with
    | none => rw [hx] at hd; cases hd
    | some x =>
      rw [hx] at hd
      cases hd
      exact lc_run (wi := iList X.K (WE X iter)) (J := Itl X.K r) (Q := Q) xs q bt g hz E1 hT hG hD (fun H' ⟨F', acc, y, f0, h0, ia⟩ => k D acc F' H' (x1.trans y) (x1.h.back hD) f0 h0 ia) i x v H' hx id' hc
  · rintro H' ⟨F', acc, y, f0, h0, ia⟩
    rw [i1.len, List.length_map, List.take_length] at ia
    exact k D acc F' H' (x1.trans y) (x1.h.back hD) f0 h0 ia
theorem el_lc {α : Type} (L : LcOk X scope ifs n j iter) (xs : List α) (q : α → PyData) (bt : α → Bool) (g : α → PyData) (h : EP' X W ex iter ρ (xs.map q)) (hz : xs.length ≤ 50000)
    (hT : ∀ x ∈ xs, Blk X scope fun Y => TsD Y ifs ((ρ.set j .un).set j (.sh (q x))) (bt x)) (hG : ∀ x ∈ xs, bt x = true → Blk X scope fun Y => ED Y noW noX elt ((ρ.set j .un).set j (.sh (q x))) (g x)) :
    EL X W ex (.ListComp elt [⟨.Name n tpos, iter, ifs, 0⟩] scope pos) ρ ((xs.filter bt).map g) := fun B F H σ Q E c k =>
  w_e (pe_lc (own := [(n, j)]) L.calm L.nd (pi_list pe_w) L.blk (lc_tgt L) (fun _ _ _ _ _ => pts_wb L.one) (fun _ _ _ _ _ => pe_wb) L.fset) (lc_over L xs q bt g h hz hT hG E c k)
/-- y = [..] -/
theorem sd_lc {α : Type} (L : LcOk X scope ifs n j iter) (hy : X.N[i]? = some y) (hyl : X.env.scope.names.lookup y = some .local) (xs : List α) (q : α → PyData) (bt : α → Bool) (g : α → PyData) (h : EP' X W (fun C => T.ex C ρ) iter ρ (xs.map q)) (hz : xs.length ≤ 50000)
    (hT : ∀ x ∈ xs, Blk X scope fun Y => TsD Y ifs ((ρ.set j .un).set j (.sh (q x))) (bt x)) (hG : ∀ x ∈ xs, bt x = true → Blk X scope fun Y => ED Y noW noX elt ((ρ.set j .un).set j (.sh (q x))) (g x))
    (hsw : swapsWith (.ListComp elt [⟨.Name n tpos, iter, ifs, 0⟩] scope pos) (some (.Name y p)) spos.line X.env = pure true) (k : ∀ r, T.nx (ρ.set i (.ow r ((xs.filter bt).map g)))) :
    SD X W (.Assign [.Name y p] (.ListComp elt [⟨.Name n tpos, iter, ifs, 0⟩] scope pos) spos) ρ T := fun F0 H0 F H σ D s l =>
  w_s (ps_setLc (own := [(n, j)]) L.calm L.nd hy hyl hsw (pi_list pe_w) L.blk (lc_tgt L) (fun _ _ _ _ _ => pts_wb L.one) (fun _ _ _ _ _ => pe_wb) L.fset)
    (lc_over (Q := fun v H' => D.nx (σ.set i (some v)) H') L xs q bt g h hz hT hG s.e (l.xc s) fun r vs F1 H1 x1 h0 f0 h1 i1 => l.nx _ _ F1 H1 (k r) ⟨s.x.trans x1, s.e.own x1 h0 f0 h1 i1⟩)
/-- .. over range(k) -/
theorem el_lcR {k : Int} (L : LcOk X scope ifs n j (.Call (.Name "range" p) [a] [] p2)) (hg : Gl X ("range" : Str)) (hm : X.mg ("range" : Str) = none) (bt : Nat → Bool) (g : Nat → PyData) (h : ED X W ex a ρ (.int k)) (hk : -(2 ^ 62) ≤ k ∧ k ≤ 50000)
    (hT : ∀ x : Nat, x < k.toNat → Blk X scope fun Y => TsD Y ifs ((ρ.set j .un).set j (.sh (.int x))) (bt x)) (hG : ∀ x : Nat, x < k.toNat → bt x = true → Blk X scope fun Y => ED Y noW noX elt ((ρ.set j .un).set j (.sh (.int x))) (g x))
    (hst : starEach [a] X.env = [(false, eval a X.env)] := by rfl) :
    EL X W ex (.ListComp elt [⟨.Name n tpos, .Call (.Name "range" p) [a] [] p2, ifs, 0⟩] scope pos) ρ (((List.range k.toNat).filter bt).map g) := fun B F H σ Q E c kk =>
  w_e (pe_lc (own := [(n, j)]) L.calm L.nd (pi_range1 hg hm (pa_cons pe_w pa_nil hst) hst) L.blk (lc_tgt L) (fun _ _ _ _ _ => pts_wb L.one) (fun _ _ _ _ _ => pe_wb) L.fset) (by
    refine h B F H σ _ E c fun v F1 H1 x1 i1 => ⟨k, by rw [i1.int_eq], hk.1, by omega, fun D hD => ?_⟩
    refine lc_range (lo := 0) (n := k.toNat) (fun i H' => Cm X.K F1 H1 D ((((List.range k.toNat).take i).filter bt).map g) H') ⟨F1, [], Ext.kept x1.i hD, x1.i.back hD, upd_same, .nil⟩ ?_ ?_
    · intro i H' hi hc
      rw [show (0 : Int) + (i : Int) = (i : Int) from Int.zero_add _]
      exact lc_run (wi := iRng1 (WA X [a])) (J := Itr 0 k.toNat) (Q := Q) (List.range k.toNat) (fun x => .int x) bt g (by rw [List.length_range]; omega) (E.ext x1) (fun x hx => hT x (List.mem_range.mp hx)) (fun x hx => hG x (List.mem_range.mp hx)) hD
        (fun H' ⟨F', acc, y, f0, h0, ia⟩ => kk D acc F' H' (x1.trans y) (x1.h.back hD) f0 h0 ia) i i (.int i) H' (by rw [List.getElem?_range hi]) (.int _) hc
    · rintro H' ⟨F', acc, y, f0, h0, ia⟩
      rw [List.take_of_length_le (by rw [List.length_range]; exact Nat.le_refl _)] at ia
      exact kk D acc F' H' (x1.trans y) (x1.h.back hD) f0 h0 ia)
/-- .. over a text's signs -/
theorem el_lcS {z : Str} (L : LcOk X scope ifs n j iter) (bt : Nat → Bool) (g : Nat → PyData) (h : ED X W ex iter ρ (.str z)) (hz : z.length ≤ 50000)
    (hT : ∀ x ∈ z.cps.toList, Blk X scope fun Y => TsD Y ifs ((ρ.set j .un).set j (.sh (.str ⟨#[x]⟩))) (bt x)) (hG : ∀ x ∈ z.cps.toList, bt x = true → Blk X scope fun Y => ED Y noW noX elt ((ρ.set j .un).set j (.sh (.str ⟨#[x]⟩))) (g x)) :
    EL X W ex (.ListComp elt [⟨.Name n tpos, iter, ifs, 0⟩] scope pos) ρ ((z.cps.toList.filter bt).map g) := fun B F H σ Q E c kk =>
  w_e (pe_lc (own := [(n, j)]) L.calm L.nd (pi_str pe_w) L.blk (lc_tgt L) (fun _ _ _ _ _ => pts_wb L.one) (fun _ _ _ _ _ => pe_wb) L.fset) (by
    refine h B F H σ _ E c fun v F1 H1 x1 i1 => ⟨z, i1.str_eq, fun D hD => ?_⟩
    have sz : z.cps.size = z.cps.toList.length := by simp
    refine ⟨fun i m H' => m = z.cps.size - i ∧ Cm X.K F1 H1 D (((z.cps.toList.take i).filter bt).map g) H', ⟨z.cps.size, by omega, F1, [], Ext.kept x1.i hD, x1.i.back hD, upd_same, .nil⟩, ?_⟩
    rintro i m H' ⟨rfl, hc⟩
    by_cases hi : i < z.cps.size
    · refine .inr ⟨hi, fun H2 => Cm X.K F1 H1 D (((z.cps.toList.take (i + 1)).filter bt).map g) H2, fun H2 q => ⟨z.cps.size - (i + 1), by omega, rfl, q⟩, ?_⟩
      rintro x H2 ⟨rfl, cc, hcc, rfl⟩
      have hi2 : z.cps.toList[i]? = some cc := by rw [Array.getElem?_toList]; exact hcc
      exact lc_run (wi := iStr (WE X iter)) (J := Its z) (Q := Q) z.cps.toList (fun x => .str ⟨#[x]⟩) bt g (by rw [← sz]; exact hz) (E.ext x1) hT hG hD
        (fun H' ⟨F', acc, y, f0, h0, ia⟩ => kk D acc F' H' (x1.trans y) (x1.h.back hD) f0 h0 ia) i cc _ H2 hi2 (.str _) hc
    · refine .inl ⟨by show z.cps.size ≤ i; omega, ?_⟩
      obtain ⟨F', acc, y, f0, h0, ia⟩ := hc
      rw [List.take_of_length_le (by rw [← sz]; omega)] at ia
      exact kk D acc F' H' (x1.trans y) (x1.h.back hD) f0 h0 ia)
end
end PD

set_option maxHeartbeats 4000000
namespace PD
open PySem L2 PyProof.Rows
variable [PD.TabC]

/-! ### defs: what they come to, told by data -/
inductive DOut where
  | val (d : PyData)
  | new (ds : List PyData)
  | exc (C : Addr)
  /-- a thing of one's own: told by its value and places -/
  | own (P : V → List Addr → Hp → Hp → Prop)
def Got (K : PySem.W.Frag) (F H : Hp) (Q : VK) (E : XK) : DOut → Prop
  | .val d => ∀ v F' H', Ext F H F' H' → Is K F' v d → Q v H'
  | .new ds => ∀ p vs F' H', Ext F H F' H' → H p = none → F' p = none → H' p = some (.lst vs) → IsAll K F' vs ds → Q (.ref p) H'
  | .exc C => ∀ F' H', Ext F H F' H' → E (.ref C) none H'
  | .own P => ∀ v fp F' H', Ext F H F' H' → (∀ a ∈ fp, H a = none ∧ F' a = none ∧ Std H' a) → P v fp F' H' → Q v H'
def spD (K : PySem.W.Frag) (n : Nat) (R : List Sl → DOut → Prop) : Sp := fun vs H Q E => ∃ F as o, (Ex F H ∧ LamX.Tabs TabC.T H) ∧ AgsOk K F H vs as ∧ as.length = n ∧ R as o ∧ Got K F H Q E o
def deOf : DOut → De
  | .val d => { nx := fun _ => d = .none, rt := fun d' => d' = d, rl := fun ds => d = .list ds }
  | .new ds => { nx := fun _ => False, rl := fun ds' => ds' = ds }
  | .exc C => { nx := fun _ => False, ex := fun C' _ => C' = C }
  | .own P => { nx := fun _ => False, ro := P }
/-- a def that can be called by its name -/
structure Cal (P : Program) (w : World) (K : PySem.W.Frag) (mg : Str → Option Value) (base : Heap) (k : Nat) (x : Str) (n : Nat) (R : List Sl → DOut → Prop) : Prop where
  ex : ∃ (f : Addr) (fd : FuncData) (ps : List Str), FnOk P w K mg base (L2N.CX P w) k f fd ps (spD K n R) ∧ mg x = some (.ref f) ∧ PySem.W.keepIn K (.ref f) = true ∧ Binds K fd ps []

theorem lk_of {K : PySem.W.Frag} {F H : Hp} {Q : VK} {E : XK} {N : List Str} : ∀ {o : DOut}, Got K F H Q E o → Lk K (fun c d _ H' => E c d H') F H (deOf o) { nx := fun _ H' => Q .non H', rt := Q }
  | .val d, g => ⟨fun ρ σ F1 H1 q s => by
      have q : d = .none := q
      subst q
      exact g .non F1 H1 s.x .non, fun d' v F1 H1 q x i => by
      have q : d' = d := q
      subst q
      exact g v F1 H1 x i, fun ds p vs F1 H1 q x h0 f0 h1 i => by
      have q : d = .list ds := q
      subst q
      exact g (.ref p) _ H1 (x.told h0 f0 h1) (.lst upd_same (i.mono (Ex.new f0))), fun _ _ _ _ q => q.elim, fun _ _ _ _ q => q.elim, fun _ _ _ _ _ q => q.elim, fun _ _ _ _ q => q.elim⟩
  | .new ds, g => ⟨fun _ _ _ _ q => q.elim, fun _ _ _ _ q => q.elim, fun ds' p vs F1 H1 q x h0 f0 h1 i => by
      have q : ds' = ds := q
      subst q
      exact g p vs F1 H1 x h0 f0 h1 i, fun _ _ _ _ q => q.elim, fun _ _ _ _ q => q.elim, fun _ _ _ _ _ q => q.elim, fun _ _ _ _ q => q.elim⟩
  | .exc C, g => ⟨fun _ _ _ _ q => q.elim, fun _ _ _ _ q => q.elim, fun _ _ _ _ _ q => q.elim, fun _ _ _ _ q => q.elim, fun _ _ _ _ q => q.elim, fun C' ρ σ F1 H1 q s => by
      have q : C' = C := q
      subst q
      exact g F1 H1 s.x, fun _ _ _ _ q => q.elim⟩
  | .own P, g => ⟨fun _ _ _ _ q => q.elim, fun _ _ _ _ q => q.elim, fun _ _ _ _ _ q => q.elim, fun _ _ _ _ q => q.elim, fun _ _ _ _ q => q.elim, fun _ _ _ _ _ q => q.elim, fun v fp F1 H1 q x z => g v fp F1 H1 x z q⟩
theorem ags_sl {K : PySem.W.Frag} {F H : Hp} : ∀ {vs : List V} {as : List Sl}, AgsOk K F H vs as → ∀ (j : Nat) (s : Sl), as[j]? = some s → ∃ v, vs[j]? = some v ∧ SlOk K H F H (some v) s ∧ s.free = true
  | _, _, .nil, j, s, e => by simp at e
  | _ :: _, a :: _, .cons h t, 0, s, e => by
    have e : some a = some s := e
    cases e
    refine ⟨_, rfl, ?_⟩
    cases a with
    | un => exact h.elim
    | sh d => exact ⟨h, rfl⟩
    | bo ds => exact ⟨h, rfl⟩
    | raw w => exact ⟨h, rfl⟩
    | ow l ds => exact h.elim
    | rg fp P => exact h.elim
    | rb P => exact ⟨h, rfl⟩
  | _, _, .cons h t, j + 1, s, e => ags_sl t j s e
theorem paired_len {α β : Type} {R : α → β → Prop} : ∀ {xs : List α} {ys : List β}, Paired R xs ys → xs.length = ys.length
  | _, _, .nil => rfl
  | _, _, .cons _ t => congrArg (· + 1) (paired_len t)
theorem en_start {K : PySem.W.Frag} {F H : Hp} {vs : List V} {as : List Sl} (N : List Str) (i : Ex F H ∧ LamX.Tabs TabC.T H) (h : AgsOk K F H vs as) (hl : as.length ≤ N.length) : En K H F H (L2.start N vs) (as ++ List.replicate (N.length - as.length) .un) := by
  have hv : vs.length = as.length := paired_len h
  refine ⟨i.1, Ex.refl H, fun j s e => ?_, fun a b l ds es ea eb hx hy => ?_, i.2⟩
  · by_cases hj : j < as.length
    · rw [List.getElem?_append_left hj] at e
      obtain ⟨v, e1, h1, _⟩ := ags_sl h j s e
      refine ⟨some v, ?_, h1⟩
      unfold L2.start
      rw [List.getElem?_append_left (by rw [List.length_map, hv]; exact hj), List.getElem?_map, e1]; rfl
    · rw [List.getElem?_append_right (by omega), List.getElem?_replicate] at e
      split at e
      · cases e
        refine ⟨none, ?_, trivial⟩
        unfold L2.start
        rw [List.getElem?_append_right (by rw [List.length_map, hv]; omega), List.length_map, hv, List.getElem?_replicate, if_pos (by assumption)]
      · cases e
  · by_cases hj : a < as.length
    · rw [List.getElem?_append_left hj] at ea
      obtain ⟨_, _, _, f⟩ := ags_sl h a _ ea
      exact (Sl.free_fp f hx).elim
    · rw [List.getElem?_append_right (by omega), List.getElem?_replicate] at ea
      split at ea <;> cases ea
      exact nomatch hx
section
variable {P : Program} {w : World} {K : PySem.W.Frag} {mg : Str → Option Value} {base : Heap}
/-- THE RULE for a def -/
theorem fnD {x qual : Str} {st : Stmt} {f : Addr} {fd : FuncData} {N ps : List Str} {k : Nat} {R : List Sl → DOut → Prop} (F : Fun K x qual st f fd) (S : FnScope N ps (defScope st)) (hl : ps.length ≤ N.length)
    (hbody : ∀ (cdv : Value) (A : Around) (outer : List PySem.Env) (s : Shared) (H : Hp) (E : XK) (as : List Sl) (o : DOut), Room k (A.deeper (envOfC qual (defScope st) s.heap.objs.size f cdv)) → as.length = ps.length → R as o →
      SDs (cxOf (L2N.CX P w) P w K mg base N qual (defScope st) f cdv A outer s H E) (fun c d _ H' => E c d H') (defBody st) (as ++ List.replicate (N.length - as.length) .un) (deOf o)) : FnOk P w K mg base (L2N.CX P w) (k + 1) f fd ps (spD K ps.length R) := by
  obtain ⟨oc, od, kV, doc, pm, an, cdv, ct, osl, rfl, lk, hcd⟩ := F.ex
  refine fn_of lk hcd S (fun vs H Q E ⟨F, as, o, _, h, hn, _⟩ => (paired_len h).trans hn) fun A outer s H vs Q E hr ⟨F0, as, o, i0, h, hn, hR, g⟩ => ?_
  refine ⟨WSs _ (defBody st), pss_w, ?_⟩
  have E0 := en_start N i0 h (by omega)
  exact hbody cdv A outer s H E as o hr hn hR F0 H F0 H (L2.start N vs) _ ⟨Ext.refl i0.1, E0⟩ (lk_of (N := N) g)
theorem takesN0 {X : Cx} : L2N.Takes X (fun _ _ _ _ => False) := fun u s' ⟨_, _, _, _, _, _, _, _, _, _, _, _, _, _, _, _, w⟩ => w.elim
end
section
variable {X : Cx} {W : WX} {ex : Addr → Prop} {e a b : Expr} {es : List Expr} {ρ as : List Sl} {d : PyData} {ds : List PyData} {pos p : Pos} {k n : Nat} {x : Str} {R : List Sl → DOut → Prop}
theorem call_w (C : Cal X.prog X.w X.K X.mg X.base k x n R) (hr : Room k X.A) (hg : Gl X x) (tk : L2N.Takes X W) (ha : EA X W ex (e :: es) ρ as) (hn : as.length = n) {o : DOut} (hR : R as o)
    (hdb : (x == ("__debug__" : Str)) = false := by decide) (he : starEach (e :: es) X.env = (false, eval e X.env) :: starEach es X.env := by rfl) (hpl : (backTo pos (starEach es X.env)).any (·.1) = false := by rfl)
    {B F H : Hp} {σ : L2.St} {Q : VK} (E : En X.K B F H σ ρ) (c : Xc W ex F H σ) (q : ∀ F1 H1, Ext F H F1 H1 → Got X.K F1 H1 Q (L2.WE W σ) o) : PD.WE X (.Call (.Name x p) (e :: es) [] pos) σ H Q := by
  obtain ⟨f, fd, ps, Fn, hm, hk, hb⟩ := C.ex
  exact w_e (pe_callS Fn hr hg hm hk hb (fun σ => L2N.passAt tk σ) pa_w hdb he hpl) (ha B F H σ _ E c fun vs F1 H1 x1 i1 => ⟨F1, as, o, ⟨x1.i, (E.ext x1).t⟩, i1, hn, hR, q F1 H1 x1⟩)
/-- f(..), a value -/
theorem ed_call (C : Cal X.prog X.w X.K X.mg X.base k x n R) (hr : Room k X.A) (hg : Gl X x) (tk : L2N.Takes X W) (ha : EA X W ex (e :: es) ρ as) (hn : as.length = n) (hR : R as (.val d))
    (hdb : (x == ("__debug__" : Str)) = false := by decide) (he : starEach (e :: es) X.env = (false, eval e X.env) :: starEach es X.env := by rfl) (hpl : (backTo pos (starEach es X.env)).any (·.1) = false := by rfl) : ED X W ex (.Call (.Name x p) (e :: es) [] pos) ρ d := fun B F H σ Q E c q =>
  call_w C hr hg tk ha hn hR hdb he hpl E c fun F1 H1 x1 v F2 H2 x2 i2 => q v F2 H2 (x1.trans x2) i2
theorem el_call (C : Cal X.prog X.w X.K X.mg X.base k x n R) (hr : Room k X.A) (hg : Gl X x) (tk : L2N.Takes X W) (ha : EA X W ex (e :: es) ρ as) (hn : as.length = n) (hR : R as (.new ds))
    (hdb : (x == ("__debug__" : Str)) = false := by decide) (he : starEach (e :: es) X.env = (false, eval e X.env) :: starEach es X.env := by rfl) (hpl : (backTo pos (starEach es X.env)).any (·.1) = false := by rfl) : EL X W ex (.Call (.Name x p) (e :: es) [] pos) ρ ds := fun B F H σ Q E c q =>
  call_w C hr hg tk ha hn hR hdb he hpl E c fun F1 H1 x1 r vs F2 H2 x2 h0 f0 h1 i1 => q r vs F2 H2 (x1.trans x2) (x1.h.back h0) f0 h1 i1
/-- f(..), raised -/
theorem ed_callX (C : Cal X.prog X.w X.K X.mg X.base k x n R) (hr : Room k X.A) (hg : Gl X x) (tk : L2N.Takes X W) (ha : EA X W ex (e :: es) ρ as) (hn : as.length = n) {D : Addr} (hR : R as (.exc D)) (hD : ex D)
    (hdb : (x == ("__debug__" : Str)) = false := by decide) (he : starEach (e :: es) X.env = (false, eval e X.env) :: starEach es X.env := by rfl) (hpl : (backTo pos (starEach es X.env)).any (·.1) = false := by rfl) : ED X W ex (.Call (.Name x p) (e :: es) [] pos) ρ d := fun B F H σ Q E c q =>
  call_w C hr hg tk ha hn hR hdb he hpl E c fun F1 H1 x1 F2 H2 x2 => c D F2 H2 hD (x1.trans x2)
end
/-! names in a def, in a block -/
section
theorem vis_rel {scope : Scope} {env : PySem.Env} {n : Str} (h : scope.names.lookup n = some .local ∨ scope.names.lookup n = some .cell ∨ scope.names.lookup n = some .free) : Vis (relabel scope env) n := by
  have go : ∀ names : List (Str × NameKind), (names.lookup n = some .local ∨ names.lookup n = some .cell ∨ names.lookup n = some .free) →
      ((names.map fun (n, k) => if (k == NameKind.free && env.scope.kind == .function && env.kindOf n == some .cell) then (n, NameKind.cell) else (n, k)).lookup n = some .local ∨
       (names.map fun (n, k) => if (k == NameKind.free && env.scope.kind == .function && env.kindOf n == some .cell) then (n, NameKind.cell) else (n, k)).lookup n = some .cell ∨
       (names.map fun (n, k) => if (k == NameKind.free && env.scope.kind == .function && env.kindOf n == some .cell) then (n, NameKind.cell) else (n, k)).lookup n = some .free) := by
    intro names
    induction names with
    | nil => intro h; simp at h
    | cons y r ih =>
      obtain ⟨m, k⟩ := y
      intro h
      rw [List.map_cons]
      cases hb : n == m with
      | true =>
        simp only [List.lookup_cons, hb] at h
        dsimp only
        by_cases hc : (k == NameKind.free && env.scope.kind == .function && env.kindOf m == some .cell) = true
        · rw [if_pos hc]; simp only [List.lookup_cons, hb]; exact .inr (.inl trivial)
        · rw [if_neg hc]; simp only [List.lookup_cons, hb]; exact h
      | false =>
        simp only [List.lookup_cons, hb] at h
        dsimp only
        by_cases hc : (k == NameKind.free && env.scope.kind == .function && env.kindOf m == some .cell) = true
        · rw [if_pos hc]; simp only [List.lookup_cons, hb]; exact ih h
        · rw [if_neg hc]; simp only [List.lookup_cons, hb]; exact ih h
  exact go scope.names h
theorem gl_rel {scope : Scope} {env : PySem.Env} {n : Str} (h : scope.names.lookup n = some .globalImplicit) : (relabel scope env).names.lookup n = some .globalImplicit := by
  have go : ∀ names : List (Str × NameKind), names.lookup n = some .globalImplicit →
      (names.map fun (n, k) => if (k == NameKind.free && env.scope.kind == .function && env.kindOf n == some .cell) then (n, NameKind.cell) else (n, k)).lookup n = some .globalImplicit := by
    intro names
    induction names with
    | nil => intro h; simp at h
    | cons y r ih =>
      obtain ⟨m, k⟩ := y
      intro h
      rw [List.map_cons]
      cases hb : n == m with
      | true =>
        simp only [List.lookup_cons, hb] at h
        cases h
        dsimp only
        rw [if_neg (show ¬ ((NameKind.globalImplicit == NameKind.free && env.scope.kind == .function && env.kindOf m == some .cell) = true) from by simp)]
        simp only [List.lookup_cons, hb]
      | false =>
        simp only [List.lookup_cons, hb] at h
        dsimp only
        by_cases hc : (k == NameKind.free && env.scope.kind == .function && env.kindOf m == some .cell) = true
        · rw [if_pos hc]; simp only [List.lookup_cons, hb]; exact ih h
        · rw [if_neg hc]; simp only [List.lookup_cons, hb]; exact ih h
  exact go scope.names h
/-- names of a def, checked at once -/
def locB (sc : Scope) (n : Str) : Bool := sc.names.lookup n == some .local || sc.names.lookup n == some .cell
def glB (sc : Scope) (n : Str) : Bool := sc.names.lookup n == some .globalImplicit
theorem loc_of {sc : Scope} {ns : List Str} (h : ns.all (locB sc) = true) {n : Str} (i : Nat) (hn : ns[i]? = some n := by rfl) : Loc sc n := by
  have := List.all_eq_true.mp h n (List.mem_of_getElem? hn)
  unfold locB at this
  rw [Bool.or_eq_true] at this
  rcases this with q | q
  · exact .inl (eq_of_beq q)
  · exact .inr (eq_of_beq q)
theorem vis_of {sc : Scope} {n : Str} (h : Loc sc n) : Vis sc n := by
  rcases h with q | q
  · exact .inl q
  · exact .inr (.inl q)
theorem gl_of {sc : Scope} {ns : List Str} (h : ns.all (glB sc) = true) {n : Str} (i : Nat) (hn : ns[i]? = some n := by rfl) : sc.names.lookup n = some .globalImplicit :=
  eq_of_beq (List.all_eq_true.mp h n (List.mem_of_getElem? hn))
end
end PD

set_option maxHeartbeats 4000000
namespace PD
open PySem L2 PyProof.Rows
variable [PD.TabC]
/-! comparisons, as values and as tests -/
structure Cd (X : Cx) (op : CmpOp) (x y : PyData) (k : Bool) : Prop where
  ex : ∃ r, OpR X (compareOp op) r ∧ R2D X.K r x y (.bool k)
section
variable {X : Cx} {W : WX} {ex : Addr → Prop} {e a b c : Expr} {ρ : List Sl} {x y z : PyData} {pos : Pos} {op op' : CmpOp} {k l : Bool}
theorem cd_lt {i j : Int} : Cd X .Lt (.int i) (.int j) (decide (i < j)) := ⟨_, op_lt, r2_B (g := fun i j => decide (i < j))⟩
theorem cd_le {i j : Int} : Cd X .LtE (.int i) (.int j) (decide (i ≤ j)) := ⟨_, op_le, r2_B (g := fun i j => decide (i ≤ j))⟩
theorem cd_gt {i j : Int} : Cd X .Gt (.int i) (.int j) (decide (j < i)) := ⟨_, op_gt, r2_B (g := fun i j => decide (j < i))⟩
theorem cd_ge {i j : Int} : Cd X .GtE (.int i) (.int j) (decide (j ≤ i)) := ⟨_, op_ge, r2_B (g := fun i j => decide (j ≤ i))⟩
theorem cd_eqI {i j : Int} : Cd X .Eq (.int i) (.int j) (decide (i = j)) := ⟨_, op_eq, r2_eqI⟩
theorem cd_neI {i j : Int} : Cd X .NotEq (.int i) (.int j) (!decide (i = j)) := ⟨_, op_ne, r2_neI⟩
theorem cd_eqS {i j : Str} : Cd X .Eq (.str i) (.str j) (decide (i = j)) := ⟨_, op_eq, r2_eqS⟩
theorem cd_neS {i j : Str} : Cd X .NotEq (.str i) (.str j) (!decide (i = j)) := ⟨_, op_ne, r2_neS⟩
theorem r2_eqB {K : PySem.W.Frag} {i j : Bool} : R2D K rEq (.bool i) (.bool j) (.bool (decide (i = j))) := fun v u F H Q i0 hv hu q => by
  rw [hv.bl_eq, hu.bl_eq]
  refine ⟨rfl, ?_⟩
  rw [show decide (V.bl i = V.bl j) = decide (i = j) from by simp]
  exact q _ F H (Ext.refl i0) (.bl _)
theorem r2_neB {K : PySem.W.Frag} {i j : Bool} : R2D K rNe (.bool i) (.bool j) (.bool (!decide (i = j))) := fun v u F H Q i0 hv hu q => by
  rw [hv.bl_eq, hu.bl_eq]
  refine ⟨rfl, ?_⟩
  rw [show decide (V.bl i = V.bl j) = decide (i = j) from by simp]
  exact q _ F H (Ext.refl i0) (.bl _)
theorem cd_eqB {i j : Bool} : Cd X .Eq (.bool i) (.bool j) (decide (i = j)) := ⟨_, op_eq, r2_eqB⟩
theorem cd_neB {i j : Bool} : Cd X .NotEq (.bool i) (.bool j) (!decide (i = j)) := ⟨_, op_ne, r2_neB⟩
theorem cd_ltS {i j : Str} : Cd X .Lt (.str i) (.str j) (decide (i.cps.toList < j.cps.toList)) := ⟨_, op_lt_str, fun v u F H Q i0 hv hu q => ⟨i, j, hv.str_eq, hu.str_eq, q _ F H (Ext.refl i0) (.bl _)⟩⟩
theorem cd_gtS {i j : Str} : Cd X .Gt (.str i) (.str j) (decide (j.cps.toList < i.cps.toList)) := ⟨_, op_gt_str, fun v u F H Q i0 hv hu q => ⟨i, j, hv.str_eq, hu.str_eq, q _ F H (Ext.refl i0) (.bl _)⟩⟩
theorem cd_leS {i j : Str} : Cd X .LtE (.str i) (.str j) (!decide (j.cps.toList < i.cps.toList)) := ⟨_, op_le_str, fun v u F H Q i0 hv hu q => ⟨i, j, hv.str_eq, hu.str_eq, q _ F H (Ext.refl i0) (.bl _)⟩⟩
theorem cd_geS {i j : Str} : Cd X .GtE (.str i) (.str j) (!decide (i.cps.toList < j.cps.toList)) := ⟨_, op_ge_str, fun v u F H Q i0 hv hu q => ⟨i, j, hv.str_eq, hu.str_eq, q _ F H (Ext.refl i0) (.bl _)⟩⟩
theorem cd_eqD (hu : X.A.units + 64 < cLine) (hx : SeqAt.shaped x = true) (hy : SeqAt.shaped y = true) : Cd X .Eq x y (PyData.eqv x y) := ⟨_, op_eqD hu, fun v u F H Q i0 hv hu q => ⟨x, y, (hv.mono i0).dp, (hu.mono i0).dp, hx, hy, q _ F H (Ext.refl i0) (.bl _)⟩⟩
theorem cd_neD (hu : X.A.units + 64 < cLine) (hx : SeqAt.shaped x = true) (hy : SeqAt.shaped y = true) : Cd X .NotEq x y (!PyData.eqv x y) := ⟨_, op_neD hu, fun v u F H Q i0 hv hu q => ⟨x, y, (hv.mono i0).dp, (hu.mono i0).dp, hx, hy, q _ F H (Ext.refl i0) (.bl _)⟩⟩
theorem cd_inC {m : Nat} {w : Str} : Cd X .In (.str ⟨#[m]⟩) (.str w) (decide (m ∈ w.cps.toList)) := ⟨_, op_in_sign, fun v u F H Q i0 hv hu q => ⟨m, w, hv.str_eq, hu.str_eq, q _ F H (Ext.refl i0) (.bl _)⟩⟩
theorem cd_niC {m : Nat} {w : Str} : Cd X .NotIn (.str ⟨#[m]⟩) (.str w) (!decide (m ∈ w.cps.toList)) := ⟨_, op_notIn_sign, fun v u F H Q i0 hv hu q => ⟨m, w, hv.str_eq, hu.str_eq, q _ F H (Ext.refl i0) (.bl _)⟩⟩
theorem cd_isN : Cd X .Is x .none (isNone x) := ⟨_, op_isN, fun v u F H Q i0 hv hu q => ⟨hu.non_eq, by
    have e : decide (v = V.non) = isNone x := by cases hv <;> rfl
    rw [e]; exact q _ F H (Ext.refl i0) (.bl _)⟩⟩
theorem cd_notN : Cd X .IsNot x .none (!isNone x) := ⟨_, op_notN, fun v u F H Q i0 hv hu q => ⟨hu.non_eq, by
    have e : (!decide (v = V.non)) = (!isNone x) := by cases hv <;> rfl
    rw [e]; exact q _ F H (Ext.refl i0) (.bl _)⟩⟩
theorem cd_inT {i : Str} {zs : List Str} : Cd X .In (.str i) (.tuple (zs.map .str)) (decide (i ∈ zs)) := ⟨_, op_in_seq, fun v u F H Q i0 hv hu q => by
    rw [hv.str_eq]
    cases hu with
    | tup hs a =>
    rw [a.strs_eq] at hs
    refine ⟨_, _, rfl, .inr (SqT.of (i0.g hs)), rfl, flat_strs zs, ?_⟩
    rw [if_neg Bool.false_ne_true, inV_strs]
    exact q _ F H (Ext.refl i0) (.bl _)⟩
theorem cd_niT {i : Str} {zs : List Str} : Cd X .NotIn (.str i) (.tuple (zs.map .str)) (!decide (i ∈ zs)) := ⟨_, op_notIn_seq, fun v u F H Q i0 hv hu q => by
    rw [hv.str_eq]
    cases hu with
    | tup hs a =>
    rw [a.strs_eq] at hs
    refine ⟨_, _, rfl, .inr (SqT.of (i0.g hs)), rfl, flat_strs zs, ?_⟩
    rw [if_pos rfl, inV_strs]
    exact q _ F H (Ext.refl i0) (.bl _)⟩
theorem ed_c (h : Cd X op x y k) (ha : ED X W ex a ρ x) (hb : ED X W ex b ρ y) (hm : behindInMarks op b = false := by rfl) : ED X W ex (.Compare a [op] [b] pos) ρ (.bool k) := by
  obtain ⟨r, ho, hr⟩ := h.ex
  exact ed_cmp ho ha hb hm hr
theorem et_c (h : Cd X op x y k) (ha : ED X W ex a ρ x) (hb : ED X W ex b ρ y) (hm : behindInMarks op b = false := by rfl) : ET X W ex (.Compare a [op] [b] pos) ρ k := by
  obtain ⟨r, ho, hr⟩ := h.ex
  exact fun B F H σ Q E c q => w_t (pt_cmpR ho pe_w pe_w hm) (ha B F H σ _ E c fun v F1 H1 x1 i1 => hb B F1 H1 σ _ (E.ext x1) (c.ext x1) fun u F2 H2 x2 i2 => hr v u F2 H2 _ x2.i (i1.mono x2.f) i2 fun t F3 H3 x3 i3 => ⟨k, i3.bl_eq, q F3 H3 ((x1.trans x2).trans x3)⟩)
theorem et_inL {i : Str} {zs : List Str} (ha : ED X W ex a ρ (.str i)) (hb : EB X W ex b ρ (zs.map .str)) (hm : behindInMarks .In b = false := by rfl) : ET X W ex (.Compare a [.In] [b] pos) ρ (decide (i ∈ zs)) := fun B F H σ Q E c q =>
  w_t (pt_cmpR op_in_seq pe_w pe_w hm) (ha B F H σ _ E c fun v F1 H1 x1 i1 => hb B F1 H1 σ _ (E.ext x1) (c.ext x1) fun p vs F2 H2 x2 hs i2 => by
    rw [i1.str_eq]
    rw [i2.strs_eq] at hs
    refine ⟨p, _, rfl, .inl hs, rfl, flat_strs zs, ?_⟩
    rw [if_neg Bool.false_ne_true, inV_strs]
    exact ⟨_, rfl, q F2 H2 (x1.trans x2)⟩)
theorem et_niL {i : Str} {zs : List Str} (ha : ED X W ex a ρ (.str i)) (hb : EB X W ex b ρ (zs.map .str)) (hm : behindInMarks .NotIn b = false := by rfl) : ET X W ex (.Compare a [.NotIn] [b] pos) ρ (!decide (i ∈ zs)) := fun B F H σ Q E c q =>
  w_t (pt_cmpR op_notIn_seq pe_w pe_w hm) (ha B F H σ _ E c fun v F1 H1 x1 i1 => hb B F1 H1 σ _ (E.ext x1) (c.ext x1) fun p vs F2 H2 x2 hs i2 => by
    rw [i1.str_eq]
    rw [i2.strs_eq] at hs
    refine ⟨p, _, rfl, .inl hs, rfl, flat_strs zs, ?_⟩
    rw [if_pos rfl, inV_strs]
    exact ⟨_, rfl, q F2 H2 (x1.trans x2)⟩)
theorem ed_ch (h1 : Cd X op x y k) (h2 : Cd X op' y z l) (ha : ED X W ex a ρ x) (hb : ED X W ex b ρ y) (hc : ED X W ex c ρ z) (hm : lastMarks [op, op'] [b, c] = false := by rfl) : ED X W ex (.Compare a [op, op'] [b, c] pos) ρ (.bool (k && l)) := by
  obtain ⟨r, ho, hr⟩ := h1.ex
  obtain ⟨r', ho', hr'⟩ := h2.ex
  exact ed_chain ho ho' ha hb hc hr hr' hm
theorem et_ch (h1 : Cd X op x y k) (h2 : Cd X op' y z l) (ha : ED X W ex a ρ x) (hb : ED X W ex b ρ y) (hc : ED X W ex c ρ z) (hm : lastMarks [op, op'] [b, c] = false := by rfl) : ET X W ex (.Compare a [op, op'] [b, c] pos) ρ (k && l) := by
  obtain ⟨r, ho, hr⟩ := h1.ex
  obtain ⟨r', ho', hr'⟩ := h2.ex
  refine fun B F H σ Q E g q => w_t (pt_chain ho ho' pe_w pe_w pe_w hm) (ha B F H σ _ E g fun v F1 H1 x1 i1 => hb B F1 H1 σ _ (E.ext x1) (g.ext x1) fun u F2 H2 x2 i2 => hr v u F2 H2 _ x2.i (i1.mono x2.f) i2 fun t F3 H3 x3 i3 => ⟨k, i3.bl_eq, ?_⟩)
  have x13 := (x1.trans x2).trans x3
  cases k with
  | false => exact iteF ⟨_, rfl, q F3 H3 x13⟩
  | true => exact iteT (hc B F3 H3 σ _ (E.ext x13) (g.ext x13) fun t4 F4 H4 x4 i4 => hr' u t4 F4 H4 _ x4.i ((i2.mono x3.f).mono x4.f) i4 fun t5 F5 H5 x5 i5 => ⟨l, i5.bl_eq, q F5 H5 ((x13.trans x4).trans x5)⟩)
end
end PD

set_option maxHeartbeats 4000000
namespace PD
variable [PD.TabC]
theorem le_b {a b : Nat} (h : Nat.ble a b = true := by rfl) : a ≤ b := Nat.le_of_ble_eq_true h
open PySem L2 PyProof.Rows
section
variable {X : Cx} {W : WX} {ex : Addr → Prop} {e a b c : Expr} {ρ ρ' : List Sl} {d x y z : PyData} {ds : List PyData} {pos : Pos} {n : Str} {sc : Scope} {ns : List Str} {l : Addr} {st : Stmt} {sts : List Stmt} {T : De}
/-! a def's own names -/
theorem ed_v (lo : ns.all (locB sc) = true) (i : Nat) (hN : X.N[i]? = some n := by rfl) (hn : ns[i]? = some n := by rfl) (hs : ρ[i]? = some (.sh d) := by rfl) (hsc : X.env.scope = sc := by rfl) (hd : (n == ("__debug__" : Str)) = false := by decide) (hcd : (n == ("__classdict__" : Str)) = false := by decide) : ED X W ex (.Name n pos) ρ d :=
  ed_at hN (by rw [hsc]; exact vis_of (loc_of lo i hn)) hs hd hcd
theorem ep_v (lo : ns.all (locB sc) = true) (i : Nat) (hN : X.N[i]? = some n := by rfl) (hn : ns[i]? = some n := by rfl) (hs : ρ[i]? = some (.bo ds) := by rfl) (hsc : X.env.scope = sc := by rfl) (hd : (n == ("__debug__" : Str)) = false := by decide) (hcd : (n == ("__classdict__" : Str)) = false := by decide) : EP' X W ex (.Name n pos) ρ ds :=
  eb_bo hN (by rw [hsc]; exact vis_of (loc_of lo i hn)) hs hd hcd
theorem eb_v (lo : ns.all (locB sc) = true) (i : Nat) (hN : X.N[i]? = some n := by rfl) (hn : ns[i]? = some n := by rfl) (hs : ρ[i]? = some (.ow l ds) := by rfl) (hsc : X.env.scope = sc := by rfl) (hd : (n == ("__debug__" : Str)) = false := by decide) (hcd : (n == ("__classdict__" : Str)) = false := by decide) : EB X W ex (.Name n pos) ρ ds :=
  eb_ow hN (by rw [hsc]; exact vis_of (loc_of lo i hn)) hs hd hcd
theorem eraw_v {es : List Expr} {as : List Sl} {w : V} (lo : ns.all (locB sc) = true) (i : Nat) (r : EA X W ex es ρ as) (hN : X.N[i]? = some n := by rfl) (hn : ns[i]? = some n := by rfl) (hs : ρ[i]? = some (.raw w) := by rfl) (hsc : X.env.scope = sc := by rfl) (h1 : starEach (.Name n pos :: es) X.env = (false, eval (.Name n pos) X.env) :: starEach es X.env := by rfl) (hd : (n == ("__debug__" : Str)) = false := by decide) (hcd : (n == ("__classdict__" : Str)) = false := by decide) : EA X W ex (.Name n pos :: es) ρ (.raw w :: as) :=
  ea_raw hN (by rw [hsc]; exact vis_of (loc_of lo i hn)) hs r h1 hd hcd
end
section
variable {X : Cx} {W : WX} {ex : Addr → Prop} {ρ : List Sl} {d : PyData} {ds : List PyData} {pos : Pos} {n : Str} {l : Addr} {s : Shared} {H : Hp} {scope : Scope} {C : Addr} {cl : List (Str × Addr)} {fp : List Addr}
/-! names in a block -/
theorem ed_b (i : Nat) (hN : X.N[i]? = some n := by rfl) (hv : scope.names.lookup n = some .local ∨ scope.names.lookup n = some .cell ∨ scope.names.lookup n = some .free := by first | exact .inl rfl | exact .inr (.inr rfl) | exact .inr (.inl rfl)) (hs : ρ[i]? = some (.sh d) := by rfl)
    (hd : (n == ("__debug__" : Str)) = false := by decide) (hcd : (n == ("__classdict__" : Str)) = false := by decide) : ED (X.blk s H scope (compEnvC scope cl C X.env) fp) W ex (.Name n pos) ρ d := ed_at hN (vis_rel (env := X.env) hv) hs hd hcd
theorem ep_b (i : Nat) (hN : X.N[i]? = some n := by rfl) (hv : scope.names.lookup n = some .local ∨ scope.names.lookup n = some .cell ∨ scope.names.lookup n = some .free := by first | exact .inl rfl | exact .inr (.inr rfl) | exact .inr (.inl rfl)) (hs : ρ[i]? = some (.bo ds) := by rfl)
    (hd : (n == ("__debug__" : Str)) = false := by decide) (hcd : (n == ("__classdict__" : Str)) = false := by decide) : EP' (X.blk s H scope (compEnvC scope cl C X.env) fp) W ex (.Name n pos) ρ ds := eb_bo hN (vis_rel (env := X.env) hv) hs hd hcd
theorem eb_b (i : Nat) (hN : X.N[i]? = some n := by rfl) (hv : scope.names.lookup n = some .local ∨ scope.names.lookup n = some .cell ∨ scope.names.lookup n = some .free := by first | exact .inl rfl | exact .inr (.inr rfl) | exact .inr (.inl rfl)) (hs : ρ[i]? = some (.ow l ds) := by rfl)
    (hd : (n == ("__debug__" : Str)) = false := by decide) (hcd : (n == ("__classdict__" : Str)) = false := by decide) : EB (X.blk s H scope (compEnvC scope cl C X.env) fp) W ex (.Name n pos) ρ ds := eb_ow hN (vis_rel (env := X.env) hv) hs hd hcd
theorem gl_b (h : scope.names.lookup n = some .globalImplicit := by rfl) : Gl (X.blk s H scope (compEnvC scope cl C X.env) fp) n := gl_rel (env := X.env) h
end
section
variable {X : Cx} {W : WX} {ex : Addr → Prop} {e a b c : Expr} {ρ ρ' : List Sl} {d x y z : PyData} {ds : List PyData} {pos p : Pos} {n : Str} {sc : Scope} {ns : List Str} {l : Addr} {st : Stmt} {sts ths : List Stmt} {T : De}
theorem ed_neg {i : Int} (h : ED X W ex a ρ (.int i)) : ED X W ex (.UnaryOp .USub a pos) ρ (.int (-i)) := fun B F H σ Q E c q => w_e (pe_un un_neg pe_w) (h B F H σ _ E c fun v F1 H1 x1 i1 => ⟨i, i1.int_eq, q _ F1 H1 x1 (.int _)⟩)
/-- a slot may be forgotten -/
def SlLe (ρ ρ' : List Sl) : Prop := ρ'.length ≤ ρ.length ∧ ∀ (j : Nat) (s : Sl), ρ'[j]? = some s → s = .un ∨ ρ[j]? = some s
theorem SlLe.refl (ρ : List Sl) : SlLe ρ ρ := ⟨Nat.le_refl _, fun j s h => .inr h⟩
theorem SlLe.nil : SlLe [] [] := SlLe.refl _
theorem SlLe.cons {s : Sl} {ρ ρ' : List Sl} (h : SlLe ρ ρ') : SlLe (s :: ρ) (s :: ρ') := ⟨Nat.succ_le_succ h.1, fun j t e => by
  cases j with
  | zero => exact .inr e
  | succ j => exact h.2 j t e⟩
theorem SlLe.forget {s : Sl} {ρ ρ' : List Sl} (h : SlLe ρ ρ') : SlLe (s :: ρ) (.un :: ρ') := ⟨Nat.succ_le_succ h.1, fun j t e => by
  cases j with
  | zero => exact .inl (Option.some.inj e).symm
  | succ j => exact h.2 j t e⟩
theorem En.le {K : PySem.W.Frag} {B F H : Hp} {σ : L2.St} (E : En K B F H σ ρ) (h : SlLe ρ ρ') : En K B F H σ ρ' := by
  refine ⟨E.i, E.b, fun j s e => ?_, fun i j s t a ei ej ha hb => ?_, E.t⟩
  · have hj : j < ρ.length := Nat.lt_of_lt_of_le (List.getElem?_eq_some_iff.mp e).1 h.1
    rcases h.2 j s e with rfl | q
    · obtain ⟨o, e1, _⟩ := E.s j _ (List.getElem?_eq_getElem hj)
      exact ⟨o, e1, by cases o <;> trivial⟩
    · exact E.s j s q
  · rcases h.2 i _ ei with rfl | qi
    · exact nomatch ha
    · rcases h.2 j _ ej with rfl | qj
      · exact nomatch hb
      · exact E.d i j s t a qi qj ha hb
/-- a statement, then the rest from slots that are said -/
theorem sds_cut (ρ' : List Sl) (h : SD X W st ρ { T with nx := fun ρ2 => SlLe ρ2 ρ' }) (k : SDs X W sts ρ' T) : SDs X W (st :: sts) ρ T := fun F0 H0 F H σ D s l =>
  w_ss (pss_cons ps_w pss_w) (h F0 H0 F H σ _ s (l.nxt fun ρ2 σ2 F2 H2 q s2 => k F0 H0 F2 H2 σ2 D ⟨s2.x, s2.e.le q⟩ l))
theorem sds_le (q : SlLe ρ ρ') (k : SDs X W sts ρ' T) : SDs X W sts ρ T := fun F0 H0 F H σ D s l => k F0 H0 F H σ D ⟨s.x, s.e.le q⟩ l
/-- if c: x = e -/
theorem sd_ifset {i : Nat} {k : Bool} {d0 : PyData} (nd : X.N.Nodup) (hN : X.N[i]? = some n) (hl : Loc X.env.scope n) (hfn : X.fn n = true ∨ X.env.scope.names.lookup n = some .local) {spos : Pos}
    (h : ET X W (fun C => T.ex C ρ) c ρ k) (h0 : ρ[i]? = some (.sh d0)) (h1 : k = true → ED X W (fun C => T.ex C ρ) e ρ d) (q : T.nx (ρ.set i (.sh (if k = true then d else d0)))) (hw : swapsWith e (some (.Name n p)) spos.line X.env = pure false := by rfl) : SD X W (.If c [.Assign [.Name n p] e spos] [] pos) ρ T := by
  refine sd_if h (fun hk => ?_) (fun hk => sds_nil ?_)
  · subst hk
    exact sds_one (sd_set nd hN hl hfn (h1 rfl) q hw)
  · subst hk
    have e : ρ.set i (.sh (if false = true then d else d0)) = ρ := by
      rw [if_neg Bool.false_ne_true]
      obtain ⟨hi, he⟩ := List.getElem?_eq_some_iff.mp h0
      rw [← he]
      exact List.set_getElem_self hi
    rw [e] at q
    exact q
end
end PD

set_option maxHeartbeats 4000000
/-! while an exception is handled: a list's end, a comprehension over a list of truths -/
namespace PD
open PySem PySem.Spec PyProof.Rows L2
variable [PD.TabC]
section
variable {prog : Program} {w : World} {A : Around} {E : Value → Shared → Prop} {s : Shared}
theorem hot_listEnd {it l x1 : Addr} {i : Nat} {items : Array Value} {Q : Option Value → Shared → Prop} (hot : HotX.HotAt A x1 s.heap) (hit : s.heap.IsListIter it l i) (hl : s.heap.IsList l items) (hx : items[i]? = none) (hne : x1 ≠ it)
    (hQ : ∀ h', Heap.ExtBut it s.heap h' → Q none { s with heap := h' }) : wpAny (model prog w) A (pyNext (.ref it)) Q E s := by
  obtain ⟨o, ho, hc, hd⟩ := id hit
  obtain ⟨ol, hol, hcl, nl, hdl⟩ := hl
  obtain ⟨hh, o1, vs1, h1, d1, c1⟩ := hot
  unfold pyNext
  refine wpAny_bind (wpAny_attempt (wpAny_callSpecial?_slot (name := Str.ofString "__next__") hit.typeIs slot_listiter_next (wpAny_call_entry slot_listiter_next hit.typeIs entry_listiter_next ?_ (args_listiter_next _))))
  show wpAny _ _ (field (.ref it) 0 >>= _) _ _ s
  refine wpAny_bind (wpAny_field ho hd (x := .ref l) rfl ?_)
  show wpAny _ _ (if (Value.ref l == Value.none) = true then _ else _) _ _ s
  rw [if_neg (show ¬ ((Value.ref l == Value.none) = true) from Bool.false_ne_true)]
  show wpAny _ _ (field (.ref it) 1 >>= _) _ _ s
  refine wpAny_bind (wpAny_field ho hd (x := .int i 0) rfl ?_)
  show wpAny _ _ (seqItems? (.ref l) >>= _) _ _ s
  refine wpAny_bind (wpAny_seqItems hol hdl ?_)
  simp only [Int.toNat_natCast, hx]
  refine wpAny_bind (wpAny_rule (wpAny_bind (wpAny_setField ho hd (by simp) ?_)))
  show wpAny _ _ (newExc (.type "StopIteration") [] >>= _) _ _ _
  refine wpAny_bind ?_
  simp only [newExc, newTuple]
  refine wpAny_bind (wpAny_newObj_type ?_ (by size_fits))
  refine wpAny_bind (m := firstArgMember _ _) (wpAny_of_eq (a := Value.none) (by first | rfl | (simp only [firstArgMember]; rfl)) ?_)
  refine wpAny_newObj_type ?_ (by size_fits)
  have keep : (s.heap.update it (Obj.mapFields (·.setIfInBounds 0 Value.none))).get? x1 = some o1 := (Heap.get?_update_other _ _ (Ne.symm hne)).trans h1
  have k2 := Heap.get?_push_of_some { cls := .type "tuple", data := .seq ([] : List Value).toArray } keep
  refine HotX.raiseNew_hot (x1 := x1) ⟨hh, o1, vs1, Heap.get?_push_of_some _ k2, d1, c1⟩ (Nat.ne_of_lt (Heap.lt_size k2)) (Heap.get?_push_size _ rfl) rfl (by first | (simp; done) | (simp; omega)) ?_
  refine wpAny_bind (wpAny_isInstance (T := "StopIteration") (b := true) ⟨_, Heap.get?_update_self _ (Heap.get?_push_size _ rfl) rfl, rfl⟩ isSubtype_stop ?_)
  refine wpAny_pure (hQ _ fun b u hb e => ?_)
  have e1 : (s.heap.update it (Obj.mapFields (·.setIfInBounds 0 Value.none))).get? b = some u := (Heap.get?_update_other _ _ (Ne.symm hb)).trans e
  have e2 := Heap.get?_push_of_some { cls := .type "tuple", data := .seq ([] : List Value).toArray } e1
  rw [Heap.get?_update_other _ _ (Nat.ne_of_gt (Heap.lt_size e2))]
  exact Heap.get?_push_of_some _ e2
theorem hot_walks (x1 I ax : Addr) (hne : ax ≠ I) (hx : x1 ≠ I) (items : Array Value) :
    Walks prog w A I [I, ax, x1] [I] items.size (fun i v => items[i]? = some v) (fun i h => h.IsListIter I ax i ∧ h.IsList ax items ∧ HotX.HotAt A x1 h) where
  sub := fun b hb => by simp at hb; simp [hb]
  frame := fun i h h' st hk => ⟨st.1.at fun o e => hk I (by simp) o e, st.2.1.at fun o e => hk ax (by simp) o e, by
    obtain ⟨hh, o, vs, e, d, c⟩ := st.2.2
    exact ⟨hh, o, vs, hk x1 (by simp) o e, d, c⟩⟩
  item := fun i s Q E hi st hQ => by
    refine wpAny_pyNext_list_item st.1 st.2.1 (x := items[i]) (by simp [hi]) fun h' hit' hs' => ?_
    refine hQ _ h' s.toks (by simp [hi]) ⟨hit', st.2.1.extBut hs'.extBut hne, ?_⟩ fun b o hb e => hs'.extBut b o (fun h => hb (by simp [h])) e
    obtain ⟨hh, o, vs, e, d, c⟩ := st.2.2
    exact ⟨hh, o, vs, hs'.extBut x1 o hx e, d, c⟩
  done := fun s Q E st hQ => hot_listEnd st.2.2 st.1 st.2.1 (by simp) hx fun h' he' => hQ h' s.toks fun b o hb e => he' b o (fun h => hb (by simp [h])) e
  self := fun _ _ _ _ st hQ => wpAny_pyIter_listiter st.1 hQ
end
section
variable {X : Cx} {pins : List (Addr × Obj)} {σ : L2.St} {H : Hp} {s : Shared}
theorem inv_laid0 {D : Addr} {o : HO} {t' : Nat} {h' : Heap} (I : Inv X pins σ H s) (k : ∀ b u, s.heap.get? b = some u → h'.get? b = some u) (hD : s.heap.get? D = none) (new : ObjOk X.prog X.w (upd H D o) h' D o) : Inv X pins σ (upd H D o) { s with heap := h', toks := t' } := by
  have hn : H D = none := I.hok.gone hD
  have hb : ∀ b u, s.heap.get? b = some u → b ≠ D := fun b u e z => by rw [z, hD] at e; cases e
  refine I.un ⟨fun b u e _ _ _ => k b u e, fun b u e _ _ _ => ⟨u.slots, k b u e⟩, fun b u e n _ => by rw [upd_ne (hb b u e)]; exact n, fun b u e _ => ⟨u, k b u e⟩, fun b xs e => by rw [upd_ne (ne_of_none e hn)]; exact e,
    fun b u xs e => by rw [upd_ne (ne_of_none e hn)]; exact e, fun b ps e => ⟨#[], by rw [upd_ne (ne_of_none e hn), e]; simp⟩⟩ fun b u e => ?_
  by_cases q : b = D
  · subst q; rw [upd_same] at e; cases e; exact new
  · rw [upd_ne q] at e
    exact (I.hok b u e).stay (fun c v _ z => k c v z) (fun c z => by rw [upd_ne (ne_of_none z hn)]; exact z) fun c xs z => by rw [upd_ne (ne_of_none z hn)]; exact z
end
def isT : Value → Bool
  | .bool b => b
  | _ => false
theorem vals_bl : ∀ {bs : List Bool} {us : List Value}, Vals (bs.map V.bl) us → us = bs.map Value.bool
  | [], _, h => by cases h; rfl
  | b :: bs, _, h => by
    cases h with
    | cons r t => cases r; rw [vals_bl t]; rfl
theorem filt_isT : ∀ bs : List Bool, (bs.map Value.bool).filter isT = (bs.filter id).map Value.bool
  | [] => rfl
  | true :: bs => by rw [List.map_cons, List.filter_cons, if_pos (show isT (.bool true) = true from rfl), filt_isT bs]; rfl
  | false :: bs => by rw [List.map_cons, List.filter_cons, if_neg (show ¬ isT (.bool false) = true from Bool.false_ne_true), filt_isT bs]; rfl
theorem vals_of_bl : ∀ bs : List Bool, Vals (bs.map V.bl) (bs.map Value.bool)
  | [] => .nil
  | b :: bs => .cons rfl (vals_of_bl bs)
theorem paired_eq : ∀ {xs ys : List Value}, Paired (fun v y : Value => v = y) xs ys → xs = ys
  | _, _, .nil => rfl
  | _, _, .cons h t => by rw [h, paired_eq t]
/-- [n for n in .. if n] over truths, while an exception is handled -/
theorem pe_hotLc {X : Cx} {n : Str} {pe px pc pos : Pos} {iter : Expr} {scope : Scope} {ti : TE} (hot : L2H.HotC X) (hi : PE X iter ti) (hcell : ∀ y ∈ scope.names, y.2 ≠ .cell) (hfree : ∀ y ∈ scope.names, y.2 ≠ .free) (hkind : scope.kind = .function)
    (hnames : ∀ y ∈ scope.names, y.2 = .local → scope.names.lookup y.1 = some .local) (hx : scope.names.lookup n = some .local) (hdb : (n == ("__debug__" : Str)) = false := by decide) (hs : ∀ x, foldedSetIterable iter X.env x = pure x := by intro _; rfl) :
    PE X (.ListComp (.Name n pe) [⟨.Name n px, iter, [.Name n pc], 0⟩] scope pos) (fun σ H Q => ti σ H fun v H1 => ∃ (a : Addr) (bs : List Bool), v = .ref a ∧ SqL X.K H1 a (bs.map V.bl) ∧ bs.length ≤ 1000 ∧ ∀ D, H1 D = none → Q (.ref D) (upd H1 D (.lst ((bs.filter id).map V.bl)))) := by
  refine ⟨fun pins s σ H Q I h => ?_⟩
  refine wpAny_ListComp_free (cl := []) isT (fun v y => v = y) ?_ hcell hkind hnames hx (wpAny_mono (hi.run pins s σ H _ I h) (fun v s1 hv => ?_) fun _ _ z => z) hs
  · rw [closure_ok fun y hy e => absurd e (hfree y hy)]
    have : ∀ (names : List (Str × NameKind)) acc, (∀ y ∈ names, y.2 ≠ .free) → cloFrom X.env.cells names acc = acc := by
      intro names
      induction names with
      | nil => intro acc _; rfl
      | cons y r ih =>
        obtain ⟨m, k⟩ := y
        intro acc hy
        unfold cloFrom
        have hk : ¬ (k == NameKind.free) = true := fun q => hy (m, k) List.mem_cons_self (eq_of_beq q)
        rw [if_neg hk]
        exact ih acc fun y hm => hy y (List.mem_cons_of_mem _ hm)
    rw [this _ _ hfree]
  · obtain ⟨v0, H1, I1, rv, a, bs, rfl, hsq, hz, q⟩ := hv
    cases rv
    obtain ⟨its, rl, pl, hl⟩ := I1.list hsq
    have eits : its = bs.map Value.bool := vals_bl rl
    obtain ⟨x1, ht⟩ := hot.at I1
    subst eits
    refine wpAny_pyIter_list pl.isList ?_
    have la : a < s1.heap.objs.size := let ⟨_, e, _⟩ := pl.isList; Heap.lt_size e
    obtain ⟨hh, o1, vs1, e1, d1, c1⟩ := id ht
    have lx : x1 < s1.heap.objs.size := Heap.lt_size e1
    have kp : ∀ b o, s1.heap.get? b = some o → (s1.heap.push { cls := .type "list_iterator", data := .fields #[.ref a, .int 0 0] }).get? b = some o := fun b o e => Heap.get?_push_of_some _ e
    have hsz : (bs.map Value.bool).toArray.size = bs.length := by simp
    refine ⟨s1.heap.objs.size, _, _, _, _, _, rfl, hot_walks x1 s1.heap.objs.size a (Nat.ne_of_lt la) (Nat.ne_of_lt lx) (bs.map Value.bool).toArray, by rw [hsz]; exact Nat.le_trans hz (by decide), ⟨⟨_, Heap.get?_push_size _ rfl, rfl, rfl⟩, pl.isList.at fun o e => kp a o e, hh, o1, vs1, kp x1 o1 e1, d1, c1⟩, fun b hb => ?_, ⟨fun C i v s3 m3 E' hC hP hn hm hk ht => ?_, fun C i v s3 m3 E' hC hP hp hn hm hk ht => ?_⟩, fun D h' tk ys vs hD hl2 hpl hlen hP hF hk => ?_⟩
    · have : b = s1.heap.objs.size ∨ b = a ∨ b = x1 := by simpa using hb
      have h9 : b < s1.heap.objs.size + 1 := by
        rcases this with e | e | e
        · rw [e]; exact Nat.lt_succ_self _
        · rw [e]; exact Nat.lt_succ_of_lt la
        · rw [e]; exact Nat.lt_succ_of_lt lx
      show b < (s1.heap.push { cls := .type "list_iterator", data := .fields #[.ref a, .int 0 0] }).objs.size
      rw [Heap.size_push]
      exact h9
    · have hkn : (compEnvC scope [] C X.env).kindOf n = some .local := lookup_relabel_local (env := X.env) hx
      obtain ⟨b, rfl⟩ : ∃ b, v = Value.bool b := by
        have : v ∈ (bs.map Value.bool).toArray.toList := List.mem_of_getElem? (by rw [Array.getElem?_toList]; exact hP)
        obtain ⟨b, _, e⟩ := List.mem_map.mp (by simpa using this : v ∈ bs.map Value.bool)
        exact ⟨b, e.symm⟩
      refine wpAny_tests_one ?_
      show wpAny _ _ (do let v ← eval (.Name n pc) (compEnvC scope [] C X.env); standAt pc; holding [v] (truthy v)) _ _ _
      refine wpAny_bind (wpAny_Name (wpAny_loadName_local (show (relabel scope X.env).kind = .function from hkind) hkn hn hm (wpAny_bind (wpAny_standAt (wpAny_holding (wpAny_truthy_bool ?_))))) hdb)
      exact ⟨rfl, _, _, rfl, fun _ _ e => e⟩
    · have hkn : (compEnvC scope [] C X.env).kindOf n = some .local := lookup_relabel_local (env := X.env) hx
      exact wpAny_Name (wpAny_loadName_local (show (relabel scope X.env).kind = .function from hkind) hkn hn hm ⟨rfl, _, _, rfl, fun _ _ e => e⟩) hdb
    · have evs : vs = bs.map Value.bool := by
        refine List.ext_getElem (by rw [hlen, hsz, List.length_map]) fun j h1 h2 => ?_
        have := hP j vs[j] (List.getElem?_eq_getElem h1)
        rw [List.getElem?_toArray, List.getElem?_eq_getElem h2] at this
        exact (Option.some.inj this).symm
      subst evs
      rw [filt_isT] at hF
      have ey := paired_eq hF
      have hD1 : s1.heap.get? D = none := by
        cases z : s1.heap.get? D with
        | none => rfl
        | some u => rw [kp D u z] at hD; cases hD
      have k2 : ∀ b u, s1.heap.get? b = some u → h'.get? b = some u := fun b u e => hk b u (by
        have : b ≠ s1.heap.objs.size := Nat.ne_of_lt (Heap.lt_size e)
        simpa using this) (kp b u e)
      refine ⟨.ref D, _, inv_laid0 (s := s1) (t' := tk) (o := .lst ((bs.filter id).map V.bl)) I1 k2 hD1 ⟨?_, (bs.filter id).map Value.bool, ?_⟩, rfl, q D (I1.hok.gone hD1)⟩
      · rw [List.length_map]
        have := List.length_filter_le id bs
        exact Nat.le_trans (Nat.le_trans this hz) (by decide)
      · have e2 : ys = ((bs.filter id).map Value.bool).toArray := by rw [ey]
        obtain ⟨m, hm⟩ := hpl
        rw [e2] at hm
        exact ⟨m, vals_of_bl _, hm⟩
end PD

set_option maxHeartbeats 4000000
/-! a try whose clauses bind the error; a def that is handed the error it is called about -/
namespace PD
open PySem PySem.Spec PyProof.Rows L2
variable [PD.TabC]
/-- what the clauses, one behind the other, wish of an error: slot i is the bound name's; one of them takes it -/
def wTry (K : PySem.W.Frag) (i : Nat) (D : Ends) : List (Value × (Addr → Value → Option Addr → TS)) → WX
  | [] => fun _ _ _ _ => False
  | (c, ts) :: r => fun cls d σ H => ∃ b, PySem.W.exmOne K cls c = some b ∧
      (b = true → ∀ a, H a = none → ts a cls d ⟨fun σ' H' => D.nx (σ'.set i none) H', D.rt, fun σ' H' => D.bk (σ'.set i none) H', fun σ' H' => D.ct (σ'.set i none) H'⟩ (σ.set i (some (.ref a))) H) ∧ (b = false → wTry K i D r cls d σ H)
inductive Clauses (X : Cx) (n : Str) : List ExceptHandler → List (Value × (Addr → Value → Option Addr → TS)) → Prop
  | nil : Clauses X n [] []
  | cons {x : Str} {c : Value} {ts : Addr → Value → Option Addr → TS} {b0 : Stmt} {suite : List Stmt} {np pos' : Pos} {hds : List ExceptHandler} {l : List (Value × (Addr → Value → Option Addr → TS))} (hc : Names X x c)
      (hsu : ∀ (a : Addr) (oe : Obj) (cls : Value) (d : Option Addr) (pn : List (Addr × Obj)), L2N.Zn cls d oe → (∃ vs, oe.data = .fields vs) → PSs (X.suite a ((a, oe) :: pn)) (b0 :: suite) (ts a cls d)) (r : Clauses X n hds l) :
      Clauses X n (.ExceptHandler (some (.Name x np)) (some n) (b0 :: suite) pos' :: hds) ((c, ts) :: l)
section
variable {X : Cx} {body : List Stmt} {n : Str} {i : Nat} {h0 : ExceptHandler} {hds : List ExceptHandler} {l : List (Value × (Addr → Value → Option Addr → TS))} {pos : Pos} {tb : WX → TS}
theorem ps_tryAs (hs : X.stack = X.env :: X.outer) (hf : X.env.frame = some X.env.locals) (hN : X.N.Nodup) (hi : X.N[i]? = some n) (hln : X.env.kindOf n = some .local)
    (hb : ∀ (W : WX) (pn : List (Addr × Obj)) (xe : Value → Shared → Prop), L2N.Takes (X.tr pn xe) W → PassesOwn (model X.prog X.w) X.A X.env xe → PSs (X.tr pn xe) body (tb W))
    (hh : Clauses X n (h0 :: hds) l) : PS X (.Try body (h0 :: hds) [] [] pos) (fun D σ H => tb (wTry X.K i D l) D σ H) := by
  refine ⟨fun pins s σ H D I q0 => ?_⟩
  have ok := I.ok
  have hloc : L2.Loc X.env.scope n := .inl hln
  have hfr : X.A.frames = some (X.env :: X.outer) := by rw [ok.frames, hs]
  refine wpAny_Try_except ?_
  let catch_ : Value → Shared → Prop := fun e s1 => wpAny (model X.prog X.w) X.A (noteFrame e X.env) (fun _ s2 => wpAny (model X.prog X.w) X.A (setFlight e none) (fun _ s3 => wpAny (model X.prog X.w) X.A (handleBy e X.env (h0 :: hds)) (SP X pins D) X.xe s3) X.xe s2) X.xe s1
  refine wpAny_mono ((hb (wTry X.K i D l) (X.pn ++ pins) catch_ (fun u s' xx => ?_) PassesOwn.looking).run [] s σ H D (I.toTry _) q0) (fun f s1 hsp => ?_) (fun e s1 he => he)
  · obtain ⟨a, B, sI, pins', σ', H', cls, d, rfl, J', nb, up, sky, na, os, ag, wish⟩ := xx
    have J : Inv X pins σ' H' sI := J'.ofTry ok
    have sky2 : Sky B (X.env :: X.outer) a (L2N.Zn cls d) X.env.locals s'.heap := by rw [← hs]; exact sky
    show wpAny (model X.prog X.w) X.A (noteFrame (.ref a) X.env) _ _ _
    refine L2N.Sky.land L2N.Zn.steady hfr hf sky2 fun h3 fl3 up3 => ?_
    have J3 : Inv X pins σ' H' { s' with heap := h3 } := J.landed nb fl3.1 (up.trans up3) os ag
    obtain ⟨oe3, vs3, he3, hz3, hd3⟩ := fl3.there
    have apart : a ∉ frs (X.env :: X.outer) := fun hm => by
      obtain ⟨_, o', e', hnf⟩ := fl3.2.2.1.mem hm
      rw [he3] at e'; cases e'
      exact hnf _ hd3
    have nL : a ≠ X.env.locals := fun z => apart (List.mem_filterMap.mpr ⟨X.env, List.mem_cons_self, by rw [hf, z]⟩)
    have nF : a ∉ X.fs := fun hm => let ⟨e, he, q⟩ := List.mem_filterMap.mp hm; apart (List.mem_filterMap.mpr ⟨e, List.mem_cons_of_mem _ he, q⟩)
    have S3 := J3.suite he3 hd3 na nL nF
    have LT : PySem.W.Looks (model X.prog X.w) h3 (typeOf (.ref a)) cls := fun A Q E s k q => wpAny_typeOf_ref (k _ _ he3) (by rw [hz3.1]; exact q)
    -- one clause behind the other
    have go : ∀ {hs' : List ExceptHandler} {l' : List (Value × (Addr → Value → Option Addr → TS))}, Clauses X n hs' l' → wTry X.K i D l' cls d σ' H' → wpAny (model X.prog X.w) X.A (handleBy (.ref a) X.env hs') (SP X pins D) X.xe { s' with heap := h3 } := by
      intro hs' l' hk
      induction hk with
      | nil => exact fun w => w.elim
      | @cons x c ts b0 suite np pos' hds2 l2 hc hsu r ih =>
        rintro ⟨b, hb1, hyes, hno⟩
        refine wpAny_handleBy_cons (codeAny_handlers_test ?_) (by intro q; cases q)
        have LM := PySem.W.exm_one (M := model X.prog X.w) (J3.kIn) LT hb1
        have named : ∀ {Q : Value → Shared → Prop} {E : Value → Shared → Prop}, Q c { s' with heap := h3 } → wpAny (model X.prog X.w) (X.A.mark (some (.ref a))) (eval (.Name x np) X.env) Q E { s' with heap := h3 } := fun {Q E} q => by
          obtain ⟨hg, hdbg, hm | ⟨hm, hv, hnn⟩⟩ := hc
          · exact ld_glob (X := X.suite a ((a, oe3) :: (X.pn ++ pins))) S3 hg hm q hdbg
          · exact ld_blt (X := X.suite a ((a, oe3) :: (X.pn ++ pins))) S3 hg hm hv q hnn hdbg
        refine named (LM.here ?_)
        cases b with
        | false => exact ih (hno rfl)
        | true =>
          refine codeAny_handlers_suite_as (HandSPX.lands_againZ fl3 fun h4 fl4 up4 => ?_)
          have J4 : Inv X pins σ' H' { s' with heap := h4 } := J.landed nb fl4.1 ((up.trans up3).trans up4) os ag
          obtain ⟨oe4, vs4, he4, hz4, hd4⟩ := fl4.there
          have S4 := J4.suite he4 hd4 na nL nF
          refine store_ok (X := X.suite a ((a, oe4) :: (X.pn ++ pins))) (v := .ref a) S4 hN hi hloc rfl (fun s5 S5 => ?_) (.inr hln)
          refine wpAny_mono ((hsu a oe4 cls d (X.pn ++ pins) hz4 ⟨_, hd4⟩).run [] s5 _ H' _ S5 (hyes rfl a na)) (fun f s6 hsp => ?_) (fun _ _ z => False.elim z)
          have over : ∀ {σ6 : L2.St} {H6 : Hp} {Q : Shared → Prop}, Inv (X.suite a ((a, oe4) :: (X.pn ++ pins))) [] σ6 H6 s6 → (∀ s7, Inv X pins (σ6.set i none) H6 s7 → Q s7) →
              wpAny (model X.prog X.w) X.A (do bindName X.env n .none; unbindBehindTheSuite X.env n pos') (fun _ s7 => Q s7) X.xe s6 := fun {σ6 H6 Q} S6 hq => gone_ok (S6.unsuite ok) hN hi hln hq
          cases f with
          | next => obtain ⟨σ6, H6, S6, q6⟩ := hsp; exact over S6 fun s7 J7 => ⟨_, _, J7, q6⟩
          | brk => obtain ⟨σ6, H6, S6, q6⟩ := hsp; exact over S6 fun s7 J7 => ⟨_, _, J7, q6⟩
          | cont => obtain ⟨σ6, H6, S6, q6⟩ := hsp; exact over S6 fun s7 J7 => ⟨_, _, J7, q6⟩
          | ret u => obtain ⟨v6, σ6, H6, S6, r6, q6⟩ := hsp; exact over S6 fun s7 J7 => ⟨_, _, _, J7, r6, q6⟩
    exact go hh wish
  · cases f with
    | next => obtain ⟨σ', H', J', q⟩ := hsp; exact wpAny_execs_nil ⟨σ', H', J'.ofTry ok, q⟩
    | brk => obtain ⟨σ', H', J', q⟩ := hsp; exact ⟨σ', H', J'.ofTry ok, q⟩
    | cont => obtain ⟨σ', H', J', q⟩ := hsp; exact ⟨σ', H', J'.ofTry ok, q⟩
    | ret u => obtain ⟨v, σ', H', J', r, q⟩ := hsp; exact ⟨v, σ', H', J'.ofTry ok, r, q⟩
end

/-! a def that is called in a suite; p: the error that is handled -/
structure FnE (P : Program) (w : World) (K : PySem.W.Frag) (mg : Str → Option Value) (base : Heap) (k : Nat) (f : Addr) (fd : FuncData) (ps : List Str) (sp : Addr × Obj → Sp) : Prop where
  len : ∀ p vs H Q E, sp p vs H Q E → vs.length = ps.length
  run : ∀ (A : Around) (outer : List PySem.Env) (s : Shared) (H : Hp) (args : Args) (us : List Value) (vs : List V) (Q : VK) (p : Addr × Obj), L2H.RoomH k A → L2H.Hot1 A p → L2H.PinOk outer H s p → Env0 P w K mg base A outer s H → BindsTo s fd args (ps.zip us) → Vals vs us →
    sp p vs H Q E0 → codeAny (model P w) A (.call (.ref f) args) (CR CX0 outer P w H s Q E0) s
section
variable {P : Program} {w : World} {K : PySem.W.Frag} {mg : Str → Option Value} {base : Heap}
theorem fnE {x qual : Str} {st : Stmt} {f : Addr} {fd : FuncData} {N ps : List Str} {k : Nat} {sp : Addr × Obj → Sp} (F : Fun K x qual st f fd) (S : FnScope N ps (defScope st)) (len : ∀ p vs H Q E, sp p vs H Q E → vs.length = ps.length)
    (hbody : ∀ (cdv : Value) (A : Around) (outer : List PySem.Env) (s : Shared) (H : Hp) (vs : List V) (Q : VK) (p : Addr × Obj), L2H.Hot1 A p → L2H.RoomH k (A.deeper (envOfC qual (defScope st) s.heap.objs.size f cdv)) → sp p vs H Q E0 →
      WSs (L2H.cxH CX0 P w K mg base N qual (defScope st) f cdv A outer s H E0 p) (defBody st) { nx := fun _ H' => Q .non H', rt := Q } (L2.start N vs) H) : FnE P w K mg base (k + 1) f fd ps sp := by
  obtain ⟨oc, od, kV, doc, pm, an, cdv, ct, osl, rfl, lk, hcd⟩ := F.ex
  refine ⟨len, fun A outer s H args us vs Q p hr hot hpin e0 hb r hsp => ?_⟩
  have hl := len _ _ _ _ _ hsp
  have KX : K.In s.heap := e0.mod.kin.keeps fun b o e => (e0.bs b o e).1
  have lim : s.heap.NoLimit := e0.mod.nolimit.keeps fun b o e => (e0.bs b o e).1
  have kinds : ∀ y ∈ ps.zip us, (defScope st).names.lookup y.1 = some .local ∨ ((defScope st).names.lookup y.1 = some .cell ∧ ((cellsFrom (s.heap.objs.size + 1) (defScope st).names []).lookup y.1).isSome = true) := fun ⟨n, v⟩ hy => by
    rcases S.par n (List.of_mem_zip hy).1 with q | q
    · exact .inl q
    · exact .inr ⟨q, PySem.W.cellsFrom_some _ _ _ (.inl q)⟩
  refine codeAny_call_function hr.depth (KX _ _ lk) rfl S.co S.gen rfl (PySem.W.codeRec_of KX hcd) (hb _ _ _ _ (wpAny_newFunctionEnv_cells S.kind kinds fun env he s1 x => ?_))
  subst he
  refine ⟨lim.keeps x.toInCall.keep, codeAny_func ?_⟩
  have I := L2H.inv_startH (CX := CX0) (cd := cdv) (E := E0) S hpin e0 hl r x
  refine wpAny_mono (hbody cdv A outer s H vs Q p hot (hr.deeper _) hsp [] s1 I) (fun fl s' hs => ?_) fun e s' hs => hs
  cases fl with
  | ret u => obtain ⟨v, σ', H', J, rv, q⟩ := hs; exact ⟨v, H', J.os, J.bare, J.base, J.hok, rv, q⟩
  | next => obtain ⟨σ', H', J, q⟩ := hs; exact ⟨.non, H', J.os, J.bare, J.base, J.hok, rfl, q⟩
  | brk => obtain ⟨_, _, _, q⟩ := hs; exact q.elim
  | cont => obtain ⟨_, _, _, q⟩ := hs; exact q.elim
end
section
variable {X : Cx} {k : Nat} {f : Addr} {fd : FuncData} {ps : List Str} {sp : Addr × Obj → Sp} {x : Str} {q pos : Pos} {e : Expr} {es : List Expr} {t : TA} {pe : Addr × Obj}
theorem pe_callE (F : FnE X.prog X.w X.K X.mg X.base k f fd ps sp) (hr : L2H.RoomH k X.A) (hot : L2H.Hot1 X.A pe) (hp : pe ∈ X.pn) (hg : Gl X x) (hm : X.mg x = some (.ref f)) (hk : PySem.W.keepIn X.K (.ref f) = true) (hb : Binds X.K fd ps [])
    (ha : PA X (e :: es) t) (hdb : (x == ("__debug__" : Str)) = false := by decide) (he : starEach (e :: es) X.env = (false, eval e X.env) :: starEach es X.env := by rfl) (hpl : (backTo pos (starEach es X.env)).any (·.1) = false := by rfl) :
    PE X (.Call (.Name x q) (e :: es) [] pos) (fun σ H Q => t σ H fun vs H1 => sp pe vs H1 Q E0) := by
  refine ⟨fun pins s σ H Q I h => wpAny_Call_Name_kw (ld_glob I hg hm (PySem.W.callWith_K (h₀ := X.base) I.ok.mod.kin hk (thn (ha.run pos pins s σ H _ I h) fun us s1 ⟨vs, H1, I1, r, q1⟩ => ⟨I1.kIn, ?_⟩) he hpl) hdb)⟩
  have hl : us.length = ps.length := by rw [← r.length]; exact F.len _ _ _ _ _ q1
  have b := hb s1 us I1.kIn (by rw [List.append_nil]; exact hl)
  rw [List.append_nil] at b
  have P1 := I1.pin pe (List.mem_append_left _ hp)
  have hpin : L2H.PinOk X.stack H1 s1 pe := ⟨P1.1, P1.2.1, fun hm2 => (List.mem_cons.mp (I1.stkSub pe.1 hm2)).elim P1.2.2.1 P1.2.2.2.1, P1.2.2.2.2⟩
  refine wpAny_call (codeAny_mono (F.run X.A X.stack s1 H1 ⟨us, []⟩ us vs Q pe hr hot hpin I1.env0 b r q1) fun r2 s' hq => ?_)
  cases r2 with
  | error e => exact hq.elim
  | ok fl =>
    cases fl with
    | ret u => exact I1.after hq
    | next => exact hq.elim
    | brk => exact hq.elim
    | cont => exact hq.elim
end
/-! isinstance of the error that is at hand -/
section
variable {X : Cx} {W : WX} {ex : Addr → Prop} {ρ : List Sl} {pos p p2 p3 : Pos} {n c : Str} {i : Nat} {a D : Addr} {oe : Obj}
theorem ed_isi {cv : V} {cu : Value} {b : Bool} (hN : X.N[i]? = some n) (hv : Vis X.env.scope n) (hs : ρ[i]? = some (.raw (.ref a))) (pin : (a, oe) ∈ X.pn) (C : ExcC X.K D) (hz : Zc (.ref D) none oe) (hf : ∃ vs, oe.data = .fields vs)
    (hc : PE X (.Name c p3) (tC cv)) (hcv : ∀ u, RelV cv u → u = cu) (e : PySem.W.kitOne X.K (.ref D) cu = some b) (hg : Gl X ("isinstance" : Str)) (hm : X.mg ("isinstance" : Str) = none)
    (hd : (n == ("__debug__" : Str)) = false := by decide) (hcd : (n == ("__classdict__" : Str)) = false := by decide) : ED X W ex (.Call (.Name "isinstance" p) [.Name n p2, .Name c p3] [] pos) ρ (.bool b) := fun B F H σ Q E xc q => by
  obtain ⟨o, e1, h1⟩ := E.s i _ hs
  cases o with
  | none => exact h1.elim
  | some v =>
  have h1 : v = .ref a := h1
  subst h1
  have r : CallR X (.builtin "isinstance") (rIsE X.K D a) := fun pins s σ H xs us Q I r h => by
    obtain ⟨c, cv, b, rfl, hcv, e, q⟩ := h
    cases r with
    | cons rx rr =>
    cases rr with
    | cons rt rr =>
    cases rr
    cases rx
    have ec := hcv _ rt
    subst ec
    obtain ⟨hget, _⟩ := I.pin (a, oe) (List.mem_append.mpr (.inl pin))
    obtain ⟨vs, hv⟩ := hf
    have J : PySem.W.InstAt s.heap a oe D none := by
      obtain ⟨oc, od, oda, osl⟩ := oe
      obtain ⟨h1, h2⟩ := hz
      dsimp only at h1 h2 hv
      subst h1 h2 hv
      exact ⟨hget, rfl, rfl, trivial⟩
    exact PySem.W.kia_one (PySem.W.handS_kitx_exc C.hg C.hk C.hs C.hd C.ha C.hn C.ht C.hm) I.kIn J e (fun z => nomatch z) fun tk => ⟨.bl b, H, I.kept (t' := tk) fun _ _ z => z, rfl, q⟩
  exact w_e (pe_callB r hg hm (by decide +kernel) (pa_cons (pe_var hN hv hd hcd) (pa_cons hc pa_nil)) (by decide) (by decide) rfl (by rfl)) ⟨_, e1, cv, cu, b, rfl, hcv, e, q _ F H (Ext.refl E.i) (.bl b)⟩
end
end PD

set_option maxHeartbeats 4000000
namespace PD
open PySem PySem.Spec PyProof.Rows L2
variable [PD.TabC]
section
variable {X : Cx} {W : WX} {ex : Addr → Prop} {ρ : List Sl} {pos pe px pc p p2 p3 : Pos} {n c : Str} {i : Nat} {iter : Expr} {scope : Scope} {bs : List Bool}
/-- [n for n in .. if n] over truths, in a def that is called in a suite -/
theorem el_hot (hot : L2H.HotC X) (h : EB X W ex iter ρ (bs.map .bool)) (hz : bs.length ≤ 1000) (hcell : ∀ y ∈ scope.names, y.2 ≠ .cell := by decide +kernel) (hfree : ∀ y ∈ scope.names, y.2 ≠ .free := by decide +kernel) (hkind : scope.kind = .function := by rfl)
    (hnames : ∀ y ∈ scope.names, y.2 = .local → scope.names.lookup y.1 = some .local := by decide +kernel) (hx : scope.names.lookup n = some .local := by rfl) (hdb : (n == ("__debug__" : Str)) = false := by decide) (hs : ∀ x, foldedSetIterable iter X.env x = pure x := by intro _; rfl) :
    EL X W ex (.ListComp (.Name n pe) [⟨.Name n px, iter, [.Name n pc], 0⟩] scope pos) ρ ((bs.filter id).map .bool) := fun B F H σ Q E xc q =>
  w_e (pe_hotLc hot pe_w hcell hfree hkind hnames hx hdb hs) (h B F H σ _ E xc fun r vs F1 H1 x1 hr i1 => by
    rw [i1.bools_eq] at hr
    refine ⟨r, bs, rfl, hr, hz, fun D hD => ?_⟩
    exact q D _ F1 _ (x1.trans (Ext.kept x1.i hD)) (x1.h.back hD) (x1.i.back hD) upd_same (IsAll.bools _))
end
/-- what the class D says, of the eight and of the two above -/
structure Kit8 (K : PySem.W.Frag) (mg : Str → Option Value) (D : Addr) (b1 b2 b3 b4 b5 b6 b7 b8 : Bool) : Prop where
  cls : ExcC K D
  k1 : ∃ C, mg "BadChange" = some (.ref C) ∧ PySem.W.kitOne K (.ref D) (.ref C) = some b1
  k2 : ∃ C, mg "NotLeaned" = some (.ref C) ∧ PySem.W.kitOne K (.ref D) (.ref C) = some b2
  k3 : ∃ C, mg "Twice" = some (.ref C) ∧ PySem.W.kitOne K (.ref D) (.ref C) = some b3
  k4 : ∃ C, mg "Missing" = some (.ref C) ∧ PySem.W.kitOne K (.ref D) (.ref C) = some b4
  k5 : ∃ C, mg "NoLine" = some (.ref C) ∧ PySem.W.kitOne K (.ref D) (.ref C) = some b5
  k6 : ∃ C, mg "Other" = some (.ref C) ∧ PySem.W.kitOne K (.ref D) (.ref C) = some b6
  k7 : ∃ C, mg "Ring" = some (.ref C) ∧ PySem.W.kitOne K (.ref D) (.ref C) = some b7
  k8 : ∃ C, mg "NoNote" = some (.ref C) ∧ PySem.W.kitOne K (.ref D) (.ref C) = some b8
  k9 : ∃ C, mg "WeaveError" = some (.ref C) ∧ PySem.W.kitOne K (.ref D) (.ref C) = some true
  kv : PySem.W.kitOne K (.ref D) (.type "ValueError") = some true
  ve : mg "ValueError" = none
  is : mg "isinstance" = none
  ln : mg "len" = none
  one : [b1, b2, b3, b4, b5, b6, b7, b8].filter id = [true]
section
variable {X : Cx} {W : WX} {ex : Addr → Prop} {ρ : List Sl} {pos p p2 p3 : Pos} {n c : Str} {i : Nat} {a D : Addr} {oe : Obj} {b : Bool} {sc : Scope} {ns gs : List Str}
theorem ed_isiC (lo : ns.all (locB sc) = true) (gl : gs.all (glB sc) = true) (i j k : Nat) (pin : (a, oe) ∈ X.pn) (C : ExcC X.K D) (hz : Zc (.ref D) none oe) (hf : ∃ vs, oe.data = .fields vs) (kt : ∃ A, X.mg c = some (.ref A) ∧ PySem.W.kitOne X.K (.ref D) (.ref A) = some b) (hm : X.mg ("isinstance" : Str) = none)
    (hN : X.N[i]? = some n := by rfl) (hn : ns[i]? = some n := by rfl) (hs : ρ[i]? = some (.raw (.ref a)) := by rfl) (hj : gs[j]? = some ("isinstance" : Str) := by rfl) (hk : gs[k]? = some c := by rfl) (hsc : X.env.scope = sc := by rfl) (hdb : (c == ("__debug__" : Str)) = false := by decide)
    (hd : (n == ("__debug__" : Str)) = false := by decide) (hcd : (n == ("__classdict__" : Str)) = false := by decide) : ED X W ex (.Call (.Name "isinstance" p) [.Name n p2, .Name c p3] [] pos) ρ (.bool b) := by
  obtain ⟨A, hA, e⟩ := kt
  have g1 : Gl X c := by show X.env.scope.names.lookup c = _; rw [hsc]; exact gl_of gl k hk
  have g2 : Gl X ("isinstance" : Str) := by show X.env.scope.names.lookup _ = _; rw [hsc]; exact gl_of gl j hj
  exact ed_isi (cv := .ref A) hN (by rw [hsc]; exact vis_of (loc_of lo i hn)) hs pin C hz hf (pe_glob g1 hA rfl hdb) (fun u r => r) e g2 hm hd hcd
theorem ed_isiV (lo : ns.all (locB sc) = true) (gl : gs.all (glB sc) = true) (i j k : Nat) (pin : (a, oe) ∈ X.pn) (C : ExcC X.K D) (hz : Zc (.ref D) none oe) (hf : ∃ vs, oe.data = .fields vs) (e : PySem.W.kitOne X.K (.ref D) (.type "ValueError") = some b) (hv : X.mg ("ValueError" : Str) = none) (hm : X.mg ("isinstance" : Str) = none)
    (hN : X.N[i]? = some n := by rfl) (hn : ns[i]? = some n := by rfl) (hs : ρ[i]? = some (.raw (.ref a)) := by rfl) (hj : gs[j]? = some ("isinstance" : Str) := by rfl) (hk : gs[k]? = some ("ValueError" : Str) := by rfl) (hsc : X.env.scope = sc := by rfl)
    (hd : (n == ("__debug__" : Str)) = false := by decide) (hcd : (n == ("__classdict__" : Str)) = false := by decide) : ED X W ex (.Call (.Name "isinstance" p) [.Name n p2, .Name "ValueError" p3] [] pos) ρ (.bool b) := by
  have g1 : Gl X ("ValueError" : Str) := by show X.env.scope.names.lookup _ = _; rw [hsc]; exact gl_of gl k hk
  have g2 : Gl X ("isinstance" : Str) := by show X.env.scope.names.lookup _ = _; rw [hsc]; exact gl_of gl j hj
  exact ed_isi (cv := .ty "ValueError") hN (by rw [hsc]; exact vis_of (loc_of lo i hn)) hs pin C hz hf (pe_bltn g1 hv (by decide +kernel) rfl) (fun u r => r) e g2 hm hd hcd
end
/-- the promise of the law's look at an error: True -/
def spAlone (K : PySem.W.Frag) (mg : Str → Option Value) : Addr × Obj → Sp := fun p vs H Q _ => ∃ D b1 b2 b3 b4 b5 b6 b7 b8, vs = [.ref p.1] ∧ L2N.Zn (.ref D) none p.2 ∧ (∃ vs, p.2.data = .fields vs) ∧ Kit8 K mg D b1 b2 b3 b4 b5 b6 b7 b8 ∧ LamX.Tabs TabC.T H ∧ ∀ H', Ex H H' → Tb H H' → Q (.bl true) H'
end PD

set_option maxHeartbeats 4000000
namespace PD
open PySem PySem.Spec PyProof.Rows L2
variable [PD.TabC]
/-! ### try .. except C as n: .. (one clause or several; one of them takes what is raised) -/
inductive Cls (X : Cx) (n : Str) : List ExceptHandler → List (List Stmt × Value) → Prop
  | nil : Cls X n [] []
  | cons {x : Str} {c : Value} {b0 : Stmt} {suite : List Stmt} {np pos' : Pos} {hds : List ExceptHandler} {l : List (List Stmt × Value)} (hc : Names X x c) (r : Cls X n hds l) : Cls X n (.ExceptHandler (some (.Name x np)) (some n) (b0 :: suite) pos' :: hds) ((b0 :: suite, c) :: l)
/-- behind a suite its name is gone -/
def De.gone (T : De) (i : Nat) : De := { T with nx := fun ρ => T.nx (ρ.set i .un), bk := fun ρ => T.bk (ρ.set i .un), ct := fun ρ => T.ct (ρ.set i .un), ex := fun _ _ => False }
def Han (X : Cx) (i : Nat) (T : De) (C : Addr) (ρ : List Sl) : List (List Stmt × Value) → Prop
  | [] => False
  | (suite, c) :: r => ∃ b, PySem.W.exmOne X.K (.ref C) c = some b ∧
      (b = true → ∀ (a : Addr) (oe : Obj) (pn : List (Addr × Obj)), L2N.Zn (.ref C) none oe → (∃ vs, oe.data = .fields vs) → SDs (X.suite a ((a, oe) :: pn)) noW suite (ρ.set i (.raw (.ref a))) (T.gone i)) ∧ (b = false → Han X i T C ρ r)
section
variable {X : Cx}
def tSui (X : Cx) (suite : List Stmt) : Addr → Value → Option Addr → TS := fun a cls d D σ H => ∀ (oe : Obj) (pn : List (Addr × Obj)), L2N.Zn cls d oe → (∃ vs, oe.data = .fields vs) → WSs (X.suite a ((a, oe) :: pn)) suite D σ H
theorem Cls.cl {n : Str} : ∀ {hds : List ExceptHandler} {l : List (List Stmt × Value)}, Cls X n hds l → Clauses X n hds (l.map fun p => (p.2, tSui X p.1))
  | _, _, .nil => .nil
  | _, _, .cons hc r => .cons hc (fun a oe cls d pn hz hf => ⟨fun pins s σ H D I h => h oe pn hz hf pins s I⟩) r.cl
theorem han_wish {i : Nat} {T : De} {C : Addr} {F0 H0 F H : Hp} {σ : L2.St} {ρ : List Sl} {D : Ends} {W : WX} (l : Lk X.K W F0 H0 T D) (s : S2 X.K F0 H0 F H σ ρ) : ∀ {hs : List (List Stmt × Value)}, Han X i T C ρ hs → wTry X.K i D (hs.map fun p => (p.2, tSui X p.1)) (.ref C) none σ H
  | [], h => h.elim
  | (suite, c) :: r, ⟨b, hb, hy, hn⟩ => ⟨b, hb, fun q a na oe pn hz hf => by
      have s1 : S2 X.K F0 H0 F H (σ.set i (some (.ref a))) (ρ.set i (.raw (.ref a))) := ⟨s.x, s.e.set (s := .raw (.ref a)) rfl rfl⟩
      have drop : ∀ ρ2 σ2 F2 H2, S2 X.K F0 H0 F2 H2 σ2 ρ2 → S2 X.K F0 H0 F2 H2 (σ2.set i none) (ρ2.set i .un) := fun ρ2 σ2 F2 H2 s2 => ⟨s2.x, s2.e.set_ (o := none) (s := .un) trivial fun _ _ _ _ h _ => nomatch h⟩
      exact hy q a oe pn hz hf F0 H0 F H _ _ s1 ⟨fun ρ2 σ2 F2 H2 z s2 => l.nx _ _ F2 H2 z (drop _ _ _ _ s2), l.rt, l.rl, fun ρ2 σ2 F2 H2 z s2 => l.bk _ _ F2 H2 z (drop _ _ _ _ s2), fun ρ2 σ2 F2 H2 z s2 => l.ct _ _ F2 H2 z (drop _ _ _ _ s2), fun _ _ _ _ _ z => z.elim, l.ro⟩, fun q => han_wish l s (hn q)⟩
variable {W : WX} {ρ : List Sl} {T : De} {body : List Stmt} {n : Str} {i : Nat} {h0 : ExceptHandler} {hds : List ExceptHandler} {hs : List (List Stmt × Value)} {pos : Pos}
theorem sd_try (ex0 : Addr → List Sl → Prop) (hst : X.stack = X.env :: X.outer) (hf : X.env.frame = some X.env.locals) (hN : X.N.Nodup) (hi : X.N[i]? = some n) (hln : X.env.kindOf n = some .local) (cl : Cls X n (h0 :: hds) hs)
    (hb : ∀ (W0 : WX) (pn : List (Addr × Obj)) (xe : Value → Shared → Prop), L2N.Takes (X.tr pn xe) W0 → PassesOwn (model X.prog X.w) X.A X.env xe → SDs (X.tr pn xe) W0 body ρ { T with ex := ex0 })
    (hh : ∀ C ρ1, ex0 C ρ1 → Han X i T C ρ1 hs) : SD X W (.Try body (h0 :: hds) [] [] pos) ρ T := fun F0 H0 F H σ D s l =>
  w_s (ps_tryAs (tb := fun W0 D σ H => ∀ pn xe, L2N.Takes (X.tr pn xe) W0 → PassesOwn (model X.prog X.w) X.A X.env xe → WSs (X.tr pn xe) body D σ H) hst hf hN hi hln (fun W0 pn xe tk po => ⟨fun pins s1 σ1 H1 D1 I1 q => q pn xe tk po pins s1 I1⟩) cl.cl)
    fun pn xe tk po => hb _ pn xe tk po F0 H0 F H σ D s ⟨l.nx, l.rt, l.rl, l.bk, l.ct, fun C ρ1 σ1 F1 H1 e s1 => han_wish l s1 (hh C ρ1 e), l.ro⟩
end
section
variable {X : Cx} {W : WX} {ex : Addr → Prop} {ρ : List Sl} {k : Nat} {f : Addr} {fd : FuncData} {ps : List Str} {x n : Str} {q p pos : Pos} {i : Nat} {a D : Addr} {oe : Obj} {sc : Scope} {ns gs : List Str} {b1 b2 b3 b4 b5 b6 b7 b8 : Bool}
/-- a suite's look at its error: True -/
theorem ed_alone (lo : ns.all (locB sc) = true) (gl : gs.all (glB sc) = true) (i j : Nat) (F : FnE X.prog X.w X.K X.mg X.base k f fd ps (spAlone X.K X.mg)) (hr : L2H.RoomH k X.A) (hh : X.A.handled = some (.ref a)) (pin : (a, oe) ∈ X.pn) (hz : L2N.Zn (.ref D) none oe) (hf : ∃ vs, oe.data = .fields vs) (kit : Kit8 X.K X.mg D b1 b2 b3 b4 b5 b6 b7 b8)
    (hm : X.mg x = some (.ref f)) (hk : PySem.W.keepIn X.K (.ref f) = true) (hb : Binds X.K fd ps []) (hN : X.N[i]? = some n := by rfl) (hn : ns[i]? = some n := by rfl) (hs : ρ[i]? = some (.raw (.ref a)) := by rfl) (hj : gs[j]? = some x := by rfl) (hsc : X.env.scope = sc := by rfl)
    (hd : (n == ("__debug__" : Str)) = false := by decide) (hcd : (n == ("__classdict__" : Str)) = false := by decide) (hdb : (x == ("__debug__" : Str)) = false := by decide) : ED X W ex (.Call (.Name x q) [.Name n p] [] pos) ρ (.bool true) := fun B F0 H σ Q E xc k0 => by
  obtain ⟨o, e1, h1⟩ := E.s i _ hs
  cases o with
  | none => exact h1.elim
  | some v =>
  have h1 : v = .ref a := h1
  subst h1
  obtain ⟨vs, hv⟩ := hf
  have g1 : Gl X x := by show X.env.scope.names.lookup x = _; rw [hsc]; exact gl_of gl j hj
  refine w_e (pe_callE (pe := (a, oe)) F hr ⟨hh, vs, hv, hz.2.2 vs hv⟩ pin g1 hm hk hb (pa_cons (pe_var hN (by rw [hsc]; exact vis_of (loc_of lo i hn)) hd hcd) pa_nil) hdb rfl (by rfl)) ⟨_, e1, D, b1, b2, b3, b4, b5, b6, b7, b8, rfl, hz, ⟨vs, hv⟩, kit, E.t, fun H' x y => ?_⟩
  exact k0 _ F0 H' ⟨Ex.refl F0, x, E.i.trans x, fun _ _ => rfl, y⟩ (.bl true)
end
end PD

set_option maxHeartbeats 4000000
namespace PD
open PySem PySem.Spec PyProof.Rows L2
variable [PD.TabC]
/-- an error class of one's own, below ValueError -/
structure Er (K : PySem.W.Frag) (mg : Str → Option Value) (x : Str) (C : Addr) : Prop where
  g : mg x = some (.ref C)
  q : PySem.W.excIn K C [.type "ValueError", .type "Exception", .type "BaseException", .type "object"] "ValueError.__new__" = true
  k : PySem.W.keepIn K (.ref C) = true
  b : PySem.W.subIn K (.ref C) (.type "BaseException") = some true
  t : PySem.W.typeIn K (.ref C) = some (.type "type")
section
variable {X : Cx} {W : WX} {e : Expr} {ρ : List Sl} {d : PyData} {pos p p2 : Pos} {n : Str} {C : Addr} {T : De} {sc : Scope} {gs : List Str}
theorem sd_rz (E : Er X.K X.mg n C) (hc : X.calm = true) (tk : L2N.Takes X W) (hg : Gl X n) (h : ED X W (fun C => T.ex C ρ) e ρ d) (hx : T.ex C ρ) (hs : starEach [e] X.env = (false, eval e X.env) :: starEach [] X.env := by rfl) (hdb : (n == ("__debug__" : Str)) = false := by decide) :
    SD X W (.Raise (some (.Call (.Name n p) [e] [] p2)) none pos) ρ T := sd_raise hc tk PySem.F.excBase_ValueError E.q E.g E.k (raises_own E.b E.t) hg h hx hs hdb
/-- a short text of plain signs -/
def Tx0 (z : Str) : Prop := z.length ≤ 1000 ∧ ∀ c ∈ z.cps.toList, c < 256
theorem sz_repr {z : Str} (h : Tx0 z) : (reprText z).length ≤ 10002 := by
  have h1 := StrLaws.reprText_len z (fun c hc => Nat.lt_of_lt_of_le (h.2 c hc) (by decide))
  have h2 := h.1
  omega
theorem str_ok {z : Str} (h : Tx0 z) : PyData.strOk z = true := by
  unfold PyData.strOk
  rw [← Array.all_toList, List.all_eq_true]
  intro c hc
  exact decide_eq_true (Nat.lt_of_lt_of_le (h.2 c hc) (by decide))
/-- the comprehension without a test -/
theorem lc_all {α β : Type} (xs : List α) (g : α → β) : (xs.filter fun _ => true).map g = xs.map g := by rw [List.filter_eq_self.mpr (fun _ _ => rfl)]
/-- an expression that raises -/
def EX (X : Cx) (W : WX) (ex : Addr → Prop) (e : Expr) (ρ : List Sl) : Prop := ∀ B F H σ (Q : VK), En X.K B F H σ ρ → Xc W ex F H σ → PD.WE X e σ H Q
theorem sd_exprX (h : EX X W (fun C => T.ex C ρ) e ρ) (hw : swapsWith e none pos.line X.env = pure false := by rfl) : SD X W (.Expr e pos) ρ T := fun F0 H0 F H σ D s l => w_s (ps_expr pe_w hw) (h H0 F H σ _ s.e (l.xc s))
theorem sd_retX (h : EX X W (fun C => T.ex C ρ) e ρ) : SD X W (.Return (some e) pos) ρ T := fun F0 H0 F H σ D s l => w_s (ps_ret pe_w) (h H0 F H σ _ s.e (l.xc s))
theorem sd_setX {i : Nat} {m : Str} (nd : X.N.Nodup) (hN : X.N[i]? = some m) (hl : Loc X.env.scope m) (hfn : X.fn m = true ∨ X.env.scope.names.lookup m = some .local) (h : EX X W (fun C => T.ex C ρ) e ρ) (hw : swapsWith e (some (.Name m p)) pos.line X.env = pure false := by rfl) : SD X W (.Assign [.Name m p] e pos) ρ T := fun F0 H0 F H σ D s l =>
  w_s (ps_set nd hN hl pe_w hw hfn) (h H0 F H σ _ s.e (l.xc s))
end
section
variable {X : Cx} {W : WX} {ex : Addr → Prop} {e a b : Expr} {es : List Expr} {ρ as : List Sl} {d : PyData} {ds : List PyData} {pos p : Pos} {k n : Nat} {x : Str} {R : List Sl → DOut → Prop}
theorem EX.ed (h : EX X W ex e ρ) : ED X W ex e ρ d := fun B F H σ Q E c _ => h B F H σ Q E c
theorem ex_call (C : Cal X.prog X.w X.K X.mg X.base k x n R) (hr : Room k X.A) (hg : Gl X x) (tk : L2N.Takes X W) (ha : EA X W ex (e :: es) ρ as) (hn : as.length = n) {D : Addr} (hR : R as (.exc D)) (hD : ex D)
    (hdb : (x == ("__debug__" : Str)) = false := by decide) (he : starEach (e :: es) X.env = (false, eval e X.env) :: starEach es X.env := by rfl) (hpl : (backTo pos (starEach es X.env)).any (·.1) = false := by rfl) : EX X W ex (.Call (.Name x p) (e :: es) [] pos) ρ := fun B F H σ Q E c =>
  call_w C hr hg tk ha hn hR hdb he hpl E c fun F1 H1 x1 F2 H2 x2 => c D F2 H2 hD (x1.trans x2)
end
/-- a test that raises -/
def ETX (X : Cx) (W : WX) (ex : Addr → Prop) (e : Expr) (ρ : List Sl) : Prop := ∀ B F H σ (Q : Bool → Hp → Prop), En X.K B F H σ ρ → Xc W ex F H σ → WT X e σ H Q
section
variable {X : Cx} {W : WX} {ex : Addr → Prop} {e a b : Expr} {ρ : List Sl} {pos : Pos} {T : De} {ths els : List Stmt}
theorem etx_is (h : EX X W ex a ρ) (hm : behindInMarks .Is b = false := by rfl) : ETX X W ex (.Compare a [.Is] [b] pos) ρ := fun B F H σ Q E c => w_t (pt_cmpR op_isN pe_w pe_w hm) (h B F H σ _ E c)
theorem sd_ifX (h : ETX X W (fun C => T.ex C ρ) e ρ) : SD X W (.If e ths els pos) ρ T := fun F0 H0 F H σ D s l => w_s (ps_if pt_w pss_w pss_w) (h H0 F H σ _ s.e (l.xc s))
end
theorem num_len {n : Nat} (h : n ≤ 1000) : (Str.ofString (toString (n : Int))).length ≤ 10 := by
  have a : ((List.range 1001).all fun n => decide ((Str.ofString (toString (n : Int))).length ≤ 10)) = true := by decide +kernel
  exact of_decide_eq_true (List.all_eq_true.mp a n (List.mem_range.mpr (by omega)))
end PD

set_option maxHeartbeats 4000000
namespace PD
open PySem PySem.Spec PyProof.Rows L2
variable [PD.TabC]
section
variable {X : Cx} {W : WX} {e1 e2 : Expr} {body : List Stmt} {ρ : List Sl} {xs ys : List PyData} {pos p p2 tpos : Pos} {T : De} {elts : List Expr} {kk : Nat}
/-- for .. in zip(xs, ys), both lists stand still -/
theorem sd_zip {f : List Sl → PyData → List Sl → Prop} (I : Nat → List Sl → Prop) (hp : PassesOwn (model X.prog X.w) X.A X.env X.xe) (hc : X.calm = true) (g : GU X (.Tuple elts kk tpos) f) (hg : Gl X ("zip" : Str)) (hm : X.mg ("zip" : Str) = none)
    (h1 : EP' X W (fun C => T.ex C ρ) e1 ρ xs) (h2 : EP' X W (fun C => T.ex C ρ) e2 ρ ys) (h0 : I 0 ρ)
    (hs : ∀ i d1 d2 ρ1, xs[i]? = some d1 → ys[i]? = some d2 → I i ρ1 → ∃ ρ2, f ρ1 (.tuple [d1, d2]) ρ2 ∧ SDs X W body ρ2 { T with nx := I (i + 1), ct := I (i + 1), bk := T.nx }) (hd : ∀ ρ', I (min xs.length ys.length) ρ' → T.nx ρ')
    (s1 : starEach [e1, e2] X.env = (false, eval e1 X.env) :: starEach [e2] X.env := by rfl) (s2 : starEach [e2] X.env = [(false, eval e2 X.env)] := by rfl) (s3 : (backTo p2 (starEach [e2] X.env)).any (fun x => x.1) = false := by rfl)
    (hf : ∀ x, foldedSetIterable (.Call (.Name "zip" p) [e1, e2] [] p2) X.env x = pure x := by intro _; rfl) : SD X W (.For (.Tuple elts kk tpos) (.Call (.Name "zip" p) [e1, e2] [] p2) body [] pos) ρ T := by
  obtain ⟨g1, p1, k1⟩ := g
  refine fun F0 H0 F H σ D s l => w_s (ps_for hp hc (pi_zip hg hm (pa_cons pe_w (pa_cons pe_w pa_nil s2) s1) s1 s3) p1 pss_w hf) (h1 H0 F H σ _ s.e (l.xc s) fun a vs F1 H1 x1 hr1 i1 => h2 H0 F1 H1 σ _ (s.e.ext x1) ((l.xc s).ext x1) fun b ws F2 H2 x2 hr2 i2 => ?_)
  have s4 := (s.go x1).go x2
  have ra : ∀ F' H', Ex F2 F' → Ex F' H' → Ex H0 H' → SqL X.K H' a vs := fun F' H' y z u => by
    rcases hr1 with hr | hr
    · exact u.sql hr
    · exact ((x2.f.trans y).trans z).sql hr
  have rb : ∀ F' H', Ex F2 F' → Ex F' H' → Ex H0 H' → SqL X.K H' b ws := fun F' H' y z u => by
    rcases hr2 with hr | hr
    · exact u.sql hr
    · exact (y.trans z).sql hr
  refine ⟨a, b, vs, ws, rfl, ra F2 H2 (Ex.refl _) s4.e.i s4.e.b, rb F2 H2 (Ex.refl _) s4.e.i s4.e.b, fun i m σ' H' => m = min xs.length ys.length - i ∧ i ≤ min xs.length ys.length ∧ ∃ F' ρ', I i ρ' ∧ Ex F2 F' ∧ S2 X.K F0 H0 F' H' σ' ρ', ⟨_, rfl, Nat.zero_le _, F2, ρ, h0, Ex.refl F2, s4⟩, ?_⟩
  rintro i m σ' H' ⟨rfl, him, F', ρ', hI, hx, s'⟩
  have qa := ra F' H' hx s'.e.i s'.e.b
  have qb := rb F' H' hx s'.e.i s'.e.b
  by_cases hi : i < min xs.length ys.length
  · have hi1 : i < xs.length := by omega
    have hi2 : i < ys.length := by omega
    obtain ⟨v, hv, iv⟩ := i1.get (List.getElem?_eq_getElem hi1)
    obtain ⟨u, hu, iu⟩ := i2.get (List.getElem?_eq_getElem hi2)
    refine .inr ⟨⟨vs, ws, v, u, qa, qb, hv, hu⟩, fun σ2 H2 => ∃ F2' ρ2, I (i + 1) ρ2 ∧ Ex F2 F2' ∧ S2 X.K F0 H0 F2' H2 σ2 ρ2, fun σ2 H2 ⟨F2', ρ2, a1, a2, a3⟩ => ⟨min xs.length ys.length - (i + 1), by omega, rfl, by omega, F2', ρ2, a1, a2, a3⟩, ?_⟩
    rintro x H3 ⟨t, v', u', rfl, nt, rfl, fa, fb⟩
    have ev : v' = v := Option.some.inj ((fa vs qa).symm.trans hv)
    have eu : u' = u := Option.some.inj ((fb ws qb).symm.trans hu)
    subst ev eu
    have x3 : Ext F' H' (upd F' t (.tup [v', u'])) (upd H' t (.tup [v', u'])) := Ext.made s'.e.i nt
    have s3 := s'.go x3
    obtain ⟨ρ2, hf2, hb⟩ := hs i _ _ ρ' (List.getElem?_eq_getElem hi1) (List.getElem?_eq_getElem hi2) hI
    have iv3 := (iv.mono x2.f).mono (hx.trans x3.f)
    have iu3 := iu.mono (hx.trans x3.f)
    refine k1 ρ' _ ρ2 hf2 H0 _ _ σ' (.ref t) _ s3.e (.tup upd_same (.cons iv3 (.cons iu3 .nil))) fun σ2 E2 => ?_
    refine hb _ H0 _ _ σ2 _ ⟨s3.x.at, E2⟩ ?_
    have l' := l.re s3.x
    have nx : ∀ ρ2 σ2 F4 H4, I (i + 1) ρ2 → S2 X.K (upd F' t (.tup [v', u'])) H0 F4 H4 σ2 ρ2 → ∃ F5 ρ5, I (i + 1) ρ5 ∧ Ex F2 F5 ∧ S2 X.K F0 H0 F5 H4 σ2 ρ5 := fun ρ2 σ2 F4 H4 q s2 => ⟨F4, ρ2, q, (hx.trans x3.f).trans s2.x.f, s2.on s3.x⟩
    exact ⟨nx, l'.rt, l'.rl, l'.nx, nx, l'.ex, l'.ro⟩
  · have ei : i = min xs.length ys.length := by omega
    refine .inl ⟨⟨vs, ws, qa, qb, ?_⟩, l.nx ρ' σ' F' H' (hd ρ' (ei ▸ hI)) s'⟩
    rw [i1.len, i2.len]
    omega
end
end PD

set_option maxHeartbeats 4000000
/-! the numbers, names and lines that the laws draw, as plain functions -/
namespace LW
open PySem L2 PD
variable [PD.TabC]
def cell (ns : List Int) (k : Nat) : Int := ns.getD k 0
def mixed (c k : Int) : Int := (c + 7919 * k) * 48271 % 2147483647
theorem mixed_nn (c k : Int) : 0 ≤ mixed c k := Int.emod_nonneg _ (by decide)
theorem mixed_lt (c k : Int) : mixed c k < 2147483647 := Int.emod_lt_of_pos _ (by decide)
def sgn : Str := "abcdefghijklmnopqrstuvwxyz0123456789"
abbrev cs (z : Str) : List Nat := z.cps.toList
def chS (c : Nat) : Str := ⟨#[c]⟩
def sgnC (i : Int) : Nat := (cs sgn).getD i.toNat 0
def numS (n : Int) : Str := Str.ofString (toString n)
theorem cs_ext {x y : Str} (h : cs x = cs y) : x = y := TL.ext_tl h
theorem cs_app (x y : Str) : cs (x ++ y) = cs x ++ cs y := TL.tl_append x y
theorem cs_ch (c : Nat) : cs (chS c) = [c] := rfl
theorem len_cs (x : Str) : x.length = (cs x).length := TL.len_tl x
theorem len_app (x y : Str) : (x ++ y).length = x.length + y.length := by rw [len_cs, cs_app, List.length_append, ← len_cs, ← len_cs]
/-- singles joined -/
theorem cs_join {α : Type} (xs : List α) (g : α → Nat) : cs (Str.join "" (xs.map fun x => chS (g x))) = xs.map g := by
  show TL.tl _ = _
  rw [TL.tl_join]
  show TL.joinL [] _ = _
  have go : ∀ l : List (List Nat), TL.joinL [] l = l.flatten := by
    intro l
    induction l with
    | nil => rfl
    | cons p r ih =>
      cases r with
      | nil => simp [TL.joinL]
      | cons q r => rw [TL.joinL, ih]; simp
  rw [go, List.map_map]
  induction xs with
  | nil => rfl
  | cons x r ih =>
    rw [List.map_cons, List.flatten_cons, ih]; rfl
theorem cs_take (z : Str) (k : Nat) : cs (cutS z none (some (k : Int))) = (cs z).take k := by
  unfold cutS cs
  rw [HT.sIx_none, HT.sIx_nat, List.drop_zero, Nat.sub_zero]
  show List.take (min k z.length) z.cps.toList = _
  rw [TL.len_tl]
  rcases Nat.le_total k (TL.tl z).length with h | h
  · rw [Nat.min_eq_left h]
  · rw [Nat.min_eq_right h, List.take_of_length_le (Nat.le_refl _), List.take_of_length_le h]
theorem cs_drop (z : Str) (k : Nat) : cs (cutS z (some (k : Int)) none) = (cs z).drop k := by
  unfold cutS cs
  rw [HT.sIx_none, HT.sIx_nat]
  show List.take (z.length - min k z.length) (List.drop (min k z.length) z.cps.toList) = _
  rw [TL.len_tl]
  rcases Nat.le_total k (TL.tl z).length with h | h
  · rw [Nat.min_eq_left h, List.take_of_length_le (by rw [List.length_drop]; exact Nat.le_refl _)]
  · rw [Nat.min_eq_right h, Nat.sub_self, List.take_zero, List.drop_eq_nil_of_le h]
/-! names -/
def NameOk (z : Str) : Prop := 1 ≤ z.length ∧ z.length ≤ 12 ∧ ∀ c ∈ cs z, c ∈ cs sgn
instance (z : Str) : Decidable (NameOk z) := by unfold NameOk; exact inferInstance
theorem sgn_len : (cs sgn).length = 36 := by decide +kernel
theorem sgnC_mem {i : Int} (h0 : 0 ≤ i) (h : i < 36) : sgnC i ∈ cs sgn := by
  have hi : i.toNat < (cs sgn).length := by rw [sgn_len]; omega
  unfold sgnC
  rw [List.getD_eq_getElem?_getD, List.getElem?_eq_getElem hi]
  exact List.getElem_mem hi
theorem sgn_at {i : Int} (h0 : 0 ≤ i) (h : i < 36) : atI (cs sgn) i = some (sgnC i) := by
  have hi : i.toNat < (cs sgn).length := by rw [sgn_len]; omega
  have e : ((i.toNat : Nat) : Int) = i := by omega
  have h2 : (cs sgn)[i.toNat]? = some (sgnC i) := by
    unfold sgnC
    rw [List.getD_eq_getElem?_getD, List.getElem?_eq_getElem hi]; rfl
  have h3 := atI_nat h2
  rw [e] at h3
  exact h3
theorem numOk {n : Nat} (h : n ≤ 1000) : NameOk (numS (n : Int)) := by
  have a : ((List.range 1001).all fun n => decide (NameOk (numS (n : Int)))) = true := by decide +kernel
  exact of_decide_eq_true (List.all_eq_true.mp a n (List.mem_range.mpr (by omega)))
theorem numInj {n m : Nat} (hn : n < 80) (hm : m < 80) (h : numS (n : Int) = numS (m : Int)) : n = m := by
  have a : ((List.range 80).all fun n => (List.range 80).all fun m => decide (numS (n : Int) = numS (m : Int) → n = m)) = true := by decide +kernel
  exact of_decide_eq_true (List.all_eq_true.mp (List.all_eq_true.mp a n (List.mem_range.mpr hn)) m (List.mem_range.mpr hm)) h
def nm0 (c : Int) : Str := Str.join "" ((List.range (1 + mixed c 5 % 12).toNat).map fun (j : Nat) => chS (sgnC (mixed c j % 36)))
def nm1 (c : Int) : Str := if decide (c % 8 = 1) = true then numS (mixed c 5 % 130) else nm0 c
def nm2 (c : Int) (taken : List Str) : Str := if (decide (c % 8 = 2) && !taken.isEmpty) = true then cutS (taken.getLastD "") none (some 11) ++ chS (sgnC (mixed c 5 % 36)) else nm1 c
def nmT (c : Int) (taken : List Str) : Str := taken.getD (mixed c 5 % (taken.length : Int)).toNat ""
def nmA (c : Int) (taken : List Str) : Int := mixed c 5 / 60 % ((nmT c taken).length : Int)
def nm3 (c : Int) (taken : List Str) : Str := if (decide (4 < c % 8) && !taken.isEmpty) = true then cutS (nmT c taken) none (some (nmA c taken)) ++ chS (sgnC (mixed c 5 / 720 % 36)) ++ cutS (nmT c taken) (some (nmA c taken + 1)) none else nm2 c taken
def frees (taken : List Str) : List Str := ((List.range (taken.length + 1)).map fun (j : Nat) => numS (j : Int)).filter fun z => !decide (z ∈ taken)
def nameOf (c : Int) (taken : List Str) : Str := if (!decide (nm3 c taken ∈ taken)) = true then nm3 c taken else (frees taken).headD ""
theorem nm0_ok (c : Int) : NameOk (nm0 c) := by
  have h0 := Int.emod_nonneg (mixed c 5) (show (12 : Int) ≠ 0 by decide)
  have h1 := Int.emod_lt_of_pos (mixed c 5) (show (0 : Int) < 12 by decide)
  have e : cs (nm0 c) = (List.range (1 + mixed c 5 % 12).toNat).map fun (j : Nat) => sgnC (mixed c j % 36) := cs_join _ _
  refine ⟨?_, ?_, fun x hx => ?_⟩
  · rw [len_cs, e, List.length_map, List.length_range]; omega
  · rw [len_cs, e, List.length_map, List.length_range]; omega
  · rw [e] at hx
    obtain ⟨j, _, rfl⟩ := List.mem_map.mp hx
    exact sgnC_mem (Int.emod_nonneg _ (by decide)) (Int.emod_lt_of_pos _ (by decide))
theorem nm1_ok (c : Int) : NameOk (nm1 c) := by
  unfold nm1
  split
  · have h0 := Int.emod_nonneg (mixed c 5) (show (130 : Int) ≠ 0 by decide)
    have h1 := Int.emod_lt_of_pos (mixed c 5) (show (0 : Int) < 130 by decide)
    have e : mixed c 5 % 130 = ((mixed c 5 % 130).toNat : Int) := by omega
    rw [e]
    exact numOk (by omega)
  · exact nm0_ok c
theorem getLastD_mem {taken : List Str} (h : taken.isEmpty = false) : taken.getLastD "" ∈ taken := by
  cases taken with
  | nil => cases h
  | cons a r => rw [List.getLastD_eq_getLast?, List.getLast?_eq_getLast (List.cons_ne_nil a r)]; exact List.getLast_mem _
theorem nm2_ok (c : Int) {taken : List Str} (ht : ∀ z ∈ taken, NameOk z) : NameOk (nm2 c taken) := by
  unfold nm2
  split
  · rename_i h
    rw [Bool.and_eq_true] at h
    obtain ⟨l1, l2, l3⟩ := ht _ (getLastD_mem (by simpa using h.2))
    have e : cs (cutS (taken.getLastD "") none (some 11) ++ chS (sgnC (mixed c 5 % 36))) = (cs (taken.getLastD "")).take 11 ++ [sgnC (mixed c 5 % 36)] := by rw [cs_app, cs_ch]; exact congrArg (· ++ _) (cs_take _ 11)
    refine ⟨?_, ?_, fun x hx => ?_⟩
    · rw [len_cs, e, List.length_append, List.length_singleton]; omega
    · rw [len_cs, e, List.length_append, List.length_singleton, List.length_take]; omega
    · rw [e] at hx
      rcases List.mem_append.mp hx with hx | hx
      · exact l3 x (List.mem_of_mem_take hx)
      · rw [List.mem_singleton.mp hx]
        exact sgnC_mem (Int.emod_nonneg _ (by decide)) (Int.emod_lt_of_pos _ (by decide))
  · exact nm1_ok c
theorem nmT_mem (c : Int) {taken : List Str} (h : taken.isEmpty = false) : nmT c taken ∈ taken ∧ taken[(mixed c 5 % (taken.length : Int)).toNat]? = some (nmT c taken) := by
  have hl : 0 < taken.length := by cases taken with | nil => cases h | cons => simp
  have h0 := Int.emod_nonneg (mixed c 5) (show (taken.length : Int) ≠ 0 by omega)
  have h1 := Int.emod_lt_of_pos (mixed c 5) (show (0 : Int) < (taken.length : Int) by omega)
  have hi : (mixed c 5 % (taken.length : Int)).toNat < taken.length := by omega
  unfold nmT
  rw [List.getD_eq_getElem?_getD, List.getElem?_eq_getElem hi]
  exact ⟨List.getElem_mem hi, rfl⟩
theorem nmA_bd (c : Int) {taken : List Str} (h : taken.isEmpty = false) (ht : ∀ z ∈ taken, NameOk z) : 0 ≤ nmA c taken ∧ nmA c taken < (nmT c taken).length := by
  have h1 := (ht _ (nmT_mem c h).1).1
  exact ⟨Int.emod_nonneg _ (by omega), Int.emod_lt_of_pos _ (by omega)⟩
theorem nm3_ok (c : Int) {taken : List Str} (ht : ∀ z ∈ taken, NameOk z) : NameOk (nm3 c taken) := by
  unfold nm3
  split
  · rename_i h
    rw [Bool.and_eq_true] at h
    have he : taken.isEmpty = false := by simpa using h.2
    obtain ⟨l1, l2, l3⟩ := ht _ (nmT_mem c he).1
    obtain ⟨a0, a1⟩ := nmA_bd c he ht
    have ea : nmA c taken = ((nmA c taken).toNat : Int) := by omega
    have eb : nmA c taken + 1 = (((nmA c taken).toNat + 1 : Nat) : Int) := by omega
    have e : cs (cutS (nmT c taken) none (some (nmA c taken)) ++ chS (sgnC (mixed c 5 / 720 % 36)) ++ cutS (nmT c taken) (some (nmA c taken + 1)) none) = ((cs (nmT c taken)).take (nmA c taken).toNat ++ [sgnC (mixed c 5 / 720 % 36)]) ++ (cs (nmT c taken)).drop ((nmA c taken).toNat + 1) := by
      rw [cs_app, cs_app, cs_ch, eb, cs_drop]
      have : cs (cutS (nmT c taken) none (some (nmA c taken))) = (cs (nmT c taken)).take (nmA c taken).toNat := by
        have := cs_take (nmT c taken) (nmA c taken).toNat
        rw [← ea] at this; exact this
      rw [this]
    have lz := len_cs (nmT c taken)
    refine ⟨?_, ?_, fun x hx => ?_⟩
    · rw [len_cs, e, List.length_append, List.length_append, List.length_singleton]; omega
    · rw [len_cs, e, List.length_append, List.length_append, List.length_singleton, List.length_take, List.length_drop]; omega
    · rw [e] at hx
      rcases List.mem_append.mp hx with hx | hx
      · rcases List.mem_append.mp hx with hx | hx
        · exact l3 x (List.mem_of_mem_take hx)
        · rw [List.mem_singleton.mp hx]
          exact sgnC_mem (Int.emod_nonneg _ (by decide)) (Int.emod_lt_of_pos _ (by decide))
      · exact l3 x (List.mem_of_mem_drop hx)
  · exact nm2_ok c ht
theorem nodup_le {α : Type} [DecidableEq α] : ∀ {l m : List α}, l.Nodup → (∀ x ∈ l, x ∈ m) → l.length ≤ m.length
  | [], m, _, _ => Nat.zero_le _
  | x :: r, m, hn, hs => by
    rw [List.nodup_cons] at hn
    have hx : x ∈ m := hs x List.mem_cons_self
    have ih := nodup_le (l := r) (m := m.erase x) hn.2 fun y hy => (List.mem_erase_of_ne (fun e => hn.1 (by rw [← e]; exact hy))).mpr (hs y (List.mem_cons_of_mem _ hy))
    rw [List.length_erase_of_mem hx] at ih
    have : 0 < m.length := List.length_pos_of_mem hx
    rw [List.length_cons]; omega
theorem frees_ne {taken : List Str} (h : taken.length ≤ 70) : frees taken ≠ [] := by
  intro e
  have hall : ∀ z ∈ (List.range (taken.length + 1)).map (fun (j : Nat) => numS (j : Int)), z ∈ taken := fun z hz => by
    unfold frees at e
    have := List.filter_eq_nil_iff.mp e z hz
    simpa using this
  have hn : ((List.range (taken.length + 1)).map (fun (j : Nat) => numS (j : Int))).Nodup := by
    refine List.pairwise_map.mpr (List.Pairwise.imp_of_mem (R := (· ≠ ·)) (fun {a b} ha hb hne q => hne (numInj ?_ ?_ q)) List.nodup_range)
    · have := List.mem_range.mp ha; omega
    · have := List.mem_range.mp hb; omega
  have := nodup_le hn hall
  rw [List.length_map, List.length_range] at this
  omega
theorem frees_head {taken : List Str} (h : taken.length ≤ 70) : (frees taken).headD "" ∈ frees taken := by
  cases e : frees taken with
  | nil => exact absurd e (frees_ne h)
  | cons a r => exact List.mem_cons_self
theorem nameOf_new (c : Int) {taken : List Str} (h : taken.length ≤ 70) : nameOf c taken ∉ taken := by
  unfold nameOf
  split
  · rename_i h1; simpa using h1
  · have := List.mem_filter.mp (frees_head h)
    simpa using this.2
theorem nameOf_ok (c : Int) {taken : List Str} (h : taken.length ≤ 70) (ht : ∀ z ∈ taken, NameOk z) : NameOk (nameOf c taken) := by
  unfold nameOf
  split
  · exact nm3_ok c ht
  · have := (List.mem_filter.mp (frees_head h)).1
    obtain ⟨j, hj, e⟩ := List.mem_map.mp this
    rw [← e]
    exact numOk (by have := List.mem_range.mp hj; omega)
end LW

set_option maxHeartbeats 4000000
/-! lines, and strings in order -/
namespace LW
open PySem L2 PD PyProof.Rows
variable [PD.TabC]
/-! lines -/
def some1 : Str := " !\"#$&'()*+,-./0123456789:;<=>?@ABCDEFGHIJKLMNOPQRSTUVWXYZ[\\]^_`"
def some2 : Str := "abcdefghijklmnopqrstuvwxyz{|}~"
abbrev somes : Str := some1 ++ some2
def someC (i : Int) : Nat := (cs some1 ++ cs some2).getD i.toNat 0
def lsize (c : Int) : Int := if decide (c / 4 % 9 = 1) = true then c / 36 % 201 else c % 4
def ln0 (c : Int) : Str := Str.join "" ((List.range (lsize c).toNat).map fun (j : Nat) => chS (someC ((c / 7 + (j : Int) * (1 + c % 5)) % 94)))
def lineOf (c : Int) : Str := if (decide (c / 3 % 8 = 1) && decide (lsize c < 199)) = true then cutS (ln0 c) none (some 1) ++ ": " ++ cutS (ln0 c) (some 1) none else ln0 c
def LineOk (z : Str) : Prop := z.length ≤ 200 ∧ ∀ c ∈ cs z, 32 ≤ c ∧ c ≤ 126
theorem cs_somes : cs somes = cs some1 ++ cs some2 := cs_app _ _
theorem somes_len : (cs some1 ++ cs some2).length = 94 := by decide +kernel
theorem len_somes : somes.length = 94 := by rw [len_cs, cs_somes, somes_len]
theorem len_some1 : some1.length = 64 := by decide +kernel
theorem len_some2 : some2.length = 30 := by decide +kernel
theorem somes_ok : ∀ c ∈ cs some1 ++ cs some2, 32 ≤ c ∧ c ≤ 126 := by
  have a : ((cs some1 ++ cs some2).all fun c => decide (32 ≤ c ∧ c ≤ 126)) = true := by decide +kernel
  exact fun c hc => of_decide_eq_true (List.all_eq_true.mp a c hc)
theorem some_at {i : Int} (h0 : 0 ≤ i) (h : i < 94) : atI (cs somes) i = some (someC i) := by
  have hi : i.toNat < (cs some1 ++ cs some2).length := by rw [somes_len]; omega
  have e : ((i.toNat : Nat) : Int) = i := by omega
  have h2 : (cs some1 ++ cs some2)[i.toNat]? = some (someC i) := by
    unfold someC
    rw [List.getD_eq_getElem?_getD, List.getElem?_eq_getElem hi]; rfl
  have h3 := atI_nat h2
  rw [e] at h3
  rw [cs_somes]
  exact h3
theorem someC_mem {i : Int} (h0 : 0 ≤ i) (h : i < 94) : 32 ≤ someC i ∧ someC i ≤ 126 := by
  have hi : i.toNat < (cs some1 ++ cs some2).length := by rw [somes_len]; omega
  refine somes_ok _ ?_
  unfold someC
  rw [List.getD_eq_getElem?_getD, List.getElem?_eq_getElem hi]
  exact List.getElem_mem hi
theorem lsize_bd (c : Int) : 0 ≤ lsize c ∧ lsize c ≤ 200 := by
  unfold lsize
  split
  · exact ⟨Int.emod_nonneg _ (by decide), Int.le_of_lt_add_one (Int.emod_lt_of_pos _ (by decide))⟩
  · have := Int.emod_lt_of_pos c (show (0 : Int) < 4 by decide)
    exact ⟨Int.emod_nonneg _ (by decide), by omega⟩
theorem cs_ln0 (c : Int) : cs (ln0 c) = (List.range (lsize c).toNat).map fun (j : Nat) => someC ((c / 7 + (j : Int) * (1 + c % 5)) % 94) := cs_join _ _
theorem ln0_len (c : Int) : ((ln0 c).length : Int) = lsize c := by
  have := lsize_bd c
  rw [len_cs, cs_ln0, List.length_map, List.length_range]; omega
theorem ln0_ok (c : Int) : LineOk (ln0 c) := by
  have h1 := lsize_bd c
  have h2 := ln0_len c
  refine ⟨by omega, fun x hx => ?_⟩
  rw [cs_ln0] at hx
  obtain ⟨j, _, rfl⟩ := List.mem_map.mp hx
  exact someC_mem (Int.emod_nonneg _ (by decide)) (Int.emod_lt_of_pos _ (by decide))
theorem cs_take1 (z : Str) : cs (cutS z none (some 1)) = (cs z).take 1 := cs_take z 1
theorem cs_drop1 (z : Str) : cs (cutS z (some 1) none) = (cs z).drop 1 := cs_drop z 1
theorem line_ok (c : Int) : LineOk (lineOf c) := by
  unfold lineOf
  split
  · rename_i h
    rw [Bool.and_eq_true] at h
    have h2 : lsize c < 199 := by simpa using h.2
    have h3 := ln0_len c
    have h4 := len_cs (ln0 c)
    have e : cs (cutS (ln0 c) none (some 1) ++ ": " ++ cutS (ln0 c) (some 1) none) = (cs (ln0 c)).take 1 ++ cs ": " ++ (cs (ln0 c)).drop 1 := by rw [cs_app, cs_app, cs_take1, cs_drop1]
    have h5 : (cs ": ").length = 2 := by decide +kernel
    have h6 : ∀ x ∈ cs ": ", 32 ≤ x ∧ x ≤ 126 := by decide +kernel
    refine ⟨?_, fun x hx => ?_⟩
    · rw [len_cs, e, List.length_append, List.length_append, List.length_take, List.length_drop, h5]; omega
    · rw [e] at hx
      rcases List.mem_append.mp hx with hx | hx
      · rcases List.mem_append.mp hx with hx | hx
        · exact (ln0_ok c).2 x (List.mem_of_mem_take hx)
        · exact h6 x hx
      · exact (ln0_ok c).2 x (List.mem_of_mem_drop hx)
  · exact ln0_ok c
theorem name_tx {z : Str} (h : NameOk z) : Tx0 z := by
  obtain ⟨h1, h2, h3⟩ := h
  refine ⟨by omega, fun c hc => ?_⟩
  have a : ((cs sgn).all fun c => decide (c < 256)) = true := by decide +kernel
  exact of_decide_eq_true (List.all_eq_true.mp a c (h3 c hc))
theorem line_tx {z : Str} (h : LineOk z) : Tx0 z := ⟨Nat.le_trans h.1 (by decide), fun c hc => by have := h.2 c hc; omega⟩
/-! strings in order -/
theorem lt_irr (a : List Nat) : ¬ a < a := List.lt_irrefl a
theorem le_tr {a b c : List Nat} (h : ¬ b < a) (k : ¬ c < b) : ¬ c < a := List.le_trans (l₁ := a) (l₂ := b) (l₃ := c) h k
theorem le_as {a b : List Nat} (h : ¬ b < a) (k : ¬ a < b) : a = b := List.le_antisymm (as := a) (bs := b) h k
theorem le_tot (a b : List Nat) : ¬ b < a ∨ ¬ a < b := List.le_total a b
theorem lt_as {a b : List Nat} (h : a < b) : ¬ b < a := List.lt_asymm h
abbrev leS (a b : Str) : Bool := !decide (cs b < cs a)
def sortS (zs : List Str) : List Str := zs.mergeSort leS
theorem sortS_perm (zs : List Str) : (sortS zs).Perm zs := List.mergeSort_perm zs _
theorem sortS_pw (zs : List Str) : (sortS zs).Pairwise fun a b => ¬ cs b < cs a := by
  have h := List.pairwise_mergeSort (le := leS) (fun a b c h k => by
    have h1 : ¬ cs b < cs a := by simpa [leS] using h
    have h2 : ¬ cs c < cs b := by simpa [leS] using k
    have := le_tr h1 h2
    simp [leS, this]) (fun a b => by
    rcases le_tot (cs a) (cs b) with h | h
    · simp [leS, h]
    · simp [leS, h]) zs
  exact h.imp fun {a b} q => by simpa [leS] using q
theorem risingS_pw : ∀ {l : List Str} {x : Str}, risingS x l = true → (x :: l).Pairwise fun a b => ¬ cs b < cs a
  | [], x, _ => List.pairwise_singleton _ _
  | a :: r, x, h => by
    have h0 : (!Spec.ltCps (cs a) (cs x) && risingS a r) = true := h
    rw [Bool.and_eq_true, ltCps_eq] at h0
    have h1 : ¬ cs a < cs x := by simpa using h0.1
    have ih := risingS_pw h0.2
    refine List.pairwise_cons.mpr ⟨fun y hy => ?_, ih⟩
    rcases List.mem_cons.mp hy with rfl | hy
    · exact h1
    · exact le_tr h1 (List.rel_of_pairwise_cons ih hy)
theorem sorted_pw {l : List Str} (h : sortedS l = true) : l.Pairwise fun a b => ¬ cs b < cs a := by
  cases l with
  | nil => exact List.Pairwise.nil
  | cons x r => exact risingS_pw h
theorem sortS_uniq {ys zs : List Str} (p : ys.Perm zs) (h : sortedS ys = true) : ys = sortS zs :=
  List.Perm.eq_of_pairwise (fun a b _ _ h k => cs_ext (le_as h k)) (sorted_pw h) (sortS_pw zs) (p.trans (sortS_perm zs).symm)
theorem sortS_mem {zs : List Str} {x : Str} : x ∈ sortS zs ↔ x ∈ zs := (sortS_perm zs).mem_iff
theorem sortS_len (zs : List Str) : (sortS zs).length = zs.length := (sortS_perm zs).length_eq
/-- without one twice it rises -/
theorem sortS_rise {zs : List Str} (h : zs.Nodup) : (sortS zs).Pairwise fun a b => cs a < cs b := by
  have h1 := sortS_pw zs
  have h2 : (sortS zs).Nodup := (sortS_perm zs).nodup_iff.mpr h
  refine (h1.and h2).imp fun {a b} q => ?_
  exact Decidable.byContradiction fun k => q.2 (cs_ext (le_as q.1 k))
end LW

set_option maxHeartbeats 4000000
namespace PD
open PySem L2
variable [PD.TabC]
/-! a text times a number -/
def repS (z : Str) (n : Nat) : Str := ⟨(List.replicate n z.cps).foldl (· ++ ·) #[]⟩
theorem repS_go (a : Array Nat) : ∀ (n : Nat) (acc : Array Nat), ((List.replicate n a).foldl (· ++ ·) acc).toList = acc.toList ++ (List.replicate n a.toList).flatten
  | 0, acc => by simp
  | n + 1, acc => by rw [List.replicate_succ, List.foldl_cons, repS_go a n, List.replicate_succ, List.flatten_cons, Array.toList_append, List.append_assoc]
theorem repS_cs (z : Str) (n : Nat) : (repS z n).cps.toList = (List.replicate n z.cps.toList).flatten := (repS_go _ n #[]).trans (by simp)
variable {X : Cx} {W : WX} {ex : Addr → Prop} {ρ : List Sl} {a b : Expr} {pos : Pos}
theorem op_repS : OpR X (binaryOp .Mult) (fun x y H Q => ∃ z k, x = .str z ∧ y = .int k ∧ 2 ≤ k ∧ k ≤ 1000 ∧ 1 ≤ z.length ∧ z.length ≤ 100 ∧ Q (.str (repS z k.toNat)) H) := by
  intro pins s σ H x y v u Q I rx ry h
  obtain ⟨z, k, rfl, rfl, h1, h2, h3, h4, q⟩ := h
  obtain ⟨t, rfl⟩ := rx
  obtain ⟨t', rfl⟩ := ry
  have hl : z.length * k.toNat ≤ 100 * 1000 := Nat.mul_le_mul h4 (by omega)
  have hb : ¬ ((z.length : Int) > (2 ^ 63 - 1) / k) := by
    intro hq
    have h5 : (2 ^ 63 - 1 : Int) / 1000 ≤ (2 ^ 63 - 1) / k := by
      refine Int.le_ediv_of_mul_le (by omega) ?_
      have : (2 ^ 63 - 1 : Int) / 1000 * k ≤ (2 ^ 63 - 1) / 1000 * 1000 := Int.mul_le_mul_of_nonneg_left h2 (by decide)
      omega
    have h6 : (100 : Int) < (2 ^ 63 - 1) / 1000 := by decide
    omega
  have hs : (k == 1 || z.length == 0) = false := by
    have e1 : (k == 1) = false := by simp; omega
    have e2 : (z.length == 0) = false := by simp; omega
    rw [e1, e2]; rfl
  have hsl : ¬ z.length * k.toNat > sizeLine := fun hq => by
    have h7 : 100 * 1000 ≤ sizeLine := by decide
    omega
  refine P.mul_str (by
    have e1 : decide (k < -2 ^ 63) = false := decide_eq_false (by omega)
    have e2 : decide (k ≥ 2 ^ 63) = false := decide_eq_false (by omega)
    rw [e1, e2]; rfl) (fun _ _ => hb) (fun _ _ => decide_eq_false hsl) ?_
  rw [if_neg (by omega), hs, if_neg Bool.false_ne_true]
  refine ⟨?_, ⟨.str (repS z k.toNat), H, I.tok _, ⟨_, rfl⟩, q⟩⟩
  show (repS z k.toNat).length ≤ sizeLine
  have e : (repS z k.toNat).length = z.length * k.toNat := by
    show (repS z k.toNat).cps.size = z.cps.size * k.toNat
    rw [← Array.length_toList, repS_cs, List.length_flatten, List.map_replicate, List.sum_replicate_nat, Array.length_toList, Nat.mul_comm]
  rw [e]
  exact Nat.le_of_not_lt hsl
theorem ed_repS {z : Str} {k : Int} (ha : ED X W ex a ρ (.str z)) (hb : ED X W ex b ρ (.int k)) (h : 2 ≤ k ∧ k ≤ 1000 ∧ 1 ≤ z.length ∧ z.length ≤ 100) : ED X W ex (.BinOp a .Mult b pos) ρ (.str (repS z k.toNat)) :=
  ed_op op_repS ha hb fun v u F H Q i0 hv hu q => ⟨z, k, hv.str_eq, hu.int_eq, h.1, h.2.1, h.2.2.1, h.2.2.2, q _ F H (Ext.refl i0) (.str _)⟩
end PD

set_option maxHeartbeats 4000000
namespace PD
open PySem L2
variable [PD.TabC]
section
variable {X : Cx} {W : WX} {ρ : List Sl} {ds : List PyData} {T : De} {body : List Stmt} {e : Expr} {pos p p0 p2 tpos : Pos} {elts : List Expr} {kk : Nat}
/-- for x in a list of one's own that the body leaves as it is -/
theorem sd_forO {j i0 : Nat} {n m : Str} {l : Addr} (I : Nat → List Sl → Prop) (hp : PassesOwn (model X.prog X.w) X.A X.env X.xe) (hc : X.calm = true) (nd : X.N.Nodup) (hN : X.N[j]? = some n) (hl : Loc X.env.scope n) (hfn : X.fn n = true ∨ X.env.scope.names.lookup n = some .local)
    (hN0 : X.N[i0]? = some m) (hv : Vis X.env.scope m) (h0 : ρ[i0]? = some (.ow l ds)) (hI0 : I 0 ρ) (hO : ∀ i ρ', I i ρ' → ρ'[i0]? = some (.ow l ds))
    (hs : ∀ i d ρ', ds[i]? = some d → I i ρ' → SDs X W body (ρ'.set j (.sh d)) { T with nx := I (i + 1), ct := I (i + 1), bk := T.nx }) (hd : ∀ ρ', I ds.length ρ' → T.nx ρ')
    (hdb : (m == ("__debug__" : Str)) = false := by decide) (hcd : (m == ("__classdict__" : Str)) = false := by decide)
    (hf : ∀ x, foldedSetIterable (.Name m p0) X.env x = pure x := by intro _; rfl) : SD X W (.For (.Name n p) (.Name m p0) body [] pos) ρ T := fun F0 H0 F H σ D s lk => by
  have at_ : ∀ {F' H' : Hp} {σ' : L2.St} {ρ' : List Sl}, S2 X.K F0 H0 F' H' σ' ρ' → ρ'[i0]? = some (.ow l ds) → σ'[i0]? = some (some (.ref l)) ∧ ∃ vs, H' l = some (.lst vs) ∧ IsAll X.K F' vs ds := fun s' q => by
    obtain ⟨o, e1, ok⟩ := s'.e.s i0 _ q
    cases o with
    | none => exact ok.elim
    | some v =>
      obtain ⟨rfl, _, _, h⟩ := ok
      exact ⟨e1, h⟩
  refine w_s (ps_for hp hc (pi_list (pe_var hN0 hv hdb hcd)) (pg_name nd hN hl hfn) pss_w hf) ?_
  obtain ⟨e1, vs, hl0, ia⟩ := at_ s h0
  refine ⟨_, e1, l, rfl, ⟨vs, SqL.of hl0⟩, fun i k σ' H' => k = ds.length - i ∧ i ≤ ds.length ∧ ∃ F' ρ', I i ρ' ∧ S2 X.K F0 H0 F' H' σ' ρ', ⟨_, rfl, Nat.zero_le _, F, ρ, hI0, s⟩, ?_⟩
  rintro i k σ' H' ⟨rfl, him, F', ρ', hI, s'⟩
  obtain ⟨e1', vs', hl', ia'⟩ := at_ s' (hO i ρ' hI)
  by_cases hi : i < ds.length
  · obtain ⟨v, hv', iv⟩ := ia'.get (List.getElem?_eq_getElem hi)
    refine .inr ⟨⟨vs', v, SqL.of hl', hv'⟩, fun σ2 H2 => ∃ F2 ρ2, I (i + 1) ρ2 ∧ S2 X.K F0 H0 F2 H2 σ2 ρ2, fun σ2 H2 ⟨F2, ρ2, a1, a2⟩ => ⟨ds.length - (i + 1), by omega, rfl, by omega, F2, ρ2, a1, a2⟩, ?_⟩
    rintro x H3 ⟨rfl, y⟩
    have ex : v = x := Option.some.inj (hv'.symm.trans (y vs' (SqL.of hl')))
    subst ex
    refine hs i _ ρ' (List.getElem?_eq_getElem hi) hI F' H0 F' H3 (σ'.set j (some v)) _ ⟨s'.x.at, s'.e.set (s := .sh _) iv rfl⟩ ?_
    have l' := lk.re s'.x
    have nx : ∀ ρ2 σ2 F2 H2, I (i + 1) ρ2 → S2 X.K F' H0 F2 H2 σ2 ρ2 → ∃ F3 ρ3, I (i + 1) ρ3 ∧ S2 X.K F0 H0 F3 H2 σ2 ρ3 := fun ρ2 σ2 F2 H2 q s2 => ⟨F2, ρ2, q, s2.on s'.x⟩
    exact ⟨nx, l'.rt, l'.rl, l'.nx, nx, l'.ex, l'.ro⟩
  · have ei : i = ds.length := by omega
    refine .inl ⟨⟨vs', SqL.of hl', by rw [ia'.len]; omega⟩, lk.nx ρ' σ' F' H' (hd ρ' (ei ▸ hI)) s'⟩
/-- for i, x in enumerate(a list that stands still) -/
theorem sd_enum {f : List Sl → PyData → List Sl → Prop} (I : Nat → List Sl → Prop) (hp : PassesOwn (model X.prog X.w) X.A X.env X.xe) (hc : X.calm = true) (g : GU X (.Tuple elts kk tpos) f) (hg : Gl X ("enumerate" : Str)) (hm : X.mg ("enumerate" : Str) = none)
    (h1 : EP' X W (fun C => T.ex C ρ) e ρ ds) (h0 : I 0 ρ)
    (hs : ∀ i d ρ1, ds[i]? = some d → I i ρ1 → ∃ ρ2, f ρ1 (.tuple [.int (i : Nat), d]) ρ2 ∧ SDs X W body ρ2 { T with nx := I (i + 1), ct := I (i + 1), bk := T.nx }) (hd : ∀ ρ', I ds.length ρ' → T.nx ρ')
    (s1 : starEach [e] X.env = [(false, eval e X.env)] := by rfl)
    (hf : ∀ x, foldedSetIterable (.Call (.Name "enumerate" p) [e] [] p2) X.env x = pure x := by intro _; rfl) : SD X W (.For (.Tuple elts kk tpos) (.Call (.Name "enumerate" p) [e] [] p2) body [] pos) ρ T := by
  obtain ⟨g1, p1, k1⟩ := g
  refine fun F0 H0 F H σ D s l => w_s (ps_for hp hc (pi_enum hg hm (pa_cons pe_w pa_nil s1) s1) p1 pss_w hf) (h1 H0 F H σ _ s.e (l.xc s) fun a vs F1 H1 x1 hr1 i1 => ?_)
  have s4 := s.go x1
  have ra : ∀ F' H', Ex F1 F' → Ex F' H' → Ex H0 H' → SqL X.K H' a vs := fun F' H' y z u => by
    rcases hr1 with hr | hr
    · exact u.sql hr
    · exact (y.trans z).sql hr
  refine ⟨a, vs, rfl, ra F1 H1 (Ex.refl _) s4.e.i s4.e.b, fun i m σ' H' => m = ds.length - i ∧ i ≤ ds.length ∧ ∃ F' ρ', I i ρ' ∧ Ex F1 F' ∧ S2 X.K F0 H0 F' H' σ' ρ', ⟨_, rfl, Nat.zero_le _, F1, ρ, h0, Ex.refl F1, s4⟩, ?_⟩
  rintro i m σ' H' ⟨rfl, him, F', ρ', hI, hx, s'⟩
  have qa := ra F' H' hx s'.e.i s'.e.b
  by_cases hi : i < ds.length
  · obtain ⟨v, hv, iv⟩ := i1.get (List.getElem?_eq_getElem hi)
    refine .inr ⟨⟨vs, v, qa, hv⟩, fun σ2 H2 => ∃ F2' ρ2, I (i + 1) ρ2 ∧ Ex F1 F2' ∧ S2 X.K F0 H0 F2' H2 σ2 ρ2, fun σ2 H2 ⟨F2', ρ2, a1, a2, a3⟩ => ⟨ds.length - (i + 1), by omega, rfl, by omega, F2', ρ2, a1, a2, a3⟩, ?_⟩
    rintro x H3 ⟨t, v', rfl, nt, rfl, fa⟩
    have ev : v' = v := Option.some.inj ((fa vs qa).symm.trans hv)
    subst ev
    have x3 : Ext F' H' (upd F' t (.tup [.int (i : Nat), v'])) (upd H' t (.tup [.int (i : Nat), v'])) := Ext.made s'.e.i nt
    have s3 := s'.go x3
    obtain ⟨ρ2, hf2, hb⟩ := hs i _ ρ' (List.getElem?_eq_getElem hi) hI
    have iv3 := iv.mono (hx.trans x3.f)
    refine k1 ρ' _ ρ2 hf2 H0 _ _ σ' (.ref t) _ s3.e (.tup upd_same (.cons (.int _) (.cons iv3 .nil))) fun σ2 E2 => ?_
    refine hb _ H0 _ _ σ2 _ ⟨s3.x.at, E2⟩ ?_
    have l' := l.re s3.x
    have nx : ∀ ρ2 σ2 F4 H4, I (i + 1) ρ2 → S2 X.K (upd F' t (.tup [.int (i : Nat), v'])) H0 F4 H4 σ2 ρ2 → ∃ F5 ρ5, I (i + 1) ρ5 ∧ Ex F1 F5 ∧ S2 X.K F0 H0 F5 H4 σ2 ρ5 := fun ρ2 σ2 F4 H4 q s2 => ⟨F4, ρ2, q, (hx.trans x3.f).trans s2.x.f, s2.on s3.x⟩
    exact ⟨nx, l'.rt, l'.rl, l'.nx, nx, l'.ex, l'.ro⟩
  · have ei : i = ds.length := by omega
    refine .inl ⟨⟨vs, qa, ?_⟩, l.nx ρ' σ' F' H' (hd ρ' (ei ▸ hI)) s'⟩
    rw [i1.len]
    omega
end
end PD

set_option maxHeartbeats 4000000
/-! the changes that the laws draw -/
namespace LW
open PySem L2 PD PyProof.Rows
variable [PD.TabC]
/-- names of the language that the laws' own parts call: the top binds none of them -/
structure Blt (mg : Str → Option Value) : Prop where
  len : mg "len" = none
  str : mg "str" = none
  min : mg "min" = none
  range : mg "range" = none
  sorted : mg "sorted" = none
  list : mg "list" = none
  enumerate : mg "enumerate" = none
/-! data -/
structure Deed where
  w : Str
  m : Option (Str × Int)
  l : Option Str
structure Change where
  n : Str
  ls : List Str
  ds : List Deed
def qMk : Str × Int → PyData := fun p => .tuple [.str p.1, .int p.2]
def qM : Option (Str × Int) → PyData
  | none => .none
  | some p => qMk p
def qD (d : Deed) : PyData := match d.l with
  | none => .tuple [.str d.w, qM d.m]
  | some l => .tuple [.str d.w, qM d.m, .str l]
def qC (c : Change) : PyData := .tuple [.str c.n, .list (c.ls.map .str), .list (c.ds.map qD)]
theorem qD_fst (d : Deed) : ∃ r, qD d = .tuple (.str d.w :: r) := by
  unfold qD
  cases d.l with
  | none => exact ⟨_, rfl⟩
  | some l => exact ⟨_, rfl⟩
/-! leans -/
def lnTake (c : Int) (len k : Nat) (left : Int) : Bool := (decide ((k : Int) = (len : Int) - 1) && decide (c % 7 = 3)) || (decide (left % (2 + c % 3) = 0) && (decide ((len : Int) < 20) || decide ((k : Int) % 7 = left / 4 % 7)))
def lnNext (c : Int) (k : Nat) (left : Int) : Int := if decide (left / 3 < 100) = true then mixed c ((k : Int) + 2) else left / 3
def lnLeft (c : Int) : Nat → Int
  | 0 => mixed c 1
  | k + 1 => lnNext c k (lnLeft c k)
def lnAt (c : Int) (ah : List Change) : Nat → List Str
  | 0 => []
  | k + 1 => if lnTake c ah.length k (lnLeft c k) = true then lnAt c ah k ++ [((ah[k]?).map Change.n).getD ("" : Str)] else lnAt c ah k
def leansOf (c : Int) (ah : List Change) : List Str := sortS (lnAt c ah ah.length)
theorem lnAt_len (c : Int) (ah : List Change) : ∀ k, (lnAt c ah k).length ≤ k
  | 0 => Nat.le_refl _
  | k + 1 => by
    have := lnAt_len c ah k
    rw [lnAt]
    split
    · rw [List.length_append, List.length_singleton]; omega
    · omega
/-! marks -/
def adds (ds : List Deed) : Nat := (ds.filter fun d => decide (d.w = ("add" : Str))).length
def marksOf (c : Change) : List (Str × Int) := (List.range (adds c.ds)).map fun (j : Nat) => (c.n, (j : Int))
/-! deeds -/
def knownOf (n : Str) (ms : List (Str × Int)) (own : Nat) : List (Str × Int) := ms ++ (List.range own).map fun (j : Nat) => (n, (j : Int))
def dAt (n : Str) (ms : List (Str × Int)) (own : Nat) (l : Int) : Int := l / 5 % (((knownOf n ms own).length : Int) + 1)
def isAdd (n : Str) (ms : List (Str × Int)) (own : Nat) (l : Int) : Bool := decide (l % 5 < 3) || !!(knownOf n ms own).isEmpty
def addMark (n : Str) (ms : List (Str × Int)) (own : Nat) (l : Int) : Option (Str × Int) := if decide (0 < dAt n ms own l) = true then (knownOf n ms own)[(dAt n ms own l).toNat - 1]? else none
def othMark (n : Str) (ms : List (Str × Int)) (own : Nat) (l : Int) : Option (Str × Int) := (knownOf n ms own)[(dAt n ms own l % ((knownOf n ms own).length : Int)).toNat]?
def deedOf (n : Str) (ms : List (Str × Int)) (own : Nat) (l : Int) : Deed :=
  if isAdd n ms own l = true then ⟨"add", addMark n ms own l, some (lineOf (l / 365))⟩
  else if decide (l % 5 = 3) = true then ⟨"cut", othMark n ms own l, none⟩
  else ⟨"set", othMark n ms own l, some (lineOf (l / 365))⟩
def deedsAt (n : Str) (c : Int) (ms : List (Str × Int)) : Nat → List Deed × Nat
  | 0 => ([], 0)
  | k + 1 => ((deedsAt n c ms k).1 ++ [deedOf n ms (deedsAt n c ms k).2 (mixed c (k : Int))], if isAdd n ms (deedsAt n c ms k).2 (mixed c (k : Int)) = true then (deedsAt n c ms k).2 + 1 else (deedsAt n c ms k).2)
def deedsOf (n : Str) (c : Int) (m : Nat) (ms : List (Str × Int)) : List Deed := (deedsAt n c ms m).1
theorem deedsAt_len (n : Str) (c : Int) (ms : List (Str × Int)) : ∀ k, (deedsAt n c ms k).1.length = k ∧ (deedsAt n c ms k).2 ≤ k
  | 0 => ⟨rfl, Nat.le_refl _⟩
  | k + 1 => by
    obtain ⟨h1, h2⟩ := deedsAt_len n c ms k
    refine ⟨by rw [deedsAt, List.length_append, h1]; rfl, ?_⟩
    show (if isAdd n ms (deedsAt n c ms k).2 (mixed c (k : Int)) = true then (deedsAt n c ms k).2 + 1 else (deedsAt n c ms k).2) ≤ k + 1
    split <;> omega
theorem knownOf_len (n : Str) (ms : List (Str × Int)) (own : Nat) : (knownOf n ms own).length = ms.length + own := by
  unfold knownOf
  rw [List.length_append, List.length_map, List.length_range]
/-! changes -/
def leanMarks (fs : List Change) (ls : List Str) : List (Str × Int) := (fs.filter fun f => decide (f.n ∈ ls)).flatMap marksOf
def manyOf (c : Int) : Int := if decide (c / 5 % 16 = 1) = true then 20 - c / 80 % 16 else c % 5
def chAt (cells : List Int) (fs : List Change) (tk : List Str) (k : Nat) : Change :=
  let n := nameOf (cell cells (4 * k)) tk
  let ls := leansOf (cell cells (4 * k + 1)) fs
  ⟨n, ls, deedsOf n (cell cells (4 * k + 2)) (manyOf (cell cells (4 * k + 3))).toNat (leanMarks fs ls)⟩
def chsAt (cells : List Int) : Nat → List Change × List Str
  | 0 => ([], ["0"])
  | k + 1 => ((chsAt cells k).1 ++ [chAt cells (chsAt cells k).1 (chsAt cells k).2 k], (chsAt cells k).2 ++ [(chAt cells (chsAt cells k).1 (chsAt cells k).2 k).n])
def chCount (cells : List Int) (most : Int) : Nat := (if most < (cells.length : Int) / 4 then most else (cells.length : Int) / 4).toNat
def changesOf (cells : List Int) (most : Int) : List Change := (chsAt cells (chCount cells most)).1
theorem manyOf_bd (c : Int) : 0 ≤ manyOf c ∧ manyOf c ≤ 20 := by
  unfold manyOf
  split
  · have := Int.emod_nonneg (c / 80) (show (16 : Int) ≠ 0 by decide)
    have := Int.emod_lt_of_pos (c / 80) (show (0 : Int) < 16 by decide)
    omega
  · have := Int.emod_nonneg c (show (5 : Int) ≠ 0 by decide)
    have := Int.emod_lt_of_pos c (show (0 : Int) < 5 by decide)
    omega
theorem chsAt_len (cells : List Int) : ∀ k, (chsAt cells k).1.length = k ∧ (chsAt cells k).2.length = k + 1 ∧ (chsAt cells k).2 = ("0" : Str) :: (chsAt cells k).1.map Change.n
  | 0 => ⟨rfl, rfl, rfl⟩
  | k + 1 => by
    obtain ⟨h1, h2, h3⟩ := chsAt_len cells k
    refine ⟨by rw [chsAt, List.length_append, h1]; rfl, by rw [chsAt, List.length_append, h2]; rfl, ?_⟩
    rw [chsAt]
    show (chsAt cells k).2 ++ [_] = ("0" : Str) :: ((chsAt cells k).1 ++ [_]).map Change.n
    rw [List.map_append, h3]
    rfl
def Taken (taken : List Str) : Prop := (∀ z ∈ taken, NameOk z) ∧ taken.length ≤ 70
theorem zero_ok : NameOk "0" := by decide +kernel
theorem chsAt_taken (cells : List Int) : ∀ k, k ≤ 60 → Taken (chsAt cells k).2 ∧ (chsAt cells k).2.Nodup
  | 0, _ => ⟨⟨fun z hz => by rw [List.mem_singleton.mp hz]; exact zero_ok, show 1 ≤ 70 by decide⟩, List.pairwise_singleton _ _⟩
  | k + 1, hk => by
    obtain ⟨⟨h1, h2⟩, h3⟩ := chsAt_taken cells k (by omega)
    refine ⟨⟨fun z hz => ?_, by rw [(chsAt_len cells (k + 1)).2.1]; omega⟩, ?_⟩
    · rcases List.mem_append.mp hz with hz | hz
      · exact h1 z hz
      · rw [List.mem_singleton.mp hz]; exact nameOf_ok _ h2 h1
    · refine List.nodup_append.mpr ⟨h3, List.pairwise_singleton _ _, fun a ha b hb e => ?_⟩
      rw [List.mem_singleton.mp hb] at e
      rw [e] at ha
      exact nameOf_new _ h2 ha
theorem adds_le (ds : List Deed) : adds ds ≤ ds.length := List.length_filter_le _ _
end LW

set_option maxHeartbeats 4000000
namespace LW
open PySem L2 PD PyProof.Rows
variable [PD.TabC]
theorem lg_ok {i : Int} (h0 : 0 ≤ i) (h : i ≤ 1000000) : i.natAbs.log2 < 1920 := by
  rcases Nat.eq_zero_or_pos i.natAbs with e | e
  · rw [e]; decide
  · rw [Nat.log2_lt (by omega)]
    exact Nat.lt_of_lt_of_le (show i.natAbs < 2 ^ 20 by omega) (Nat.pow_le_pow_right (by decide) (by decide))
theorem atI_int {α : Type} {xs : List α} {i : Int} {v : α} (h0 : 0 ≤ i) (h : xs[i.toNat]? = some v) : atI xs i = some v := by
  have e : ((i.toNat : Nat) : Int) = i := by omega
  have h3 := atI_nat h
  rw [e] at h3
  exact h3
theorem cs_take11 (z : Str) : cs (cutS z none (some 11)) = (cs z).take 11 := cs_take z 11
theorem atI_lastD {zs : List Str} (h : zs.isEmpty = false) : atI (zs.map PyData.str) (-1) = some (.str (zs.getLastD "")) := by
  cases zs with
  | nil => cases h
  | cons a r =>
    have e : a :: r = (a :: r).dropLast ++ [(a :: r).getLastD ""] := by
      rw [List.getLastD_eq_getLast?, List.getLast?_eq_getLast (List.cons_ne_nil a r)]
      exact (List.dropLast_concat_getLast (List.cons_ne_nil a r)).symm
    have e2 : (a :: r).map PyData.str = ((a :: r).dropLast).map PyData.str ++ [PyData.str ((a :: r).getLastD "")] := by
      conv => lhs; rw [e]
      rw [List.map_append]; rfl
    rw [e2]
    exact atI_last _ _
section
variable {X : Cx} {W : WX} {T : De} {c e : Expr} {n : Str} {p pos : Pos} {ρ : List Sl} {d : PyData}
theorem sd_ifsetD {i : Nat} {k : Bool} {d0 d1 : PyData} (nd : X.N.Nodup) (hN : X.N[i]? = some n) (hl : Loc X.env.scope n) (hfn : X.fn n = true ∨ X.env.scope.names.lookup n = some .local) {spos : Pos}
    (h : ET X W (fun C => T.ex C ρ) c ρ k) (h0 : ρ[i]? = some (.sh d0)) (h1 : k = true → ED X W (fun C => T.ex C ρ) e ρ d) (hz : (if k = true then d else d0) = d1) (q : T.nx (ρ.set i (.sh d1))) (hw : swapsWith e (some (.Name n p)) spos.line X.env = pure false := by rfl) : SD X W (.If c [.Assign [.Name n p] e spos] [] pos) ρ T :=
  sd_ifset nd hN hl hfn h h0 h1 (by rw [hz]; exact q) hw
end
theorem chs_sum {α : Type} (xs : List α) (g : α → Nat) : ((xs.map fun x => chS (g x)).map (·.length)).sum = xs.length := by
  rw [List.map_map]
  induction xs with
  | nil => rfl
  | cons x r ih => rw [List.map_cons, List.sum_cons, ih, List.length_cons]; show 1 + _ = _; omega
theorem len_sgn : LW.sgn.length = 36 := by rw [len_cs, sgn_len]
end LW

set_option maxHeartbeats 4000000
namespace N14
variable [PD.TabC]
open PySem L2 PD PyProof.Rows LW
def topS (i : Nat) : Stmt := PySem.Challenge.pw_patchweave_k14_steps_between_texts.main.body.getD i (.Pass ⟨0, 0, 0, 0⟩)
section
variable {P : Program} {w : World} {K : PySem.W.Frag} {mg : Str → Option Value} {base : Heap}
/-! ### _law_cell -/
abbrev sCell : Stmt := topS 3
abbrev nCell : List Str := ["_law_script", "_law_k"]
theorem scCell : FnScope nCell ["_law_script", "_law_k"] (defScope sCell) := ⟨rfl, rfl, rfl, by decide +kernel, rfl, by decide +kernel, by decide +kernel⟩
theorem ndCell : (nCell).Nodup := scCell.nd
theorem loCell : (["_law_script", "_law_k"] : List Str).all (locB (defScope sCell)) = true := by decide +kernel
theorem glCell : (["len"] : List Str).all (glB (defScope sCell)) = true := by decide +kernel
def rCell : List Sl → DOut → Prop := fun as o => ∃ (ns : List Int) (k : Nat), as = [.bo (ns.map .int), .sh (.int k)] ∧ o = .val (.int (cell ns k))
theorem okCell {f : Addr} {fd : FuncData} (F : Fun K "_law_cell" "_law_cell" sCell f fd) (T : Blt mg) : FnOk P w K mg base (L2N.CX P w) 1 f fd ["_law_script", "_law_k"] (spD K 2 rCell) := by
  refine fnD F scCell (by decide) fun cdv A outer s H E as o hr hl hR => ?_
  obtain ⟨ns, k, rfl, rfl⟩ := hR
  refine sds_cons (sd_if (et_c cd_lt (ed_v loCell 1) (ed_len (EP'.rd (ep_v loCell 0)) (gl_of glCell 0) T.len)) (fun hb => ?_) (fun hb => ?_))
  · have h1 : k < ns.length := by simpa using hb
    refine sds_one (sd_ret (ed_ixL (d := .int ns[k]) (EP'.rd (ep_v loCell 0)) (ed_v loCell 1) (atI_nat (j := k) (by simp [h1]))) ?_)
    show PyData.int ns[k] = .int (cell ns k)
    simp [cell, h1]
  · refine sds_nil (sds_one (sd_ret ed_int ?_))
    have h1 : ¬ k < ns.length := by simpa using hb
    show PyData.int 0 = .int (cell ns k)
    simp [cell, h1]
/-! ### _law_mixed -/
abbrev sMixed : Stmt := topS 4
abbrev nMixed : List Str := ["_law_cell_here", "_law_k"]
theorem scMixed : FnScope nMixed ["_law_cell_here", "_law_k"] (defScope sMixed) := ⟨rfl, rfl, rfl, by decide +kernel, rfl, by decide +kernel, by decide +kernel⟩
theorem loMixed : (["_law_cell_here", "_law_k"] : List Str).all (locB (defScope sMixed)) = true := by decide +kernel
def rMixed : List Sl → DOut → Prop := fun as o => ∃ c k : Int, as = [.sh (.int c), .sh (.int k)] ∧ o = .val (.int (mixed c k))
theorem okMixed {f : Addr} {fd : FuncData} (F : Fun K "_law_mixed" "_law_mixed" sMixed f fd) : FnOk P w K mg base (L2N.CX P w) 1 f fd ["_law_cell_here", "_law_k"] (spD K 2 rMixed) := by
  refine fnD F scMixed (by decide) fun cdv A outer s H E as o hr hl hR => ?_
  obtain ⟨c, k, rfl, rfl⟩ := hR
  exact sds_one (sd_ret (ed_mod (ed_mul (ed_add (ed_v loMixed 0) (ed_mul ed_int (ed_v loMixed 1) (.inl ⟨by decide, by decide⟩))) ed_int (.inr ⟨by decide, by decide⟩)) ed_int (by decide)) rfl)
/-! ### _law_name -/
abbrev sName : Stmt := topS 5
abbrev nName : List Str := ["_law_cell_here", "_law_taken", "_law_signs", "_law_left", "_law_found", "_law_at", "_law_j"]
theorem scName : FnScope nName ["_law_cell_here", "_law_taken"] (defScope sName) := ⟨rfl, rfl, rfl, by decide +kernel, rfl, by decide +kernel, by decide +kernel⟩
theorem ndName : (nName).Nodup := scName.nd
theorem loName : (["_law_cell_here", "_law_taken", "_law_signs", "_law_left", "_law_found", "_law_at"] : List Str).all (locB (defScope sName)) = true := by decide +kernel
theorem glName : (["_law_mixed", "range", "str", "len"] : List Str).all (glB (defScope sName)) = true := by decide +kernel
def rName : List Sl → DOut → Prop := fun as o => ∃ (c : Int) (taken : List Str), as = [.sh (.int c), .bo (taken.map .str)] ∧ Taken taken ∧ o = .val (.str (nameOf c taken))
theorem okName {f : Addr} {fd : FuncData} (F : Fun K "_law_name" "_law_name" sName f fd) (T : Blt mg) (cMixed : Cal P w K mg base 1 "_law_mixed" 2 rMixed) : FnOk P w K mg base (L2N.CX P w) 2 f fd ["_law_cell_here", "_law_taken"] (spD K 2 rName) := by
  refine fnD F scName (by decide) fun cdv A outer s H E as o hr hl hR => ?_
  obtain ⟨c, taken, rfl, ⟨hok, hln⟩, rfl⟩ := hR
  have hc : (cxOf (L2N.CX P w) P w K mg base nName "_law_name" (defScope sName) f cdv A outer s H E).calm = true := rfl
  have tk : L2N.Takes (cxOf (L2N.CX P w) P w K mg base nName "_law_name" (defScope sName) f cdv A outer s H E) (fun c d _ H' => E c d H') := L2N.takes_of rfl rfl rfl rfl
  have b0 := mixed_nn c 5
  have b12a := Int.emod_nonneg (mixed c 5) (show (12 : Int) ≠ 0 by decide)
  have b12b := Int.emod_lt_of_pos (mixed c 5) (show (0 : Int) < 12 by decide)
  have n0 : (nm0 c).length ≤ 12 := (nm0_ok c).2.1
  have n1 : (nm1 c).length ≤ 12 := (nm1_ok c).2.1
  have n2 : (nm2 c taken).length ≤ 12 := (nm2_ok c hok).2.1
  have hsg : LW.sgn.length ≤ 100000 := by rw [len_sgn]; decide
  refine sds_cons (sd_set (i := 2) ndName rfl (loc_of loName 2) (.inl rfl) ed_str ?_)
  refine sds_cons (sd_set (i := 3) ndName rfl (loc_of loName 3) (.inl rfl) (ed_call cMixed (hr.mono (by decide)) (gl_of glName 0) tk (ea_d (ed_v loName 0) (ea_d ed_int ea_nil)) rfl ⟨c, 5, rfl, rfl⟩) ?_)
  refine sds_cons (sd_set (i := 4) (d := .str (nm0 c)) ndName rfl (loc_of loName 4) (.inl rfl) (ed_join (zs := (List.range (1 + mixed c 5 % 12).toNat).map fun (j : Nat) => chS (sgnC (mixed c j % 36))) ed_str (EL.rd (EL.to (el_lcR (j := 6) ⟨hc, ndName, blkOk_by (N := nName) (sc := defScope sName) (by decide +kernel), by decide, rfl, rfl, by intro _; rfl⟩ (gl_of glName 1) T.range (fun _ => true) (fun x => .str (chS (sgnC (mixed c x % 36)))) (ed_add ed_int (ed_mod (ed_v loName 3) ed_int (by decide))) (by omega) (fun x hx s H C cl fp => rfl) (fun x hx _ s H C cl fp => (ed_ixS (w := LW.sgn) (ed_b 2) (ed_mod (ed_call cMixed (hr.mono (by decide)) gl_b takesN0 (ea_d (ed_b 0) (ea_d (ed_b 6) ea_nil)) rfl ⟨c, x, rfl, rfl⟩) ed_int (by decide)) hsg (sgn_at (Int.emod_nonneg _ (by decide)) (Int.emod_lt_of_pos _ (by decide)))))) (by rw [lc_all, List.map_map]; rfl))) (by rw [chs_sum, List.length_range]; show _ + _ * 0 ≤ _; omega)) ?_)
  -- the sign of a number
  refine sds_cons (sd_ifsetD (i := 4) (d := .str (numS (mixed c 5 % 130))) (d1 := .str (nm1 c)) ndName rfl (loc_of loName 4) (.inl rfl) (et_c cd_eqI (ed_mod (ed_v loName 0) ed_int (by decide)) ed_int) rfl (fun hb => ed_strI (ed_mod (ed_v loName 3) ed_int (by decide)) (lg_ok (Int.emod_nonneg _ (by decide)) (by have := Int.emod_lt_of_pos (mixed c 5) (show (0 : Int) < 130 by decide); omega)) (gl_of glName 2) T.str) (by unfold nm1; split <;> rfl) ?_)
  -- the last one, longer
  refine sds_cons (sd_ifsetD (i := 4) (d := .str (cutS (taken.getLastD "") none (some 11) ++ chS (sgnC (mixed c 5 % 36)))) (d1 := .str (nm2 c taken)) ndName rfl (loc_of loName 4) (.inl rfl) (et_w (ew_and (et_c cd_eqI (ed_mod (ed_v loName 0) ed_int (by decide)) ed_int) (fun _ => ew_and1 (et_list (EP'.rd (ep_v loName 1)))))) rfl (fun hb => ?_) (by unfold nm2; rw [List.isEmpty_map]; split <;> rfl) ?_)
  · rw [Bool.and_eq_true] at hb
    have he : taken.isEmpty = false := by simpa using hb.2
    have hl2 := (hok _ (getLastD_mem he)).2.1
    refine ed_cat (ed_cutS (ed_ixL (EP'.rd (ep_v loName 1)) (ed_neg ed_int) (atI_lastD he)) trivial ed_int (by omega)) (ed_ixS (w := LW.sgn) (ed_v loName 2) (ed_mod (ed_v loName 3) ed_int (by decide)) hsg (sgn_at (Int.emod_nonneg _ (by decide)) (Int.emod_lt_of_pos _ (by decide)))) ?_
    have : (cutS (taken.getLastD "") none (some 11)).length ≤ 12 := by rw [len_cs, cs_take11, List.length_take, ← len_cs]; omega
    show _ + 1 ≤ _
    omega
  -- one of them, a sign changed
  refine sds_cut [.sh (.int c), .bo (taken.map .str), .sh (.str LW.sgn), .sh (.int (mixed c 5)), .sh (.str (nm3 c taken)), .un, .un] (sd_if (et_w (ew_and (et_c cd_gt (ed_mod (ed_v loName 0) ed_int (by decide)) ed_int) (fun _ => (ew_and1 (et_list (EP'.rd (ep_v loName 1))))))) (fun hb => ?_) (fun hb => ?_)) ?_
  · have hb' := hb
    rw [Bool.and_eq_true] at hb
    have he : taken.isEmpty = false := by simpa using hb.2
    have hl0 : 0 < taken.length := by cases taken with | nil => cases he | cons => simp
    obtain ⟨hm, hat⟩ := nmT_mem c he
    obtain ⟨l1, l2, l3⟩ := hok _ hm
    obtain ⟨a0, a1⟩ := nmA_bd c he hok
    refine sds_cons (sd_set (i := 4) (d := .str (nmT c taken)) ndName rfl (loc_of loName 4) (.inl rfl) (ed_ixL (EP'.rd (ep_v loName 1)) (ed_mod (ed_v loName 3) (ed_len (EP'.rd (ep_v loName 1)) (gl_of glName 3) T.len) (by rw [List.length_map]; omega)) (by
      rw [List.length_map]
      refine atI_int (Int.emod_nonneg _ (by omega)) ?_
      rw [List.getElem?_map, hat]; rfl)) ?_)
    refine sds_cons (sd_set (i := 5) (d := .int (nmA c taken)) ndName rfl (loc_of loName 5) (.inl rfl) (ed_mod (ed_div (ed_v loName 3) ed_int ⟨by decide, by decide⟩) (ed_lenS (ed_v loName 4) (by omega) (gl_of glName 3) T.len) (by omega)) ?_)
    have q1 : (cutS (nmT c taken) none (some (nmA c taken))).length ≤ 12 := by
      have ea : nmA c taken = ((nmA c taken).toNat : Int) := by omega
      rw [len_cs, ea, cs_take, List.length_take, ← len_cs]; omega
    have q2 : (cutS (nmT c taken) (some (nmA c taken + 1)) none).length ≤ 12 := by
      have ea : nmA c taken + 1 = (((nmA c taken).toNat + 1 : Nat) : Int) := by omega
      rw [len_cs, ea, cs_drop, List.length_drop, ← len_cs]; omega
    refine sds_one (sd_set (i := 4) (d := .str (nm3 c taken)) ndName rfl (loc_of loName 4) (.inl rfl) (ED.to (ed_cat (ed_cat (ed_cutS (l := none) (u := some (nmA c taken)) (ed_v loName 4) trivial (ed_v loName 5) (by omega)) (ed_ixS (w := LW.sgn) (ed_v loName 2) (ed_mod (ed_div (ed_v loName 3) ed_int ⟨by decide, by decide⟩) ed_int (by decide)) hsg (sgn_at (Int.emod_nonneg _ (by decide)) (Int.emod_lt_of_pos _ (by decide)))) (by show _ + 1 ≤ _; omega)) (ed_cutS (l := some (nmA c taken + 1)) (u := none) (ed_v loName 4) (ed_add (ed_v loName 5) ed_int) trivial (by omega)) (by rw [len_app]; show _ + 1 + _ ≤ _; omega)) (by
      unfold nm3
      rw [List.isEmpty_map] at hb'
      rw [if_pos hb']; rfl)) ?_)
    exact .cons (.cons (.cons (.cons (.cons (.forget (.cons .nil))))))
  · refine sds_nil ?_
    have e : nm3 c taken = nm2 c taken := by
      unfold nm3
      rw [List.isEmpty_map] at hb
      rw [hb]; rfl
    rw [e]
    exact SlLe.refl _
  refine sds_cons (sd_if (et_niL (ed_v loName 4) (EP'.rd (ep_v loName 1))) (fun hb => ?_) (fun hb => ?_))
  · refine sds_one (sd_ret (ed_v loName 4) ?_)
    show PyData.str _ = .str (nameOf c taken)
    unfold nameOf
    rw [if_pos hb]
  · refine sds_nil ?_
    have hfr := frees_ne hln
    have hz : ∀ x : Nat, x < (((taken.length : Nat) : Int) + 1).toNat → ((x : Nat) : Int).natAbs.log2 < 1920 := fun x hx => lg_ok (by omega) (by omega)
    refine sds_one (sd_ret (ed_ixL (d := .str ((frees taken).headD "")) (EL.rd (EL.to (el_lcR (j := 6) ⟨hc, ndName, blkOk_by (N := nName) (sc := defScope sName) (by decide +kernel), by decide, rfl, rfl, by intro _; rfl⟩ (gl_of glName 1) T.range (fun x => !decide (numS (x : Int) ∈ taken)) (fun x => .str (numS (x : Int))) (ed_add (ed_len (EP'.rd (ep_v loName 1)) (gl_of glName 3) T.len) ed_int) (by rw [List.length_map]; omega) (fun x hx s H C cl fp => (et_niL (ed_strI (ed_b 6) (hz x (by rw [List.length_map] at hx; exact hx)) gl_b T.str) (EP'.rd (ep_b 1)))) (fun x hx _ s H C cl fp => (ed_strI (ed_b 6) (hz x (by rw [List.length_map] at hx; exact hx)) gl_b T.str))) (show _ = (frees taken).map PyData.str from ?_))) ed_int ?_) ?_)
    · rw [List.length_map, show (((taken.length : Nat) : Int) + 1).toNat = taken.length + 1 from by omega]
      unfold frees
      rw [List.filter_map, List.map_map]; rfl
    · refine atI_nat (j := 0) ?_
      cases e : frees taken with
      | nil => exact absurd e hfr
      | cons a r => rfl
    · show PyData.str _ = .str (nameOf c taken)
      unfold nameOf
      rw [hb]; rfl
/-! ### _law_line -/
abbrev sLine : Stmt := topS 6
abbrev nLine : List Str := ["_law_cell_here", "_law_some_here", "_law_size", "_law_found", "_law_j"]
theorem scLine : FnScope nLine ["_law_cell_here"] (defScope sLine) := ⟨rfl, rfl, rfl, by decide +kernel, rfl, by decide +kernel, by decide +kernel⟩
theorem ndLine : (nLine).Nodup := scLine.nd
theorem loLine : (["_law_cell_here", "_law_some_here", "_law_size", "_law_found"] : List Str).all (locB (defScope sLine)) = true := by decide +kernel
theorem glLine : (["range"] : List Str).all (glB (defScope sLine)) = true := by decide +kernel
def rLine : List Sl → DOut → Prop := fun as o => ∃ c : Int, as = [.sh (.int c)] ∧ o = .val (.str (lineOf c))
theorem okLine {f : Addr} {fd : FuncData} (F : Fun K "_law_line" "_law_line" sLine f fd) (T : Blt mg) : FnOk P w K mg base (L2N.CX P w) 1 f fd ["_law_cell_here"] (spD K 1 rLine) := by
  refine fnD F scLine (by decide) fun cdv A outer s H E as o hr hl hR => ?_
  obtain ⟨c, rfl, rfl⟩ := hR
  have hc : (cxOf (L2N.CX P w) P w K mg base nLine "_law_line" (defScope sLine) f cdv A outer s H E).calm = true := rfl
  have hb1 := lsize_bd c
  have hb2 := ln0_len c
  have l1 := len_some1
  have l2 := len_some2
  have ls := len_somes
  refine sds_cons (sd_set (i := 1) (d := .str some1) ndLine rfl (loc_of loLine 1) (.inl rfl) ed_str ?_)
  refine sds_cons (sd_set (i := 1) (d := .str somes) ndLine rfl (loc_of loLine 1) (.inl rfl) (ed_cat (ed_v loLine 1) (i := some1) (j := some2) ed_str (by omega)) ?_)
  refine sds_cons (sd_set (i := 2) (d := .int (c % 4)) ndLine rfl (loc_of loLine 2) (.inl rfl) (ed_mod (ed_v loLine 0) ed_int (by decide)) ?_)
  refine sds_cons (sd_ifsetD (i := 2) (d := .int (c / 36 % 201)) (d1 := .int (lsize c)) ndLine rfl (loc_of loLine 2) (.inl rfl) (et_c cd_eqI (ed_mod (ed_div (ed_v loLine 0) ed_int ⟨by decide, by decide⟩) ed_int (by decide)) ed_int) rfl (fun hb => ed_mod (ed_div (ed_v loLine 0) ed_int ⟨by decide, by decide⟩) ed_int (by decide)) (by unfold lsize; split <;> rfl) ?_)
  refine sds_cons (sd_set (i := 3) (d := .str (ln0 c)) ndLine rfl (loc_of loLine 3) (.inl rfl) (ed_join (zs := (List.range (lsize c).toNat).map fun (j : Nat) => chS (someC ((c / 7 + (j : Int) * (1 + c % 5)) % 94))) ed_str (EL.rd (EL.to (el_lcR (j := 4) ⟨hc, ndLine, blkOk_by (N := nLine) (sc := defScope sLine) (by decide +kernel), by decide, rfl, rfl, by intro _; rfl⟩ (gl_of glLine 0) T.range (fun _ => true) (fun x => .str (chS (someC ((c / 7 + (x : Int) * (1 + c % 5)) % 94)))) (ed_v loLine 2) (by omega) (fun x hx s H C cl fp => rfl) (fun x hx _ s H C cl fp => (ed_ixS (w := somes) (ed_b 1) (ed_mod (ed_add (ed_div (ed_b 0) ed_int ⟨by decide, by decide⟩) (ed_mul (ed_b 4) (ed_add ed_int (ed_mod (ed_b 0) ed_int (by decide))) (.inl ⟨by omega, by omega⟩))) ed_int (by decide)) (by omega) (some_at (Int.emod_nonneg _ (by decide)) (Int.emod_lt_of_pos _ (by decide)))))) (by rw [lc_all, List.map_map]; rfl))) (by rw [chs_sum, List.length_range]; show _ + _ * 0 ≤ _; omega)) ?_)
  refine sds_cons (sd_if (et_w (ew_and (et_c cd_eqI (ed_mod (ed_div (ed_v loLine 0) ed_int ⟨by decide, by decide⟩) ed_int (by decide)) ed_int) (fun _ => (ew_and1 (et_c cd_lt (ed_v loLine 2) ed_int))))) (fun hb => ?_) (fun hb => ?_))
  · have q1 : (cutS (ln0 c) none (some 1)).length ≤ 200 := by rw [len_cs, cs_take1, List.length_take, ← len_cs]; omega
    have q2 : (cutS (ln0 c) (some 1) none).length ≤ 200 := by rw [len_cs, cs_drop1, List.length_drop, ← len_cs]; omega
    refine sds_one (sd_ret (ed_cat (ed_cat (ed_cutS (l := none) (u := some 1) (ed_v loLine 3) trivial ed_int (by omega)) ed_str (by show _ + 2 ≤ _; omega)) (ed_cutS (l := some 1) (u := none) (ed_v loLine 3) ed_int trivial (by omega)) (by rw [len_app]; show _ + 2 + _ ≤ _; omega)) ?_)
    show PyData.str _ = .str (lineOf c)
    unfold lineOf
    rw [if_pos hb]
  · refine sds_nil (sds_one (sd_ret (ed_v loLine 3) ?_))
    show PyData.str _ = .str (lineOf c)
    unfold lineOf
    rw [hb, if_neg Bool.false_ne_true]

/-! ### _law_leans -/
abbrev sLeans : Stmt := topS 7
abbrev nLeans : List Str := ["_law_cell_here", "_law_ahead", "_law_left", "_law_found", "_law_k", "_law_change", "_law_last"]
theorem scLeans : FnScope nLeans ["_law_cell_here", "_law_ahead"] (defScope sLeans) := ⟨rfl, rfl, rfl, by decide +kernel, rfl, by decide +kernel, by decide +kernel⟩
theorem ndLeans : (nLeans).Nodup := scLeans.nd
theorem loLeans : (["_law_cell_here", "_law_ahead", "_law_left", "_law_found", "_law_k", "_law_change", "_law_last"] : List Str).all (locB (defScope sLeans)) = true := by decide +kernel
theorem glLeans : (["_law_mixed", "enumerate", "len", "sorted"] : List Str).all (glB (defScope sLeans)) = true := by decide +kernel
def rLeans : List Sl → DOut → Prop := fun as o => ∃ (c : Int) (ah : List LW.Change), as = [.sh (.int c), .bo (ah.map LW.qC)] ∧ ah.length ≤ 62 ∧ o = .new ((LW.leansOf c ah).map .str)
theorem okLeans {f : Addr} {fd : FuncData} (F : Fun K "_law_leans" "_law_leans" sLeans f fd) (T : Blt mg) (cMixed : Cal P w K mg base 1 "_law_mixed" 2 rMixed) : FnOk P w K mg base (L2N.CX P w) 2 f fd ["_law_cell_here", "_law_ahead"] (spD K 2 rLeans) := by
  refine fnD F scLeans (by decide) fun cdv A outer s H E as o hr hl hR => ?_
  obtain ⟨c, ah, rfl, hah, rfl⟩ := hR
  have hc : (cxOf (L2N.CX P w) P w K mg base nLeans "_law_leans" (defScope sLeans) f cdv A outer s H E).calm = true := rfl
  have tk : L2N.Takes (cxOf (L2N.CX P w) P w K mg base nLeans "_law_leans" (defScope sLeans) f cdv A outer s H E) (fun c d _ H' => E c d H') := L2N.takes_of rfl rfl rfl rfl
  have hml : (ah.map LW.qC).length = ah.length := List.length_map _
  have h3a := Int.emod_nonneg c (show (3 : Int) ≠ 0 by decide)
  refine sds_cons (sd_set (i := 2) (d := .int (LW.lnLeft c 0)) ndLeans rfl (loc_of loLeans 2) (.inl rfl) (ed_call cMixed (hr.mono (by decide)) (gl_of glLeans 0) tk (ea_d (ed_v loLeans 0) (ea_d ed_int ea_nil)) rfl ⟨c, 1, rfl, rfl⟩) ?_)
  refine sds_cons (sd_setL (i := 3) ndLeans rfl (loc_of loLeans 3) (.inl rfl) (el_lst (ds := []) ea_nil le_b) (fun r3 => ?_))
  refine sds_cons (sd_enum (fun i ρ => ∃ s4 s5 s6, ρ = [.sh (.int c), .bo (ah.map LW.qC), .sh (.int (LW.lnLeft c i)), .ow r3 ((LW.lnAt c ah i).map .str), s4, s5, s6]) (L2.passes_of rfl) hc
    (gu_tup hc (gus_cons (gu_name (j := 4) ndLeans rfl (loc_of loLeans 4) (.inl rfl)) (gus_cons (gu_name (j := 5) ndLeans rfl (loc_of loLeans 5) (.inl rfl)) gus_nil))) (gl_of glLeans 1) T.enumerate (ep_v loLeans 1) ⟨_, _, _, rfl⟩ (fun i d ρ1 hi hI => ?_) (fun ρ1 hI => ?_))
  · obtain ⟨s4, s5, s6, rfl⟩ := hI
    rw [List.getElem?_map] at hi
    cases hx : ah[i]? with
    | none => rw [hx] at hi; cases hi
    | some x =>
    rw [hx] at hi
    cases hi
    have hil : i < ah.length := (List.getElem?_eq_some_iff.mp hx).1
    have hfl := LW.lnAt_len c ah i
    refine ⟨_, ⟨_, rfl, rfl, _, _, _, rfl, rfl, _, _, _, rfl, rfl, rfl, rfl⟩, ?_⟩
    refine sds_cons (sd_set (i := 6) (d := .bool (decide ((i : Int) = (ah.length : Int) - 1) && decide (c % 7 = 3))) ndLeans rfl (loc_of loLeans 6) (.inl rfl) (ED.to (ed_and (ed_c cd_eqI (ed_v loLeans 4) (ed_sub (ed_len (EP'.rd (ep_v loLeans 1)) (gl_of glLeans 2) T.len) ed_int)) (fun _ => (ed_one (ed_c cd_eqI (ed_mod (ed_v loLeans 0) ed_int (by decide)) ed_int)))) (by rw [hml])) ?_)
    refine sds_cut [.sh (.int c), .bo (ah.map LW.qC), .sh (.int (LW.lnLeft c i)), .ow r3 ((LW.lnAt c ah (i + 1)).map .str), .sh (.int (i : Nat)), .sh (LW.qC x), .un] (sd_if (et_w (ew_or (et_val (ed_v loLeans 6)) (fun _ => (ew_or1 (et_w (ew_and (et_c cd_eqI (ed_mod (ed_v loLeans 2) (ed_add ed_int (ed_mod (ed_v loLeans 0) ed_int (by decide))) (by omega)) ed_int) (fun _ => (ew_and1 (et_w (ew_or (et_c cd_lt (ed_len (EP'.rd (ep_v loLeans 1)) (gl_of glLeans 2) T.len) ed_int) (fun _ => (ew_or1 (et_c cd_eqI (ed_mod (ed_v loLeans 4) ed_int (by decide)) (ed_mod (ed_div (ed_v loLeans 2) ed_int ⟨by decide, by decide⟩) ed_int (by decide))))))))))))))) (fun hb => ?_) (fun hb => ?_)) ?_
    · rw [hml] at hb
      have ht : LW.lnTake c ah.length i (LW.lnLeft c i) = true := hb
      have e : LW.lnAt c ah (i + 1) = LW.lnAt c ah i ++ [x.n] := by rw [LW.lnAt, if_pos ht, hx]; rfl
      rw [e, List.map_append]
      exact sds_one (sd_app (i := 3) rfl (vis_of (loc_of loLeans 3)) rfl (ed_ixT (ds := [.str x.n, _, _]) (ed_v loLeans 5) ed_int (atI_nat (j := 0) rfl)) (by rw [List.length_map]; omega) (.cons (.cons (.cons (.cons (.cons (.cons (.forget .nil))))))))
    · rw [hml] at hb
      have ht : LW.lnTake c ah.length i (LW.lnLeft c i) = false := hb
      have e : LW.lnAt c ah (i + 1) = LW.lnAt c ah i := by rw [LW.lnAt, ht]; rfl
      rw [e]
      exact sds_nil (.cons (.cons (.cons (.cons (.cons (.cons (.forget .nil)))))))
    refine sds_cons (sd_set (i := 2) (d := .int (LW.lnLeft c i / 3)) ndLeans rfl (loc_of loLeans 2) (.inl rfl) (ed_div (ed_v loLeans 2) ed_int ⟨by decide, by decide⟩) ?_)
    refine sds_one (sd_ifsetD (i := 2) (d := .int (mixed c ((i : Int) + 2))) (d1 := .int (LW.lnLeft c (i + 1))) ndLeans rfl (loc_of loLeans 2) (.inl rfl) (et_c cd_lt (ed_v loLeans 2) ed_int) rfl (fun _ => ed_call cMixed (hr.mono (by decide)) (gl_of glLeans 0) tk (ea_d (ed_v loLeans 0) (ea_d (ed_add (ed_v loLeans 4) ed_int) ea_nil)) rfl ⟨c, (i : Int) + 2, rfl, rfl⟩) (by rw [LW.lnLeft]; unfold LW.lnNext; split <;> rfl) ⟨_, _, _, rfl⟩)
  · obtain ⟨s4, s5, s6, rfl⟩ := hI
    rw [hml]
    have hfl := LW.lnAt_len c ah ah.length
    exact sds_one (sd_retL (el_sorted (ds := (LW.leansOf c ah).map .str) (zs := LW.lnAt c ah ah.length) (eb_v loLeans 3) (by omega) (gl_of glLeans 3) T.sorted (fun ys p h => by rw [sortS_uniq p h]; rfl)) rfl)
/-! ### _law_marks -/
abbrev sMarks : Stmt := topS 8
abbrev nMarks : List Str := ["_law_change", "_law_many", "_law_deed", "_law_j"]
theorem scMarks : FnScope nMarks ["_law_change"] (defScope sMarks) := ⟨rfl, rfl, rfl, by decide +kernel, rfl, by decide +kernel, by decide +kernel⟩
theorem ndMarks : (nMarks).Nodup := scMarks.nd
theorem loMarks : (["_law_change", "_law_many"] : List Str).all (locB (defScope sMarks)) = true := by decide +kernel
theorem glMarks : (["len", "range"] : List Str).all (glB (defScope sMarks)) = true := by decide +kernel
def rMarks : List Sl → DOut → Prop := fun as o => ∃ c : LW.Change, as = [.sh (LW.qC c)] ∧ c.ds.length ≤ 1000 ∧ o = .new ((LW.marksOf c).map LW.qMk)
theorem okMarks {f : Addr} {fd : FuncData} (F : Fun K "_law_marks" "_law_marks" sMarks f fd) (T : Blt mg) : FnOk P w K mg base (L2N.CX P w) 1 f fd ["_law_change"] (spD K 1 rMarks) := by
  refine fnD F scMarks (by decide) fun cdv A outer s H E as o hr hl hR => ?_
  obtain ⟨c, rfl, hcd, rfl⟩ := hR
  have hc : (cxOf (L2N.CX P w) P w K mg base nMarks "_law_marks" (defScope sMarks) f cdv A outer s H E).calm = true := rfl
  have ha := LW.adds_le c.ds
  refine sds_cons (sd_set (i := 1) (d := .int (LW.adds c.ds : Nat)) ndMarks rfl (loc_of loMarks 1) (.inl rfl) (ED.to (ed_len (EL.rd (el_lc (j := 2) ⟨hc, ndMarks, blkOk_by (N := nMarks) (sc := defScope sMarks) (by decide +kernel), by decide, rfl, rfl, by intro _; rfl⟩ c.ds LW.qD (fun d => decide (d.w = ("add" : Str))) LW.qD (ED.pst (ed_ixT (ds := [_, _, .list (c.ds.map LW.qD)]) (ed_v loMarks 0) ed_int (atI_nat (j := 2) rfl))) (by omega) (fun x hx s H C cl fp => by
    obtain ⟨r, er⟩ := LW.qD_fst x
    rw [er]
    exact (et_c cd_eqS (ed_ixT (ed_b 2) ed_int (atI_nat (j := 0) rfl)) ed_str)) (fun x hx _ s H C cl fp => (ed_b 2)))) (gl_of glMarks 0) T.len) (by rw [List.length_map]; rfl)) ?_)
  exact sds_one (sd_retL (EL.to (xs := (LW.marksOf c).map LW.qMk) (el_lcR (j := 3) ⟨hc, ndMarks, blkOk_by (N := nMarks) (sc := defScope sMarks) (by decide +kernel), by decide, rfl, rfl, by intro _; rfl⟩ (gl_of glMarks 1) T.range (fun _ => true) (fun x => LW.qMk (c.n, (x : Int))) (ed_v loMarks 1) (by omega) (fun x hx s H C cl fp => rfl) (fun x hx _ s H C cl fp => (ed_tup (ds := [_, _]) (ea_d (ed_ixT (ds := [.str c.n, _, _]) (ed_b 0) ed_int (atI_nat (j := 0) rfl)) (ea_d (ed_b 3) ea_nil)) le_b))) (by rw [lc_all]; unfold LW.marksOf; rw [List.map_map]; rfl)) rfl)

end
end N14

set_option maxHeartbeats 4000000
namespace N14
variable [PD.TabC]
open PySem L2 PD PyProof.Rows LW
section
variable {P : Program} {w : World} {K : PySem.W.Frag} {mg : Str → Option Value} {base : Heap}
/-! ### _law_deeds -/
abbrev sDeeds : Stmt := topS 9
abbrev nDeeds : List Str := ["_law_name_here", "_law_cell_here", "_law_many", "_law_marks_here", "_law_deeds_here", "_law_own", "_law_k", "_law_known", "_law_left", "_law_at", "_law_line_here", "_law_mark", "_law_j"]
theorem scDeeds : FnScope nDeeds ["_law_name_here", "_law_cell_here", "_law_many", "_law_marks_here"] (defScope sDeeds) := ⟨rfl, rfl, rfl, by decide +kernel, rfl, by decide +kernel, by decide +kernel⟩
theorem ndDeeds : (nDeeds).Nodup := scDeeds.nd
theorem loDeeds : (["_law_name_here", "_law_cell_here", "_law_many", "_law_marks_here", "_law_deeds_here", "_law_own", "_law_k", "_law_known", "_law_left", "_law_at", "_law_line_here", "_law_mark"] : List Str).all (locB (defScope sDeeds)) = true := by decide +kernel
theorem glDeeds : (["range", "_law_mixed", "len", "_law_line"] : List Str).all (glB (defScope sDeeds)) = true := by decide +kernel
def rDeeds : List Sl → DOut → Prop := fun as o => ∃ (n : Str) (c many : Int) (ms : List (Str × Int)), as = [.sh (.str n), .sh (.int c), .sh (.int many), .sh (.list (ms.map LW.qMk))] ∧ 0 ≤ many ∧ many ≤ 20 ∧ ms.length ≤ 10000 ∧ o = .new ((LW.deedsOf n c many.toNat ms).map LW.qD)
theorem okDeeds {f : Addr} {fd : FuncData} (F : Fun K "_law_deeds" "_law_deeds" sDeeds f fd) (T : Blt mg) (cMixed : Cal P w K mg base 1 "_law_mixed" 2 rMixed) (cLine : Cal P w K mg base 1 "_law_line" 1 rLine) : FnOk P w K mg base (L2N.CX P w) 2 f fd ["_law_name_here", "_law_cell_here", "_law_many", "_law_marks_here"] (spD K 4 rDeeds) := by
  refine fnD F scDeeds (by decide) fun cdv A outer s H E as o hr hl hR => ?_
  obtain ⟨n, c, many, ms, rfl, hm0, hm1, hms, rfl⟩ := hR
  have hc : (cxOf (L2N.CX P w) P w K mg base nDeeds "_law_deeds" (defScope sDeeds) f cdv A outer s H E).calm = true := rfl
  have tk : L2N.Takes (cxOf (L2N.CX P w) P w K mg base nDeeds "_law_deeds" (defScope sDeeds) f cdv A outer s H E) (fun c d _ H' => E c d H') := L2N.takes_of rfl rfl rfl rfl
  refine sds_cons (sd_setL (i := 4) ndDeeds rfl (loc_of loDeeds 4) (.inl rfl) (el_lst (ds := []) ea_nil le_b) (fun r4 => ?_))
  refine sds_cons (sd_set (i := 5) (d := .int (0 : Nat)) ndDeeds rfl (loc_of loDeeds 5) (.inl rfl) ed_int ?_)
  refine sds_cons (sd_rng (fun i ρ => ∃ s6 s7 s8 s9 s10 s11 s12, ρ = [.sh (.str n), .sh (.int c), .sh (.int many), .sh (.list (ms.map LW.qMk)), .ow r4 ((LW.deedsAt n c ms i).1.map LW.qD), .sh (.int (LW.deedsAt n c ms i).2), s6, s7, s8, s9, s10, s11, s12]) (L2.passes_of rfl) hc (j := 6) ndDeeds rfl (loc_of loDeeds 6) (.inl rfl) (gl_of glDeeds 0) T.range (ed_v loDeeds 2) (by omega) ⟨_, _, _, _, _, _, _, rfl⟩ (fun i ρ1 hi hI => ?_) (fun ρ1 hI => ?_))
  · obtain ⟨s6, s7, s8, s9, s10, s11, s12, rfl⟩ := hI
    obtain ⟨hd1, hd2⟩ := LW.deedsAt_len n c ms i
    have hx1 : (LW.deedsAt n c ms (i + 1)).1 = (LW.deedsAt n c ms i).1 ++ [LW.deedOf n ms (LW.deedsAt n c ms i).2 (mixed c (i : Int))] := rfl
    have hx2 : (LW.deedsAt n c ms (i + 1)).2 = if LW.isAdd n ms (LW.deedsAt n c ms i).2 (mixed c (i : Int)) = true then (LW.deedsAt n c ms i).2 + 1 else (LW.deedsAt n c ms i).2 := rfl
    rw [hx1, hx2]
    clear hx1 hx2
    generalize hds : (LW.deedsAt n c ms i).1 = ds at *
    generalize how : (LW.deedsAt n c ms i).2 = own at *
    have hkl := LW.knownOf_len n ms own
    have hkm : ((LW.knownOf n ms own).map LW.qMk).length = (LW.knownOf n ms own).length := List.length_map _
    have hdm : (ds.map LW.qD).length < 100000 := by rw [List.length_map]; omega
    refine sds_cons (sd_setL (i := 7) ndDeeds rfl (loc_of loDeeds 7) (.inl rfl) (EL.to (xs := (LW.knownOf n ms own).map LW.qMk) (el_cat (ed_v loDeeds 3) (EL.dat (el_lcR (j := 12) ⟨hc, ndDeeds, blkOk_by (N := nDeeds) (sc := defScope sDeeds) (by decide +kernel), by decide, rfl, rfl, by intro _; rfl⟩ (gl_of glDeeds 0) T.range (fun _ => true) (fun x => LW.qMk (n, (x : Int))) (ed_v loDeeds 5) (by omega) (fun x hx s H C cl fp => rfl) (fun x hx _ s H C cl fp => (ed_tup (ds := [_, _]) (ea_d (ed_b 0) (ea_d (ed_b 12) ea_nil)) le_b)))) (by rw [lc_all, List.length_map, List.length_map, List.length_range]; omega)) (by rw [lc_all]; unfold LW.knownOf; rw [List.map_append, List.map_map]; rfl)) (fun r7 => ?_))
    refine sds_frz (i := 7) rfl ?_
    refine sds_cons (sd_set (i := 8) (d := .int (mixed c (i : Int))) ndDeeds rfl (loc_of loDeeds 8) (.inl rfl) (ed_call cMixed (hr.mono (by decide)) (gl_of glDeeds 1) tk (ea_d (ed_v loDeeds 1) (ea_d (ed_v loDeeds 6) ea_nil)) rfl ⟨c, i, rfl, rfl⟩) ?_)
    generalize mixed c (i : Int) = l
    refine sds_cons (sd_set (i := 9) (d := .int (LW.dAt n ms own l)) ndDeeds rfl (loc_of loDeeds 9) (.inl rfl) (ED.to (ed_mod (ed_div (ed_v loDeeds 8) ed_int ⟨by decide, by decide⟩) (ed_add (ed_len (ED.rd (ed_v loDeeds 7)) (gl_of glDeeds 2) T.len) ed_int) (by omega)) (by rw [hkm]; rfl)) ?_)
    have ha0 : 0 ≤ LW.dAt n ms own l := Int.emod_nonneg _ (by omega)
    have ha1 : LW.dAt n ms own l < ((LW.knownOf n ms own).length : Int) + 1 := Int.emod_lt_of_pos _ (by omega)
    refine sds_cons (sd_set (i := 10) (d := .str (lineOf (l / 365))) ndDeeds rfl (loc_of loDeeds 10) (.inl rfl) (ed_call cLine (hr.mono (by decide)) (gl_of glDeeds 3) tk (ea_d (ed_div (ed_v loDeeds 8) ed_int ⟨by decide, by decide⟩) ea_nil) rfl ⟨_, rfl, rfl⟩) ?_)
    refine sds_one (sd_if (et_w (ew_or (et_c cd_lt (ed_mod (ed_v loDeeds 8) ed_int (by decide)) ed_int) (fun _ => (ew_or1 (et_not (et_list (ED.rd (ed_v loDeeds 7)))))))) (fun hb => ?_) (fun hb => ?_))
    · rw [List.isEmpty_map] at hb
      have hadd : LW.isAdd n ms own l = true := hb
      have e : LW.deedOf n ms own l = ⟨"add", LW.addMark n ms own l, some (lineOf (l / 365))⟩ := by unfold LW.deedOf; rw [if_pos hadd]
      rw [e, if_pos hadd, List.map_append]
      refine sds_cons (sd_set (i := 11) (d := .none) ndDeeds rfl (loc_of loDeeds 11) (.inl rfl) ed_non ?_)
      refine sds_cons (sd_ifsetD (i := 11) (d := LW.qM (LW.addMark n ms own l)) (d1 := LW.qM (LW.addMark n ms own l)) ndDeeds rfl (loc_of loDeeds 11) (.inl rfl) (et_c cd_gt (ed_v loDeeds 9) ed_int) rfl (fun hb => ?_) ?_ ?_)
      · have hp : 0 < LW.dAt n ms own l := of_decide_eq_true hb
        refine ed_ixL (ED.rd (ed_v loDeeds 7)) (ed_sub (ed_v loDeeds 9) ed_int) ?_
        refine atI_int (by omega) ?_
        rw [List.getElem?_map, show (LW.dAt n ms own l - 1).toNat = (LW.dAt n ms own l).toNat - 1 from by omega]
        unfold LW.addMark
        rw [if_pos hb, List.getElem?_eq_getElem (by omega)]; rfl
      · split
        · rfl
        · rename_i hn
          unfold LW.addMark
          rw [if_neg hn]; rfl
      · refine sds_cons (sd_app (i := 4) rfl (vis_of (loc_of loDeeds 4)) rfl (ed_tup (ds := [_, _, _]) (ea_d ed_str (ea_d (ed_v loDeeds 11) (ea_d (ed_v loDeeds 10) ea_nil))) le_b) hdm ?_)
        exact sds_one (sd_set (i := 5) (d := .int ((own + 1 : Nat) : Int)) ndDeeds rfl (loc_of loDeeds 5) (.inl rfl) (ED.to (ed_add (ed_v loDeeds 5) ed_int) (by congr 1)) ⟨_, _, _, _, _, _, _, rfl⟩)
    · rw [List.isEmpty_map] at hb
      have hadd : LW.isAdd n ms own l = false := hb
      have hne : (LW.knownOf n ms own).isEmpty = false := by
        unfold LW.isAdd at hadd
        rw [Bool.or_eq_false_iff] at hadd
        simpa using hadd.2
      have hpos : 0 < (LW.knownOf n ms own).length := by
        cases h : LW.knownOf n ms own with
        | nil => rw [h] at hne; cases hne
        | cons a r => simp
      have hoth : atI ((LW.knownOf n ms own).map LW.qMk) (LW.dAt n ms own l % (((LW.knownOf n ms own).map LW.qMk).length : Int)) = some (LW.qM (LW.othMark n ms own l)) := by
        rw [hkm]
        have q0 := Int.emod_nonneg (LW.dAt n ms own l) (show ((LW.knownOf n ms own).length : Int) ≠ 0 by omega)
        have q1 := Int.emod_lt_of_pos (LW.dAt n ms own l) (show (0 : Int) < ((LW.knownOf n ms own).length : Int) by omega)
        refine atI_int q0 ?_
        unfold LW.othMark
        rw [List.getElem?_map, List.getElem?_eq_getElem (by omega)]; rfl
      rw [hadd, if_neg Bool.false_ne_true, List.map_append]
      refine sds_one (sd_if (et_c cd_eqI (ed_mod (ed_v loDeeds 8) ed_int (by decide)) ed_int) (fun hb => ?_) (fun hb => ?_))
      · have e : LW.deedOf n ms own l = ⟨"cut", LW.othMark n ms own l, none⟩ := by unfold LW.deedOf; rw [hadd, if_neg Bool.false_ne_true, if_pos hb]
        rw [e]
        exact sds_one (sd_app (i := 4) rfl (vis_of (loc_of loDeeds 4)) rfl (ed_tup (ds := [_, _]) (ea_d ed_str (ea_d (ed_ixL (ED.rd (ed_v loDeeds 7)) (ed_mod (ed_v loDeeds 9) (ed_len (ED.rd (ed_v loDeeds 7)) (gl_of glDeeds 2) T.len) (by omega)) hoth) ea_nil)) le_b) hdm ⟨_, _, _, _, _, _, _, rfl⟩)
      · have e : LW.deedOf n ms own l = ⟨"set", LW.othMark n ms own l, some (lineOf (l / 365))⟩ := by unfold LW.deedOf; rw [hadd, if_neg Bool.false_ne_true, hb, if_neg Bool.false_ne_true]
        rw [e]
        exact sds_one (sd_app (i := 4) rfl (vis_of (loc_of loDeeds 4)) rfl (ed_tup (ds := [_, _, _]) (ea_d ed_str (ea_d (ed_ixL (ED.rd (ed_v loDeeds 7)) (ed_mod (ed_v loDeeds 9) (ed_len (ED.rd (ed_v loDeeds 7)) (gl_of glDeeds 2) T.len) (by omega)) hoth) (ea_d (ed_v loDeeds 10) ea_nil))) le_b) hdm ⟨_, _, _, _, _, _, _, rfl⟩)
  · obtain ⟨s6, s7, s8, s9, s10, s11, s12, rfl⟩ := hI
    exact sds_one (sd_retO (i := 4) rfl (vis_of (loc_of loDeeds 4)) rfl rfl)

end
end N14

set_option maxHeartbeats 4000000
namespace LW
open PySem L2 PD PyProof.Rows
variable [PD.TabC]
theorem deedsOf_len (n : Str) (c : Int) (m : Nat) (ms : List (Str × Int)) : (deedsOf n c m ms).length = m := (deedsAt_len n c ms m).1
theorem chsAt_ds (cells : List Int) : ∀ k, ∀ f ∈ (chsAt cells k).1, f.ds.length ≤ 20
  | 0, f, h => nomatch h
  | k + 1, f, h => by
    rcases List.mem_append.mp (show f ∈ (chsAt cells k).1 ++ [chAt cells (chsAt cells k).1 (chsAt cells k).2 k] from h) with h | h
    · exact chsAt_ds cells k f h
    · rw [List.mem_singleton.mp h]
      show (deedsOf _ _ _ _).length ≤ 20
      have := manyOf_bd (cell cells (4 * k + 3))
      rw [deedsOf_len]; omega
theorem leanMarks_nil (ls : List Str) : leanMarks [] ls = [] := rfl
theorem leanMarks_snoc (fs : List Change) (f : Change) (ls : List Str) : leanMarks (fs ++ [f]) ls = leanMarks fs ls ++ (if decide (f.n ∈ ls) = true then marksOf f else []) := by
  unfold leanMarks
  rw [List.filter_append, List.flatMap_append, List.filter_cons, List.filter_nil]
  split
  · rw [List.flatMap_cons, List.flatMap_nil, List.append_nil]
  · rfl
theorem leanMarks_take {fs : List Change} {f : Change} {i : Nat} (h : fs[i]? = some f) (ls : List Str) : leanMarks (fs.take (i + 1)) ls = leanMarks (fs.take i) ls ++ (if decide (f.n ∈ ls) = true then marksOf f else []) := by
  rw [List.take_add_one, h]
  exact leanMarks_snoc _ _ _
theorem marksOf_len (f : Change) : (marksOf f).length = adds f.ds := by unfold marksOf; rw [List.length_map, List.length_range]
theorem leanMarks_len {fs : List Change} (ls : List Str) (h : ∀ f ∈ fs, f.ds.length ≤ 20) : (leanMarks fs ls).length ≤ 20 * fs.length := by
  induction fs with
  | nil => exact Nat.le_refl _
  | cons f r ih =>
    have ih := ih fun g hg => h g (List.mem_cons_of_mem _ hg)
    have hf := h f List.mem_cons_self
    have ha := adds_le f.ds
    unfold leanMarks at ih ⊢
    rw [List.filter_cons, List.length_cons]
    split
    · rw [List.flatMap_cons, List.length_append, marksOf_len]; omega
    · omega
theorem cell_at {cells : List Int} {j : Nat} (h : j < cells.length) {i : Int} (e : i = (j : Int)) : atI (cells.map PyData.int) i = some (.int (cell cells j)) := by
  rw [e]
  refine atI_nat ?_
  unfold cell
  rw [List.getElem?_map, List.getD_eq_getElem?_getD, List.getElem?_eq_getElem h]; rfl
end LW

set_option maxHeartbeats 4000000
namespace N14
variable [PD.TabC]
open PySem L2 PD PyProof.Rows LW
section
variable {P : Program} {w : World} {K : PySem.W.Frag} {mg : Str → Option Value} {base : Heap}
/-! ### _law_changes -/
abbrev sChanges : Stmt := topS 10
abbrev nChanges : List Str := ["_law_cells", "_law_most", "_law_found", "_law_taken", "_law_k", "_law_name_here", "_law_leans_here", "_law_marks_here", "_law_change", "_law_many"]
theorem scChanges : FnScope nChanges ["_law_cells", "_law_most"] (defScope sChanges) := ⟨rfl, rfl, rfl, by decide +kernel, rfl, by decide +kernel, by decide +kernel⟩
theorem ndChanges : (nChanges).Nodup := scChanges.nd
theorem loChanges : (["_law_cells", "_law_most", "_law_found", "_law_taken", "_law_k", "_law_name_here", "_law_leans_here", "_law_marks_here", "_law_change", "_law_many"] : List Str).all (locB (defScope sChanges)) = true := by decide +kernel
theorem glChanges : (["range", "min", "len", "_law_name", "_law_leans", "_law_marks", "_law_deeds"] : List Str).all (glB (defScope sChanges)) = true := by decide +kernel
def rChanges : List Sl → DOut → Prop := fun as o => ∃ (cells : List Int) (most : Int), as = [.bo (cells.map .int), .sh (.int most)] ∧ cells.length ≤ 100000 ∧ LW.chCount cells most ≤ 60 ∧ -(2 ^ 62) ≤ most ∧ o = .new ((LW.changesOf cells most).map LW.qC)
theorem okChanges {f : Addr} {fd : FuncData} (F : Fun K "_law_changes" "_law_changes" sChanges f fd) (T : Blt mg) (cName : Cal P w K mg base 2 "_law_name" 2 rName) (cLeans : Cal P w K mg base 2 "_law_leans" 2 rLeans) (cMarks : Cal P w K mg base 1 "_law_marks" 1 rMarks) (cDeeds : Cal P w K mg base 2 "_law_deeds" 4 rDeeds) : FnOk P w K mg base (L2N.CX P w) 3 f fd ["_law_cells", "_law_most"] (spD K 2 rChanges) := by
  refine fnD F scChanges (by decide) fun cdv A outer s H E as o hr hl hR => ?_
  obtain ⟨cells, most, rfl, hcl, hcnt, hmost, rfl⟩ := hR
  have hc : (cxOf (L2N.CX P w) P w K mg base nChanges "_law_changes" (defScope sChanges) f cdv A outer s H E).calm = true := rfl
  have tk : L2N.Takes (cxOf (L2N.CX P w) P w K mg base nChanges "_law_changes" (defScope sChanges) f cdv A outer s H E) (fun c d _ H' => E c d H') := L2N.takes_of rfl rfl rfl rfl
  have hcm : (cells.map PyData.int).length = cells.length := List.length_map _
  have hq : (0 : Int) ≤ (cells.length : Int) / 4 ∧ (cells.length : Int) / 4 * 4 ≤ cells.length := by omega
  refine sds_cons (sd_setL (i := 2) ndChanges rfl (loc_of loChanges 2) (.inl rfl) (el_lst (ds := []) ea_nil le_b) (fun r2 => ?_))
  refine sds_cons (sd_setL (i := 3) ndChanges rfl (loc_of loChanges 3) (.inl rfl) (el_lst (ds := [_]) (ea_d ed_str ea_nil) le_b) (fun r3 => ?_))
  refine sds_cons (sd_rng (fun i ρ => ∃ s4 s5 s6 s7 s8 s9, ρ = [.bo (cells.map .int), .sh (.int most), .ow r2 ((LW.chsAt cells i).1.map LW.qC), .ow r3 ((LW.chsAt cells i).2.map .str), s4, s5, s6, s7, s8, s9]) (L2.passes_of rfl) hc (j := 4) ndChanges rfl (loc_of loChanges 4) (.inl rfl) (gl_of glChanges 0) T.range (k := if most < (cells.length : Int) / 4 then most else (cells.length : Int) / 4) (ED.to (ed_min hc (ed_div (ed_len (EP'.rd (ep_v loChanges 0)) (gl_of glChanges 2) T.len) ed_int ⟨by decide, by decide⟩) (ed_v loChanges 1) (gl_of glChanges 1) T.min) (by rw [hcm])) (by constructor <;> split <;> omega) ⟨_, _, _, _, _, _, rfl⟩ (fun i ρ1 hi hI => ?_) (fun ρ1 hI => ?_))
  · obtain ⟨s4, s5, s6, s7, s8, s9, rfl⟩ := hI
    have hi60 : i < 60 := Nat.lt_of_lt_of_le hi hcnt
    have hi4 : 4 * i + 3 < cells.length := by
      have : ((if most < (cells.length : Int) / 4 then most else (cells.length : Int) / 4)) ≤ (cells.length : Int) / 4 := by split <;> omega
      omega
    obtain ⟨t1, t2, _⟩ := LW.chsAt_len cells i
    obtain ⟨ht, _⟩ := LW.chsAt_taken cells i (by omega)
    have hfd := LW.chsAt_ds cells i
    have hx1 : (LW.chsAt cells (i + 1)).1 = (LW.chsAt cells i).1 ++ [LW.chAt cells (LW.chsAt cells i).1 (LW.chsAt cells i).2 i] := rfl
    have hx2 : (LW.chsAt cells (i + 1)).2 = (LW.chsAt cells i).2 ++ [(LW.chAt cells (LW.chsAt cells i).1 (LW.chsAt cells i).2 i).n] := rfl
    rw [hx1, hx2]
    clear hx1 hx2
    generalize hfs : (LW.chsAt cells i).1 = fs at *
    generalize htk : (LW.chsAt cells i).2 = tkn at *
    have hfm : (fs.map LW.qC).length = fs.length := List.length_map _
    have htm : (tkn.map PyData.str).length = tkn.length := List.length_map _
    have hmb := LW.manyOf_bd (cell cells (4 * i + 3))
    refine sds_cons (sd_set (i := 5) (d := .str (LW.chAt cells fs tkn i).n) ndChanges rfl (loc_of loChanges 5) (.inl rfl) (ed_call cName (hr.mono (by decide)) (gl_of glChanges 3) tk (ea_d (ed_ixL (EP'.rd (ep_v loChanges 0)) (ed_mul ed_int (ed_v loChanges 4) (.inl ⟨by decide, by decide⟩)) (LW.cell_at (j := 4 * i) (by omega) (by omega))) (ea_b (eb_v loChanges 3) ea_nil)) rfl ⟨cell cells (4 * i), tkn, rfl, ht, rfl⟩) ?_)
    refine sds_cons (sd_app (i := 3) rfl (vis_of (loc_of loChanges 3)) rfl (ed_v loChanges 5) (by omega) ?_)
    refine sds_cons (sd_setL (i := 6) ndChanges rfl (loc_of loChanges 6) (.inl rfl) (EL.to (xs := (LW.chAt cells fs tkn i).ls.map .str) (el_call cLeans (hr.mono (by decide)) (gl_of glChanges 4) tk (ea_d (ed_ixL (EP'.rd (ep_v loChanges 0)) (ed_add (ed_mul ed_int (ed_v loChanges 4) (.inl ⟨by decide, by decide⟩)) ed_int) (LW.cell_at (j := 4 * i + 1) (by omega) (by omega))) (ea_b (eb_v loChanges 2) ea_nil)) rfl ⟨cell cells (4 * i + 1), fs, rfl, by omega, rfl⟩) rfl) (fun r6 => ?_))
    refine sds_frz (i := 6) rfl ?_
    refine sds_cons (sd_setL (i := 7) ndChanges rfl (loc_of loChanges 7) (.inl rfl) (el_lst (ds := []) ea_nil le_b) (fun r7 => ?_))
    refine sds_frz (i := 7) rfl ?_
    generalize hls : (LW.chAt cells fs tkn i).ls = ls
    refine sds_cons (sd_forO (i0 := 2) (l := r2) (ds := fs.map LW.qC) (fun k ρ => ∃ s8, ρ = [.bo (cells.map .int), .sh (.int most), .ow r2 (fs.map LW.qC), .ow r3 (tkn.map .str ++ [.str (LW.chAt cells fs tkn i).n]), .sh (.int (i : Nat)), .sh (.str (LW.chAt cells fs tkn i).n), .sh (.list (ls.map .str)), .sh (.list ((LW.leanMarks (fs.take k) ls).map LW.qMk)), s8, s9]) (L2.passes_of rfl) hc (j := 8) ndChanges rfl (loc_of loChanges 8) (.inl rfl) rfl (vis_of (loc_of loChanges 2)) rfl ⟨_, rfl⟩ (fun k ρ' hI => by obtain ⟨s8, rfl⟩ := hI; rfl) (fun k d ρ1 hk hI => ?_) (fun ρ1 hI => ?_))
    · obtain ⟨s8, rfl⟩ := hI
      rw [List.getElem?_map] at hk
      cases hx : fs[k]? with
      | none => rw [hx] at hk; cases hk
      | some x =>
      rw [hx] at hk
      cases hk
      have hkl : k < fs.length := (List.getElem?_eq_some_iff.mp hx).1
      have hxd := hfd x (List.mem_of_getElem? hx)
      have hle := LW.leanMarks_len (fs := fs.take k) ls fun g hg => hfd g (List.mem_of_mem_take hg)
      rw [List.length_take] at hle
      have hml := LW.marksOf_len x
      have hal := LW.adds_le x.ds
      rw [LW.leanMarks_take hx]
      refine sds_one (sd_if (et_inL (i := x.n) (zs := ls) (ed_ixT (ds := [.str x.n, _, _]) (ed_v loChanges 8) ed_int (atI_nat (j := 0) rfl)) (ED.rd (ed_v loChanges 6))) (fun hb => ?_) (fun hb => ?_))
      · rw [if_pos hb]
        refine sds_cons (sd_setL (i := 7) ndChanges rfl (loc_of loChanges 7) (.inl rfl) (EL.to (xs := (LW.leanMarks (fs.take k) ls ++ LW.marksOf x).map LW.qMk) (el_cat (ed_v loChanges 7) (EL.dat (el_call cMarks (hr.mono (by decide)) (gl_of glChanges 5) tk (ea_d (ed_v loChanges 8) ea_nil) rfl ⟨x, rfl, by omega, rfl⟩)) (by rw [List.length_map, List.length_map]; omega)) (by rw [List.map_append])) (fun r7 => ?_))
        exact sds_frz (i := 7) rfl (sds_nil ⟨_, rfl⟩)
      · rw [hb, if_neg Bool.false_ne_true, List.append_nil]
        exact sds_nil ⟨_, rfl⟩
    · obtain ⟨s8, rfl⟩ := hI
      rw [hfm, List.take_length]
      have hle := LW.leanMarks_len (fs := fs) ls hfd
      refine sds_cons (sd_set (i := 9) (d := .int (cell cells (4 * i + 3) % 5)) ndChanges rfl (loc_of loChanges 9) (.inl rfl) (ed_mod (ed_ixL (EP'.rd (ep_v loChanges 0)) (ed_add (ed_mul ed_int (ed_v loChanges 4) (.inl ⟨by decide, by decide⟩)) ed_int) (LW.cell_at (j := 4 * i + 3) (by omega) (by omega))) ed_int (by decide)) ?_)
      refine sds_cons (sd_ifsetD (i := 9) (d := .int (20 - cell cells (4 * i + 3) / 80 % 16)) (d1 := .int (LW.manyOf (cell cells (4 * i + 3)))) ndChanges rfl (loc_of loChanges 9) (.inl rfl) (et_c cd_eqI (ed_mod (ed_div (ed_ixL (EP'.rd (ep_v loChanges 0)) (ed_add (ed_mul ed_int (ed_v loChanges 4) (.inl ⟨by decide, by decide⟩)) ed_int) (LW.cell_at (j := 4 * i + 3) (by omega) (by omega))) ed_int ⟨by decide, by decide⟩) ed_int (by decide)) ed_int) rfl (fun _ => ed_sub ed_int (ed_mod (ed_div (ed_ixL (EP'.rd (ep_v loChanges 0)) (ed_add (ed_mul ed_int (ed_v loChanges 4) (.inl ⟨by decide, by decide⟩)) ed_int) (LW.cell_at (j := 4 * i + 3) (by omega) (by omega))) ed_int ⟨by decide, by decide⟩) ed_int (by decide))) (by unfold LW.manyOf; split <;> rfl) ?_)
      refine sds_one (sd_app (i := 2) rfl (vis_of (loc_of loChanges 2)) rfl (d := LW.qC (LW.chAt cells fs tkn i)) (ED.to (ed_tup (ds := [_, _, _]) (ea_d (ed_v loChanges 5) (ea_d (ed_v loChanges 6) (ea_d (EL.dat (el_call cDeeds (hr.mono (by decide)) (gl_of glChanges 6) tk (ea_d (ed_v loChanges 5) (ea_d (ed_ixL (EP'.rd (ep_v loChanges 0)) (ed_add (ed_mul ed_int (ed_v loChanges 4) (.inl ⟨by decide, by decide⟩)) ed_int) (LW.cell_at (j := 4 * i + 2) (by omega) (by omega))) (ea_d (ed_v loChanges 9) (ea_d (ed_v loChanges 7) ea_nil)))) rfl ⟨(LW.chAt cells fs tkn i).n, cell cells (4 * i + 2), LW.manyOf (cell cells (4 * i + 3)), LW.leanMarks fs ls, rfl, hmb.1, hmb.2, by omega, rfl⟩)) ea_nil))) le_b) (by rw [← hls]; rfl)) (by omega) ⟨.sh (.int (i : Nat)), .sh (.str (LW.chAt cells fs tkn i).n), .sh (.list (ls.map .str)), .sh (.list ((LW.leanMarks fs ls).map LW.qMk)), s8, .sh (.int (LW.manyOf (cell cells (4 * i + 3)))), ?_⟩)
      rw [List.map_append, List.map_append]; rfl
  · obtain ⟨s4, s5, s6, s7, s8, s9, rfl⟩ := hI
    exact sds_one (sd_retO (i := 2) rfl (vis_of (loc_of loChanges 2)) rfl rfl)

end
end N14

set_option maxHeartbeats 4000000
/-! a dict of one's own, its keys texts, its values data -/
namespace PD
open PySem L2
variable [PD.TabC]
section
variable {K : PySem.W.Frag} {B F F' H H' : Hp}
def KvIs (K : PySem.W.Frag) (F : Hp) : List (Key × V) → List (Str × PyData) → Prop := Paired fun a b => a.1 = .inr b.1 ∧ Is K F a.2 b.2
theorem KvIs.mono (x : Ex F F') : ∀ {vs : List (Key × V)} {kvs : List (Str × PyData)}, KvIs K F vs kvs → KvIs K F' vs kvs
  | _, _, .nil => .nil
  | _, _, .cons ⟨a, b⟩ t => .cons ⟨a, b.mono x⟩ (KvIs.mono x t)
theorem KvIs.len : ∀ {vs : List (Key × V)} {kvs : List (Str × PyData)}, KvIs K F vs kvs → vs.length = kvs.length
  | _, _, .nil => rfl
  | _, _, .cons _ t => congrArg (· + 1) (KvIs.len t)
/-- what stands at a key -/
def getD' (kvs : List (Str × PyData)) (k : Str) : Option PyData := (kvs.find? fun p => decide (p.1 = k)).map (·.2)
def hasD (kvs : List (Str × PyData)) (k : Str) : Bool := kvs.any fun p => decide (p.1 = k)
def putD (kvs : List (Str × PyData)) (k : Str) (d : PyData) : List (Str × PyData) := if hasD kvs k = true then kvs.map fun p => if p.1 = k then (p.1, d) else p else kvs ++ [(k, d)]
theorem getD'_has (kvs : List (Str × PyData)) (k : Str) : (getD' kvs k).isSome = hasD kvs k := by
  unfold getD' hasD
  induction kvs with
  | nil => rfl
  | cons p r ih =>
    rw [List.find?_cons, List.any_cons]
    cases h : decide (p.1 = k) with
    | true => rfl
    | false => simpa using ih
theorem KvIs.val : ∀ {vs : List (Key × V)} {kvs : List (Str × PyData)} (k : Str), KvIs K F vs kvs → (getD' kvs k = none ∧ valV vs (.inr k) = none) ∨ ∃ d v, getD' kvs k = some d ∧ valV vs (.inr k) = some v ∧ Is K F v d
  | _, _, k, .nil => .inl ⟨rfl, rfl⟩
  | a :: _, b :: r, k, .cons ⟨h1, h2⟩ t => by
    by_cases e : b.1 = k
    · refine .inr ⟨b.2, a.2, ?_, ?_, h2⟩
      · unfold getD'; rw [List.find?_cons, decide_eq_true e]; rfl
      · rw [valV_pos (by rw [h1, e])]
    · have e2 : ¬ a.1 = .inr k := fun q => e (by rw [h1] at q; exact Sum.inr.inj q)
      rw [valV_neg e2]
      have e3 : getD' (b :: r) k = getD' r k := by unfold getD'; rw [List.find?_cons, decide_eq_false e]
      rw [e3]
      exact KvIs.val k t
theorem KvIs.any : ∀ {vs : List (Key × V)} {kvs : List (Str × PyData)} (k : Str), KvIs K F vs kvs → (vs.any fun kv => decide (kv.1 = .inr k)) = hasD kvs k
  | _, _, k, .nil => rfl
  | a :: _, b :: _, k, .cons ⟨h1, h2⟩ t => by
    have ih := KvIs.any k t
    unfold hasD at ih ⊢
    rw [List.any_cons, List.any_cons, ih]
    congr 1
    rw [h1]
    by_cases e : b.1 = k
    · rw [decide_eq_true e, decide_eq_true (by rw [e])]
    · rw [decide_eq_false e, decide_eq_false fun q => e (Sum.inr.inj q)]
theorem KvIs.repl : ∀ {vs : List (Key × V)} {kvs : List (Str × PyData)} (k : Str) {v : V} {d : PyData}, KvIs K F vs kvs → Is K F v d → KvIs K F (vs.map fun kv => if kv.1 = .inr k then (kv.1, v) else kv) (kvs.map fun p => if p.1 = k then (p.1, d) else p)
  | _, _, k, _, _, .nil, _ => .nil
  | a :: _, b :: _, k, v, d, .cons ⟨h1, h2⟩ t, i => by
    refine .cons ?_ (KvIs.repl k t i)
    dsimp only
    by_cases e : b.1 = k
    · rw [if_pos e, if_pos (by rw [h1, e])]
      exact ⟨h1, i⟩
    · rw [if_neg e, if_neg fun q => e (by rw [h1] at q; exact Sum.inr.inj q)]
      exact ⟨h1, h2⟩
theorem KvIs.snoc : ∀ {vs : List (Key × V)} {kvs : List (Str × PyData)} (k : Str) {v : V} {d : PyData}, KvIs K F vs kvs → Is K F v d → KvIs K F (vs ++ [(.inr k, v)]) (kvs ++ [(k, d)])
  | _, _, k, _, _, .nil, i => .cons ⟨rfl, i⟩ .nil
  | _ :: _, _ :: _, k, v, d, .cons h t, i => .cons h (KvIs.snoc k t i)
theorem KvIs.put {vs : List (Key × V)} {kvs : List (Str × PyData)} (k : Str) {v : V} {d : PyData} (h : KvIs K F vs kvs) (i : Is K F v d) : KvIs K F (putK vs (.inr k) v) (putD kvs k d) := by
  unfold putK putD
  rw [h.any k]
  split
  · exact h.repl k i
  · exact h.snoc k i
/-- the slot -/
def od (K : PySem.W.Frag) (l : Addr) (kvs : List (Str × PyData)) : Sl := .rg [l] fun v F H => v = .ref l ∧ ∃ vs, H l = some (.dK vs) ∧ KvIs K F vs kvs
theorem od_ok {l : Addr} {kvs : List (Str × PyData)} {vs : List (Key × V)} (hf : F l = none) (hb : B l = none) (hh : H l = some (.dK vs)) (h : KvIs K F vs kvs) : SlOk K B F H (some (.ref l)) (od K l kvs) :=
  ⟨fun F' H' x y => ⟨rfl, vs, (y l (List.mem_singleton.mpr rfl)).trans hh, h.mono x⟩, fun a m => by
    rw [List.mem_singleton.mp m]
    exact ⟨hf, hb, .of hh⟩⟩
theorem En.od {σ : L2.St} {ρ : List Sl} (E : En K B F H σ ρ) {i : Nat} {l : Addr} {kvs : List (Str × PyData)} (h : ρ[i]? = some (od K l kvs)) : σ[i]? = some (some (.ref l)) ∧ F l = none ∧ B l = none ∧ ∃ vs, H l = some (.dK vs) ∧ KvIs K F vs kvs := by
  obtain ⟨o, e, ok⟩ := E.s i _ h
  cases o with
  | none => exact ok.elim
  | some v =>
    obtain ⟨q, m⟩ := ok
    obtain ⟨rfl, r⟩ := q F H (Ex.refl F) fun _ _ => rfl
    have m1 := m l (List.mem_singleton.mpr rfl)
    exact ⟨e, m1.1, m1.2.1, r⟩
/-- one's own dict is changed -/
theorem En.wrD {σ : L2.St} {ρ : List Sl} (E : En K B F H σ ρ) {i : Nat} {l : Addr} {kvs kvs' : List (Str × PyData)} {ws : List (Key × V)} (hi : ρ[i]? = some (PD.od K l kvs)) (a : KvIs K F ws kvs') :
    En K B F (upd H l (.dK ws)) σ (ρ.set i (PD.od K l kvs')) := by
  obtain ⟨e1, hf, hb, vs, hh, _⟩ := E.od hi
  refine ⟨E.i.mut hf, E.b.mut hb, fun j t e => ?_, fun x y t u b ea eb ha hb => ?_, E.t.ups ((Tb.refl H).mut hh)⟩
  · rcases set_at e with ⟨rfl, _, rfl⟩ | ⟨q, e⟩
    · exact ⟨_, e1, od_ok hf hb upd_same a⟩
    · obtain ⟨o2, e2, h2⟩ := E.s j t e
      refine ⟨o2, e2, h2.mut fun b hb => upd_ne fun z => ?_⟩
      rw [z] at hb
      exact q (E.d i j _ t l hi e (List.mem_singleton.mpr rfl) hb)
  · have back : ∀ (z : Nat) (s : Sl), (ρ.set i (PD.od K l kvs'))[z]? = some s → b ∈ s.fp → ∃ s2, ρ[z]? = some s2 ∧ b ∈ s2.fp := fun z s e m => by
      rcases set_at e with ⟨rfl, _, rfl⟩ | ⟨_, e⟩
      · exact ⟨_, hi, m⟩
      · exact ⟨s, e, m⟩
    obtain ⟨s1, h1, m1⟩ := back x t ea ha
    obtain ⟨s2, h2, m2⟩ := back y u eb hb
    exact E.d x y s1 s2 b h1 h2 m1 m2
end
section
variable {X : Cx} {W : WX} {ex : Addr → Prop} {ρ : List Sl} {e a b : Expr} {d : PyData} {kvs : List (Str × PyData)} {T : De} {pos p p2 spos : Pos} {n : Str} {i : Nat} {l : Addr} {k : Str}
/-- x = {} -/
theorem sd_dnew (nd : X.N.Nodup) (hN : X.N[i]? = some n) (hl : Loc X.env.scope n) (hfn : X.fn n = true ∨ X.env.scope.names.lookup n = some .local) (q : ∀ r, T.nx (ρ.set i (od X.K r [])))
    (hw : swapsWith (.Dict [] [] p2) (some (.Name n p)) pos.line X.env = pure false := by rfl) : SD X W (.Assign [.Name n p] (.Dict [] [] p2) pos) ρ T := fun F0 H0 F H σ D s lk =>
  w_s (ps_set nd hN hl pe_dnewK hw hfn) (fun r hr => by
    have x1 : Ext F H F (upd H r (.dK [])) := Ext.kept s.e.i hr
    have hF : F r = none := s.e.i.back hr
    refine lk.nx _ _ F _ (q r) ⟨s.x.trans x1, (s.e.ext x1).set_ (o := some (.ref r)) (od_ok hF (s.e.b.back hr) upd_same .nil) fun j t c ej hc ht => ?_⟩
    obtain ⟨o, _, h2⟩ := s.e.s j _ ej
    rw [List.mem_singleton.mp hc] at ht
    exact absurd hr (h2.held ht).2.2.ne)
/-- x[k] = e -/
theorem sd_dput (hu : X.A.units + 1 < cLine) (hN : X.N[i]? = some n) (hv : Vis X.env.scope n) (hi : ρ[i]? = some (od X.K l kvs)) (h : ED X W (fun C => T.ex C ρ) e ρ d) (hk : ED X W (fun C => T.ex C ρ) a ρ (.str k)) (hz : kvs.length < 100000) (q : T.nx (ρ.set i (od X.K l (putD kvs k d))))
    (hd : (n == ("__debug__" : Str)) = false := by decide) (hcd : (n == ("__classdict__" : Str)) = false := by decide) (hs : swapsWith e (some (.Subscript (.Name n p2) a p)) pos.line X.env = pure false := by rfl) :
    SD X W (.Assign [.Subscript (.Name n p2) a p] e pos) ρ T := fun F0 H0 F H σ D s lk =>
  w_s (ps_dput hu (pe_var hN hv hd hcd) pe_w pe_w hs) (h H0 F H σ _ s.e (lk.xc s) fun v F1 H1 x1 i1 => by
    have s1 := s.go x1
    obtain ⟨e1, _, _, vs, hh, kv⟩ := s1.e.od hi
    refine ⟨_, e1, hk H0 F1 H1 σ _ s1.e (lk.xc s1) fun y F2 H2 x2 i2 => ?_⟩
    have s2 := s1.go x2
    obtain ⟨_, _, _, vs2, hh2, kv2⟩ := s2.e.od hi
    have i3 := i1.mono x2.f
    rw [i2.str_eq]
    refine ⟨l, _, rfl, DPut.k (k := .inr k) hh2 (by rw [kv2.len]; exact Nat.lt_of_lt_of_le hz (by decide)), lk.nx _ σ F2 _ q ⟨?_, s2.e.wrD hi (kv2.put k i3)⟩⟩
    exact ⟨s2.x.f, s2.x.h.mut ((s2.e.od hi).2.2.1), s2.x.i.mut ((s2.e.od hi).2.1), s2.x.n, s2.x.t.mut hh2⟩)
/-- a dict that can be read -/
def EDr (X : Cx) (W : WX) (ex : Addr → Prop) (e : Expr) (ρ : List Sl) (kvs : List (Str × PyData)) : Prop := ∀ B F H σ (Q : VK), En X.K B F H σ ρ → Xc W ex F H σ → (∀ l vs F' H', Ext F H F' H' → H' l = some (.dK vs) → KvIs X.K F' vs kvs → Q (.ref l) H') → WE X e σ H Q
theorem edr_o (hN : X.N[i]? = some n) (hv : Vis X.env.scope n) (hi : ρ[i]? = some (od X.K l kvs)) (hd : (n == ("__debug__" : Str)) = false := by decide) (hcd : (n == ("__classdict__" : Str)) = false := by decide) : EDr X W ex (.Name n pos) ρ kvs := fun B F H σ Q E _ q => by
  obtain ⟨e1, _, _, vs, hh, kv⟩ := E.od hi
  exact w_e (pe_var hN hv hd hcd) ⟨_, e1, q l vs F H (Ext.refl E.i) hh kv⟩
/-- the caller's dict, as it stood -/
def bd (K : PySem.W.Frag) (kvs : List (Str × PyData)) : Sl := .rb fun v F H => ∃ l vs, v = .ref l ∧ H l = some (.dK vs) ∧ KvIs K F vs kvs
theorem edr_b (hN : X.N[i]? = some n) (hv : Vis X.env.scope n) (hi : ρ[i]? = some (bd X.K kvs)) (hd : (n == ("__debug__" : Str)) = false := by decide) (hcd : (n == ("__classdict__" : Str)) = false := by decide) : EDr X W ex (.Name n pos) ρ kvs := fun B F H σ Q E _ q => by
  obtain ⟨o, e1, ok⟩ := E.s i _ hi
  cases o with
  | none => exact ok.elim
  | some v =>
    obtain ⟨l, vs, rfl, hh, kv⟩ := ok F H (Ex.refl F) E.b
    exact w_e (pe_var hN hv hd hcd) ⟨_, e1, q l vs F H (Ext.refl E.i) hh kv⟩
/-- as an argument -/
theorem ea_rd {es : List Expr} {as : List Sl} (h : EDr X W ex e ρ kvs) (r : EA X W ex es ρ as) (hs : starEach (e :: es) X.env = (false, eval e X.env) :: starEach es X.env := by rfl) : EA X W ex (e :: es) ρ (bd X.K kvs :: as) := fun B F H σ Q E c q =>
  w_a (pa_cons pe_w pa_w hs) (h B F H σ _ E c fun l vs F1 H1 x1 h1 kv => r B F1 H1 σ _ (E.ext x1) (c.ext x1) fun vs2 F2 H2 x2 a2 => q _ F2 H2 (x1.trans x2) (.cons (fun F' H' x y => ⟨l, vs, rfl, y.g (x2.h.g h1), kv.mono (x2.f.trans x)⟩) a2))
/-- x[k] -/
theorem ed_dget (hu : X.A.units + 1 < cLine) (h : EDr X W ex a ρ kvs) (hk : ED X W ex b ρ (.str k)) (hg : getD' kvs k = some d) (hs : NoSl b := by exact fun _ _ => rfl) : ED X W ex (.Subscript a b pos) ρ d := fun B F H σ Q E c q =>
  w_e (pe_dget hu pe_w pe_w hs) (h B F H σ _ E c fun l vs F1 H1 x1 h1 kv => hk B F1 H1 σ _ (E.ext x1) (c.ext x1) fun y F2 H2 x2 i2 => by
    rcases kv.val k with ⟨g, _⟩ | ⟨d', v, g, hv, iv⟩
    · rw [hg] at g; cases g
    · rw [hg] at g
      cases g
      rw [i2.str_eq]
      refine ⟨l, v, rfl, ?_, q v F2 H2 (x1.trans x2) (iv.mono x2.f)⟩
      have := DGet.k (k := .inr k) (x2.h.g h1)
      rw [hv] at this
      exact this)
theorem dget_of {l : Addr} {vs : List (Key × V)} {H : Hp} {F : Hp} (h : H l = some (.dK vs)) (kv : KvIs X.K F vs kvs) : ∃ o, DGet H l (.str k) o ∧ o.isSome = hasD kvs k := by
  refine ⟨_, DGet.k (k := .inr k) h, ?_⟩
  rw [← getD'_has]
  rcases kv.val k with ⟨g, hv⟩ | ⟨d', v, g, hv, _⟩ <;> rw [g, hv] <;> rfl
/-- k in x -/
theorem et_din (hu : X.A.units + 1 < cLine) (hk : ED X W ex a ρ (.str k)) (h : EDr X W ex b ρ kvs) (hm : behindInMarks .In b = false := by rfl) : ET X W ex (.Compare a [.In] [b] pos) ρ (hasD kvs k) := fun B F H σ Q E c q =>
  w_t (pt_cmp (pc_din hu pe_w pe_w) hm) (hk B F H σ _ E c fun y F1 H1 x1 i1 => h B F1 H1 σ _ (E.ext x1) (c.ext x1) fun l vs F2 H2 x2 h2 kv => by
    obtain ⟨o, g, e⟩ := dget_of (k := k) h2 kv
    rw [i1.str_eq]
    exact ⟨l, o, rfl, g, _, rfl, e ▸ q F2 H2 (x1.trans x2)⟩)
theorem et_dnin (hu : X.A.units + 1 < cLine) (hk : ED X W ex a ρ (.str k)) (h : EDr X W ex b ρ kvs) (hm : behindInMarks .NotIn b = false := by rfl) : ET X W ex (.Compare a [.NotIn] [b] pos) ρ (!hasD kvs k) := fun B F H σ Q E c q =>
  w_t (pt_cmp (pc_dnotin hu pe_w pe_w) hm) (hk B F H σ _ E c fun y F1 H1 x1 i1 => h B F1 H1 σ _ (E.ext x1) (c.ext x1) fun l vs F2 H2 x2 h2 kv => by
    obtain ⟨o, g, e⟩ := dget_of (k := k) h2 kv
    rw [i1.str_eq]
    exact ⟨l, o, rfl, g, _, rfl, e ▸ q F2 H2 (x1.trans x2)⟩)
theorem ed_din (hu : X.A.units + 1 < cLine) (hk : ED X W ex a ρ (.str k)) (h : EDr X W ex b ρ kvs) (hm : behindInMarks .In b = false := by rfl) : ED X W ex (.Compare a [.In] [b] pos) ρ (.bool (hasD kvs k)) := fun B F H σ Q E c q =>
  w_e (pe_cmp (pc_din hu pe_w pe_w) hm) (hk B F H σ _ E c fun y F1 H1 x1 i1 => h B F1 H1 σ _ (E.ext x1) (c.ext x1) fun l vs F2 H2 x2 h2 kv => by
    obtain ⟨o, g, e⟩ := dget_of (k := k) h2 kv
    rw [i1.str_eq]
    exact ⟨l, o, rfl, g, e ▸ q _ F2 H2 (x1.trans x2) (.bl _)⟩)
end
end PD

set_option maxHeartbeats 4000000
namespace PD
open PySem L2
variable [PD.TabC]
section
variable {X : Cx} {W : WX} {ρ : List Sl} {e a : Expr} {d : PyData} {ds : List PyData} {T : De} {pos p p2 : Pos} {n : Str} {i : Nat} {r : Addr} {k : Int} {j : Nat}
theorem ix_nat {n j : Nat} (h : j < n) : ixN n (j : Int) = some j := by
  unfold ixN
  rw [if_pos (by omega), if_pos (by omega), Int.toNat_natCast]
/-- x[k] = e, x a list of one's own -/
theorem sd_setix (hN : X.N[i]? = some n) (hv : Vis X.env.scope n) (hi : ρ[i]? = some (.ow r ds)) (h : ED X W (fun C => T.ex C ρ) e ρ d) (hk : ED X W (fun C => T.ex C ρ) a ρ (.int k)) (hix : ixN ds.length k = some j) (q : T.nx (ρ.set i (.ow r (ds.set j d))))
    (hd : (n == ("__debug__" : Str)) = false := by decide) (hcd : (n == ("__classdict__" : Str)) = false := by decide) (h1 : swapsWithSole [.Subscript (.Name n p2) a p] e pos.line X.env = pure false := by rfl) (h2 : swappedStores [.Subscript (.Name n p2) a p] e X.env = pure none := by rfl)
    (ha : ∀ v, assign (.Subscript (.Name n p2) a p) X.env v = (do
      let ov ← holding [v] (eval (.Name n p2) X.env)
      let iv ← holding [v, ov] (eval a X.env)
      standAt p
      holding [v, ov, iv] (setItem ov iv v)
      release [v, ov, iv] []) := by intro _; rfl)
    (h3 : (assignEach [.Subscript (.Name n p2) a p] X.env).map (·.2) = [assign (.Subscript (.Name n p2) a p) X.env] := by rfl) : SD X W (.Assign [.Subscript (.Name n p2) a p] e pos) ρ T := fun F0 H0 F H σ D s lk =>
  w_s (ps_asg pe_w (pg_sub (pe_var hN hv hd hcd) pe_w set_list ha) h1 h2 h3) (h H0 F H σ _ s.e (lk.xc s) fun v F1 H1 x1 i1 => by
    have s1 := s.go x1
    have rd : ∀ {F' H' : Hp}, S2 X.K F0 H0 F' H' σ ρ → σ[i]? = some (some (.ref r)) ∧ ∃ vs, H' r = some (.lst vs) ∧ IsAll X.K F' vs ds ∧ F' r = none ∧ H0 r = none := fun s' => by
      obtain ⟨o, e1, ok⟩ := s'.e.s i _ hi
      cases o with
      | none => exact ok.elim
      | some v =>
        obtain ⟨rfl, hf, hb, vs, hh, ia⟩ := ok
        exact ⟨e1, vs, hh, ia, hf, hb⟩
    refine ⟨_, (rd s1).1, hk H0 F1 H1 σ _ s1.e (lk.xc s1) fun y F2 H2 x2 i2 => ?_⟩
    have s2 := s1.go x2
    obtain ⟨_, vs, hh, ia, hf, hb⟩ := rd s2
    refine ⟨r, vs, k, j, rfl, i2.int_eq, hh, by rw [ia.len]; exact hix, lk.nx _ σ F2 _ q ⟨⟨s2.x.f, s2.x.h.mut hb, s2.x.i.mut hf, s2.x.n, s2.x.t.mut hh⟩, s2.e.wr hi (IsAll.set j ia (i1.mono x2.f))⟩⟩)
end
section
variable {X : Cx} {W : WX} {ex : Addr → Prop} {ρ : List Sl} {kvs : List (Str × PyData)} {pos : Pos} {n : Str} {l : Addr} {sc : Scope} {ns : List Str}
/-! dicts by the def's names -/
theorem edo_v (lo : ns.all (locB sc) = true) (i : Nat) (hN : X.N[i]? = some n := by rfl) (hn : ns[i]? = some n := by rfl) (hs : ρ[i]? = some (od X.K l kvs) := by rfl) (hsc : X.env.scope = sc := by rfl) (hd : (n == ("__debug__" : Str)) = false := by decide) (hcd : (n == ("__classdict__" : Str)) = false := by decide) : EDr X W ex (.Name n pos) ρ kvs :=
  edr_o hN (by rw [hsc]; exact vis_of (loc_of lo i hn)) hs hd hcd
theorem edb_v (lo : ns.all (locB sc) = true) (i : Nat) (hN : X.N[i]? = some n := by rfl) (hn : ns[i]? = some n := by rfl) (hs : ρ[i]? = some (bd X.K kvs) := by rfl) (hsc : X.env.scope = sc := by rfl) (hd : (n == ("__debug__" : Str)) = false := by decide) (hcd : (n == ("__classdict__" : Str)) = false := by decide) : EDr X W ex (.Name n pos) ρ kvs :=
  edr_b hN (by rw [hsc]; exact vis_of (loc_of lo i hn)) hs hd hcd
end
section
variable {X : Cx} {W : WX} {ex : Addr → Prop} {ρ : List Sl} {kvs : List (Str × PyData)} {pos : Pos} {n : Str} {l : Addr} {s : Shared} {H : Hp} {scope : Scope} {C : Addr} {cl : List (Str × Addr)} {fp : List Addr}
/-! .. in a block -/
theorem edo_b (i : Nat) (hN : X.N[i]? = some n := by rfl) (hv : scope.names.lookup n = some .local ∨ scope.names.lookup n = some .cell ∨ scope.names.lookup n = some .free := by first | exact .inl rfl | exact .inr (.inr rfl) | exact .inr (.inl rfl)) (hs : ρ[i]? = some (od X.K l kvs) := by rfl)
    (hd : (n == ("__debug__" : Str)) = false := by decide) (hcd : (n == ("__classdict__" : Str)) = false := by decide) : EDr (X.blk s H scope (compEnvC scope cl C X.env) fp) W ex (.Name n pos) ρ kvs := edr_o hN (vis_rel (env := X.env) hv) hs hd hcd
theorem edb_b (i : Nat) (hN : X.N[i]? = some n := by rfl) (hv : scope.names.lookup n = some .local ∨ scope.names.lookup n = some .cell ∨ scope.names.lookup n = some .free := by first | exact .inl rfl | exact .inr (.inr rfl) | exact .inr (.inl rfl)) (hs : ρ[i]? = some (bd X.K kvs) := by rfl)
    (hd : (n == ("__debug__" : Str)) = false := by decide) (hcd : (n == ("__classdict__" : Str)) = false := by decide) : EDr (X.blk s H scope (compEnvC scope cl C X.env) fp) W ex (.Name n pos) ρ kvs := edr_b hN (vis_rel (env := X.env) hv) hs hd hcd
end
end PD

set_option maxHeartbeats 4000000
namespace LW
open PySem L2 PD PyProof.Rows
variable [PD.TabC]
/-! many cells, mixed of few -/
def wideAt (cells : List Int) (flag : Int) (j : Nat) : Int :=
  if (decide ((j : Int) % 4 = 1) && decide (flag / 12 % 2 = 1)) = true then mixed (cell cells (j % cells.length)) (j : Int) / 7 * 7 + 3 else mixed (cell cells (j % cells.length)) (j : Int)
def isWide (cells : List Int) (flag : Int) : Bool := !(decide ((cells.length : Int) < 4) || !decide (flag % 12 = 5))
def wideN (flag most : Int) : Int := 4 * (most + flag / 12 % (61 - most))
def wideOf (cells : List Int) (flag most : Int) : List Int := if isWide cells flag = true then (List.range (wideN flag most).toNat).map (wideAt cells flag) else cells
theorem wideN_bd (flag : Int) {most : Int} (h0 : 0 ≤ most) (h : most ≤ 60) : 0 ≤ wideN flag most ∧ wideN flag most ≤ 240 := by
  have a := Int.emod_nonneg (flag / 12) (show (61 - most) ≠ 0 by omega)
  have b := Int.emod_lt_of_pos (flag / 12) (show (0 : Int) < 61 - most by omega)
  unfold wideN
  omega
end LW

set_option maxHeartbeats 4000000
namespace N14
variable [PD.TabC]
open PySem L2 PD PyProof.Rows LW
section
variable {P : Program} {w : World} {K : PySem.W.Frag} {mg : Str → Option Value} {base : Heap}
/-! ### _law_wide -/
abbrev sWide : Stmt := topS 19
abbrev nWide : List Str := ["_law_cells", "_law_flag", "_law_most", "_law_found", "_law_j"]
theorem scWide : FnScope nWide ["_law_cells", "_law_flag", "_law_most"] (defScope sWide) := ⟨rfl, rfl, rfl, by decide +kernel, rfl, by decide +kernel, by decide +kernel⟩
theorem ndWide : (nWide).Nodup := scWide.nd
theorem loWide : (["_law_cells", "_law_flag", "_law_most", "_law_found", "_law_j"] : List Str).all (locB (defScope sWide)) = true := by decide +kernel
theorem glWide : (["len", "range", "_law_mixed"] : List Str).all (glB (defScope sWide)) = true := by decide +kernel
def rWide : List Sl → DOut → Prop := fun as o => ∃ (cells : List Int) (flag most : Int), as = [.sh (.list (cells.map .int)), .sh (.int flag), .sh (.int most)] ∧ 0 ≤ most ∧ most ≤ 60 ∧ o = .val (.list ((LW.wideOf cells flag most).map .int))
theorem okWide {f : Addr} {fd : FuncData} (F : Fun K "_law_wide" "_law_wide" sWide f fd) (T : Blt mg) (cMixed : Cal P w K mg base 1 "_law_mixed" 2 rMixed) : FnOk P w K mg base (L2N.CX P w) 2 f fd ["_law_cells", "_law_flag", "_law_most"] (spD K 3 rWide) := by
  refine fnD F scWide (by decide) fun cdv A outer s H E as o hr hl hR => ?_
  obtain ⟨cells, flag, most, rfl, hm0, hm1, rfl⟩ := hR
  have hc : (cxOf (L2N.CX P w) P w K mg base nWide "_law_wide" (defScope sWide) f cdv A outer s H E).calm = true := rfl
  have tk : L2N.Takes (cxOf (L2N.CX P w) P w K mg base nWide "_law_wide" (defScope sWide) f cdv A outer s H E) (fun c d _ H' => E c d H') := L2N.takes_of rfl rfl rfl rfl
  have hcm : (cells.map PyData.int).length = cells.length := List.length_map _
  have hw := LW.wideN_bd flag hm0 hm1
  refine sds_cons (sd_if (et_w (ew_or (et_c cd_lt (ed_len (ED.rd (ed_v loWide 0)) (gl_of glWide 0) T.len) ed_int) (fun _ => ew_or1 (et_c cd_neI (ed_mod (ed_v loWide 1) ed_int (by decide)) ed_int)))) (fun hb => ?_) (fun hb => ?_))
  · rw [hcm] at hb
    have e : LW.wideOf cells flag most = cells := by unfold LW.wideOf LW.isWide; rw [hb]; rfl
    rw [e]
    exact sds_one (sd_ret (ed_v loWide 0) rfl)
  · rw [hcm] at hb
    have hwide : LW.isWide cells flag = true := by unfold LW.isWide; rw [hb]; rfl
    have e : LW.wideOf cells flag most = (List.range (LW.wideN flag most).toNat).map (LW.wideAt cells flag) := by unfold LW.wideOf; rw [if_pos hwide]
    have hcl : 4 ≤ cells.length := by
      rw [Bool.or_eq_false_iff] at hb
      have : ¬ (cells.length : Int) < 4 := by simpa using hb.1
      omega
    rw [e]
    refine sds_nil ?_
    refine sds_cons (sd_setL (i := 3) ndWide rfl (loc_of loWide 3) (.inl rfl) (el_lst (ds := []) ea_nil le_b) (fun r3 => ?_))
    refine sds_cons (sd_rng (fun i ρ => ∃ s4, ρ = [.sh (.list (cells.map .int)), .sh (.int flag), .sh (.int most), .ow r3 (((List.range i).map (LW.wideAt cells flag)).map .int), s4]) (L2.passes_of rfl) hc (j := 4) ndWide rfl (loc_of loWide 4) (.inl rfl) (gl_of glWide 1) T.range (k := LW.wideN flag most) (ed_mul ed_int (ed_add (ed_v loWide 2) (ed_mod (ed_div (ed_v loWide 1) ed_int ⟨by decide, by decide⟩) (ed_sub ed_int (ed_v loWide 2)) (by omega))) (.inl ⟨by decide, by decide⟩)) (by omega) ⟨_, rfl⟩ (fun i ρ1 hi hI => ?_) (fun ρ1 hI => ?_))
    · obtain ⟨s4, rfl⟩ := hI
      have hil : i < 240 := by omega
      have hml : (((List.range i).map (LW.wideAt cells flag)).map PyData.int).length = i := by rw [List.length_map, List.length_map, List.length_range]
      have hmod : i % cells.length < cells.length := Nat.mod_lt _ (by omega)
      refine sds_cons (sd_app (i := 3) rfl (vis_of (loc_of loWide 3)) rfl (d := .int (mixed (cell cells (i % cells.length)) (i : Int))) (ed_call cMixed (hr.mono (by decide)) (gl_of glWide 2) tk (ea_d (ed_ixL (d := .int (cell cells (i % cells.length))) (ED.rd (ed_v loWide 0)) (ed_mod (ed_v loWide 4) (ed_len (ED.rd (ed_v loWide 0)) (gl_of glWide 0) T.len) (by omega)) (LW.cell_at hmod (by rw [hcm]; exact (Int.natCast_emod i cells.length).symm))) (ea_d (ed_v loWide 4) ea_nil)) rfl ⟨_, _, rfl, rfl⟩) (by omega) ?_)
      refine sds_one (sd_if (et_w (ew_and (et_c cd_eqI (ed_mod (ed_v loWide 4) ed_int (by decide)) ed_int) (fun _ => ew_and1 (et_c cd_eqI (ed_mod (ed_div (ed_v loWide 1) ed_int ⟨by decide, by decide⟩) ed_int (by decide)) ed_int)))) (fun hb => ?_) (fun hb => ?_))
      · refine sds_one (sd_setix (i := 3) (j := i) (d := .int (mixed (cell cells (i % cells.length)) (i : Int) / 7 * 7 + 3)) rfl (vis_of (loc_of loWide 3)) rfl (ed_add (ed_mul (ed_div (ed_ixL (d := .int (mixed (cell cells (i % cells.length)) (i : Int))) (eb_v loWide 3) (ed_v loWide 4) (atI_nat (j := i) ?_)) ed_int ⟨by decide, by decide⟩) ed_int (.inr ⟨by decide, by decide⟩)) ed_int) (ed_v loWide 4) (ix_nat (by rw [List.length_append, hml]; exact Nat.lt_succ_self i)) ⟨.sh (.int (i : Nat)), ?_⟩)
        · rw [List.getElem?_append_right (by omega), hml, Nat.sub_self]; rfl
        · have ew : LW.wideAt cells flag i = mixed (cell cells (i % cells.length)) (i : Int) / 7 * 7 + 3 := by unfold LW.wideAt; rw [if_pos hb]
          have es : ((((List.range i).map (LW.wideAt cells flag)).map PyData.int) ++ [PyData.int (mixed (cell cells (i % cells.length)) (i : Int))]).set i (.int (mixed (cell cells (i % cells.length)) (i : Int) / 7 * 7 + 3)) = ((List.range (i + 1)).map (LW.wideAt cells flag)).map PyData.int := by
            rw [List.set_append_right _ _ (by omega), hml, Nat.sub_self, List.range_succ, List.map_append, List.map_append, ← ew]; rfl
          rw [← es]; rfl
      · refine sds_nil ⟨.sh (.int (i : Nat)), ?_⟩
        have ew : LW.wideAt cells flag i = mixed (cell cells (i % cells.length)) (i : Int) := by unfold LW.wideAt; rw [hb, if_neg Bool.false_ne_true]
        rw [List.range_succ, List.map_append, List.map_append]
        show _ = [_, _, _, Sl.ow r3 (_ ++ [PyData.int (LW.wideAt cells flag i)]), _]
        rw [ew]; rfl
    · obtain ⟨s4, rfl⟩ := hI
      exact sds_frz (i := 3) rfl (sds_one (sd_ret (ed_v loWide 3) rfl))

end
end N14

set_option maxHeartbeats 4000000
namespace PD
open PySem PySem.Spec PyProof.Rows L2
variable [PD.TabC]
/-! ### try, where nothing is raised -/
section
variable {X : Cx} {W : WX} {body : List Stmt} {h0 : ExceptHandler} {hds : List ExceptHandler} {pos : Pos} {ρ : List Sl} {T : De} {tb : WX → TS}
theorem ps_tryQ (hf : X.env.frame = some X.env.locals)
    (hb : ∀ (W : WX) (pn : List (Addr × Obj)) (xe : Value → Shared → Prop), L2N.Takes (X.tr pn xe) W → PassesOwn (model X.prog X.w) X.A X.env xe → PSs (X.tr pn xe) body (tb W)) :
    PS X (.Try body (h0 :: hds) [] [] pos) (fun D σ H => tb (fun _ _ _ _ => False) D σ H) := by
  refine ⟨fun pins s σ H D I q0 => ?_⟩
  have ok := I.ok
  refine wpAny_Try_except ?_
  let catch_ : Value → Shared → Prop := fun e s1 => wpAny (model X.prog X.w) X.A (noteFrame e X.env) (fun _ s2 => wpAny (model X.prog X.w) X.A (setFlight e none) (fun _ s3 => wpAny (model X.prog X.w) X.A (handleBy e X.env (h0 :: hds)) (SP X pins D) X.xe s3) X.xe s2) X.xe s1
  refine wpAny_mono ((hb (fun _ _ _ _ => False) (X.pn ++ pins) catch_ (fun u s' xx => ?_) PassesOwn.looking).run [] s σ H D (I.toTry _) q0) (fun f s1 hsp => ?_) (fun e s1 he => he)
  · obtain ⟨a, B, sI, pins', σ', H', cls, d, rfl, J', nb, up, sky, na, os, ag, wish⟩ := xx
    exact wish.elim
  · cases f with
    | next => obtain ⟨σ', H', J', q⟩ := hsp; exact wpAny_execs_nil ⟨σ', H', J'.ofTry ok, q⟩
    | brk => obtain ⟨σ', H', J', q⟩ := hsp; exact ⟨σ', H', J'.ofTry ok, q⟩
    | cont => obtain ⟨σ', H', J', q⟩ := hsp; exact ⟨σ', H', J'.ofTry ok, q⟩
    | ret u => obtain ⟨v, σ', H', J', r, q⟩ := hsp; exact ⟨v, σ', H', J'.ofTry ok, r, q⟩
theorem sd_tryQ (hf : X.env.frame = some X.env.locals)
    (hb : ∀ (W0 : WX) (pn : List (Addr × Obj)) (xe : Value → Shared → Prop), L2N.Takes (X.tr pn xe) W0 → PassesOwn (model X.prog X.w) X.A X.env xe → SDs (X.tr pn xe) W0 body ρ { T with ex := fun _ _ => False }) : SD X W (.Try body (h0 :: hds) [] [] pos) ρ T := fun F0 H0 F H σ D s l =>
  w_s (ps_tryQ (tb := fun W0 D σ H => ∀ pn xe, L2N.Takes (X.tr pn xe) W0 → PassesOwn (model X.prog X.w) X.A X.env xe → WSs (X.tr pn xe) body D σ H) hf (fun W0 pn xe tk po => ⟨fun pins s1 σ1 H1 D1 I1 q => q pn xe tk po pins s1 I1⟩))
    fun pn xe tk po => hb _ pn xe tk po F0 H0 F H σ D s ⟨l.nx, l.rt, l.rl, l.bk, l.ct, fun C ρ1 σ1 F1 H1 e s1 => e.elim, l.ro⟩
end
/-! ### kinds -/
def tyN : PyData → String
  | .none => "NoneType"
  | .bool _ => "bool"
  | .int _ => "int"
  | .str _ => "str"
  | .list _ => "list"
  | .tuple _ => "tuple"
  | _ => ""
theorem Is.ty {K : PySem.W.Frag} {F H : Hp} (i : Ex F H) : ∀ {v : V} {d : PyData}, Is K F v d → TyX K H v (.type (tyN d))
  | _, _, .non => .base .non
  | _, _, .bl b => .base (.bl b)
  | _, _, .int n => .base (.int n)
  | _, _, .str x => .base (.str x)
  | _, _, .lst h _ => .base (.lst (i.g h))
  | _, _, .tup h _ => .base (.tup (i.g h))
section
variable {X : Cx} {W : WX} {ex : Addr → Prop} {e a b o : Expr} {es : List Expr} {ρ : List Sl} {d x y : PyData} {ds xs ys : List PyData} {pos p p2 apos : Pos} {T : De}
/-- isinstance(e, T), T a class of the language -/
theorem ed_kind {c : Str} {t : String} {k : Bool} (ha : ED X W ex a ρ d) (hk : kitB (tyN d) t = some k) (hg : Gl X ("isinstance" : Str)) (hm : X.mg ("isinstance" : Str) = none) (hg2 : Gl X c) (hm2 : X.mg c = none) (hv : bootBuiltins c = some (.type t)) (hn : c ≠ "__name__" := by decide) (hdb : (c == ("__debug__" : Str)) = false := by decide)
    (hs : starEach [a, .Name c p2] X.env = (false, eval a X.env) :: starEach [.Name c p2] X.env := by rfl) (hs2 : starEach [.Name c p2] X.env = [(false, eval (.Name c p2) X.env)] := by rfl) (hz : (backTo pos (starEach [.Name c p2] X.env)).any (·.1) = false := by rfl) : ED X W ex (.Call (.Name "isinstance" p) [a, .Name c p2] [] pos) ρ (.bool k) := fun B F H σ Q E c q =>
  w_e (pe_callB call_isi hg hm (by decide +kernel) (pa_cons pe_w (pa_cons (pe_bltn (v := .ty t) hg2 hm2 hv rfl hn hdb) pa_nil hs2) hs) (by decide) (by decide) hs hz)
    (ha B F H σ _ E c fun v F1 H1 x1 i1 => ⟨v, .ty t, .type (tyN d), .type t, k, rfl, .ty t, i1.ty x1.i, kit_ty hk, q _ F1 H1 x1 (.bl _)⟩)
/-! ### tuples -/
theorem ed_cutT {lo hi : Option Expr} {l u : Option Int} (ha : ED X W ex a ρ (.tuple ds)) (hl : EO X W ex lo ρ l) (hu : EO X W ex hi ρ u) (hw : ¬ (HT.sIx ds.length 0 l = 0 ∧ HT.sIx ds.length ds.length u = ds.length)) : ED X W ex (.Subscript a (.Slice lo hi none p2) pos) ρ (.tuple (cutD ds l u)) := fun B F H σ Q E c q => by
  obtain ⟨tl, pl, kl⟩ := po_w hl
  obtain ⟨tu, pu, ku⟩ := po_w hu
  exact w_e (pe_slice sl_tup pe_w pl pu) (ha B F H σ _ E c fun v F1 H1 x1 i1 => kl B F1 H1 σ _ (E.ext x1) (c.ext x1) fun F2 H2 x2 => ku B F2 H2 σ _ ((E.ext x1).ext x2) ((c.ext x1).ext x2) fun F3 H3 x3 => by
    have x23 := x2.trans x3
    have i3 := i1.mono x23.f
    cases i3 with
    | tup h1 a1 =>
    rename_i t0 vs0
    refine ⟨t0, vs0, rfl, SqT.of (x23.i.g h1), by rw [a1.len]; exact hw, fun r hr => ?_⟩
    have x4 := Ext.made (o := .tup (cutV vs0 l u)) x23.i hr
    exact q _ _ _ ((x1.trans x23).trans x4) (.tup upd_same ((cut_all l u a1).mono x4.f)))
theorem ed_catT (ha : ED X W ex a ρ (.tuple xs)) (hb : ED X W ex b ρ (.tuple ys)) (hx : xs ≠ []) (h : xs.length + ys.length ≤ 100000) : ED X W ex (.BinOp a .Add b pos) ρ (.tuple (xs ++ ys)) :=
  ed_op op_catT ha hb fun v u F H Q i0 hv hu q => by
    cases hv with
    | tup h1 a1 =>
    cases hu with
    | tup h2 a2 =>
    rename_i p1 v1 p2 v2
    refine ⟨p1, p2, v1, v2, rfl, rfl, SqT.of (i0.g h1), SqT.of (i0.g h2), fun z => hx (by have := a1.len; rw [z] at this; exact List.length_eq_zero_iff.mp this.symm), by rw [a1.len, a2.len]; exact sz_le h, fun z => ?_, fun _ r hr => ?_⟩
    · have : ys = [] := by have := a2.len; rw [z] at this; exact List.length_eq_zero_iff.mp this.symm
      subst this
      rw [List.append_nil] at q
      exact q _ F H (Ext.refl i0) (.tup h1 a1)
    · have x4 := Ext.made (o := .tup (v1 ++ v2)) i0 hr
      exact q _ _ _ x4 (.tup upd_same ((a1.append a2).mono x4.f))
/-! ### comprehensions over a tuple -/
section
variable {scope : Scope} {n : Str} {j : Nat} {iter elt : Expr} {ifs : List Expr} {tpos : Pos}
theorem el_lcT {α : Type} (L : LcOk X scope ifs n j iter) (xs : List α) (q : α → PyData) (bt : α → Bool) (g : α → PyData) (h : ED X W ex iter ρ (.tuple (xs.map q))) (hz : xs.length ≤ 50000)
    (hT : ∀ x ∈ xs, Blk X scope fun Y => TsD Y ifs ((ρ.set j .un).set j (.sh (q x))) (bt x)) (hG : ∀ x ∈ xs, bt x = true → Blk X scope fun Y => ED Y noW noX elt ((ρ.set j .un).set j (.sh (q x))) (g x)) :
    EL X W ex (.ListComp elt [⟨.Name n tpos, iter, ifs, 0⟩] scope pos) ρ ((xs.filter bt).map g) := fun B F H σ Q E c k =>
  w_e (pe_lc (own := [(n, j)]) L.calm L.nd (pi_tup pe_w) L.blk (lc_tgt L) (fun _ _ _ _ _ => pts_wb L.one) (fun _ _ _ _ _ => pe_wb) L.fset) (by
    refine h B F H σ _ E c fun v F1 H1 x1 i1 => ?_
    cases i1 with
    | tup hr i1 =>
    rename_i r vs
    have E1 := E.ext x1
    have hsq : ∀ H', Ex H1 H' → SqT X.K H' r vs := fun H' y => SqT.of ((x1.i.trans y).g hr)
    refine ⟨r, rfl, ⟨vs, hsq H1 (Ex.refl H1)⟩, fun D hD => lc_tup (xs := vs) (fun i H' => Cm X.K F1 H1 D (((xs.take i).filter bt).map g) H') ⟨F1, [], Ext.kept x1.i hD, x1.i.back hD, upd_same, .nil⟩ (fun i H' _ ⟨F', acc, y, _⟩ => hsq H' y.h) ?_ ?_⟩
    · intro i v H' hi hc
      obtain ⟨d', hd, id'⟩ := i1.get' hi
      rw [List.getElem?_map] at hd
      cases hx : xs[i]? with
      | none => rw [hx] at hd; cases hd
      | some x =>
        rw [hx] at hd
        cases hd
        exact lc_run (wi := iTup X.K (WE X iter)) (J := Itt X.K r) (Q := Q) xs q bt g hz E1 hT hG hD (fun H' ⟨F', acc, y, f0, h0, ia⟩ => k D acc F' H' (x1.trans y) (x1.h.back hD) f0 h0 ia) i x v H' hx id' hc
    · rintro H' ⟨F', acc, y, f0, h0, ia⟩
      rw [i1.len, List.length_map, List.take_length] at ia
      exact k D acc F' H' (x1.trans y) (x1.h.back hD) f0 h0 ia)
end
/-! ### texts -/
theorem el_split {z w : Str} (ho : ED X W ex o ρ (.str z)) (ha : ED X W ex a ρ (.str w)) (hw : (w.length == 0) = false) (hz : z.length ≤ 100000)
    (hs : starEach [a] X.env = [(false, eval a X.env)] := by rfl) (hb : attributeBase o "split" X.env (eval o X.env) = eval o X.env := by rfl) (hl : (apos.endLine == pos.line) = true := by rfl) : EL X W ex (.Call (.Attribute o "split" apos) [a] [] pos) ρ ((Txt.split z w).map .str) := fun B F H σ Q E c q =>
  w_e (pe_split pe_w pe_w hs hb hl) (ho B F H σ _ E c fun v F1 H1 x1 i1 => ⟨⟨z, i1.str_eq⟩, ha B F1 H1 σ _ (E.ext x1) (c.ext x1) fun u F2 H2 x2 i2 => by
    refine ⟨z, w, i1.str_eq, by rw [i2.str_eq], hw, Nat.le_trans (Nat.add_le_add_right hz 2) (by decide), fun r hr => ?_⟩
    have x4 := Ext.kept (o := .lst ((Txt.split z w).map V.str)) x2.i hr
    have x24 := (x1.trans x2).trans x4
    exact q r _ F2 _ x24 ((x1.trans x2).h.back hr) (x2.i.back hr) upd_same (IsAll.strs _)⟩)
theorem ed_part {z w : Str} (ho : ED X W ex o ρ (.str z)) (ha : ED X W ex a ρ (.str w)) (hw : (w.length == 0) = false) (hz : z.length ≤ 100000)
    (hs : starEach [a] X.env = [(false, eval a X.env)] := by rfl) (hb : attributeBase o "partition" X.env (eval o X.env) = eval o X.env := by rfl) (hl : (apos.endLine == pos.line) = true := by rfl) : ED X W ex (.Call (.Attribute o "partition" apos) [a] [] pos) ρ (.tuple [.str (Txt.partition z w).1, .str (Txt.partition z w).2.1, .str (Txt.partition z w).2.2]) := fun B F H σ Q E c q =>
  w_e (pe_partition pe_w pe_w hs hb hl) (ho B F H σ _ E c fun v F1 H1 x1 i1 => ⟨⟨z, i1.str_eq⟩, ha B F1 H1 σ _ (E.ext x1) (c.ext x1) fun u F2 H2 x2 i2 => by
    refine ⟨z, w, i1.str_eq, by rw [i2.str_eq], hw, sz_le hz, fun r hr => ?_⟩
    have x4 := Ext.made (o := .tup [V.str (Txt.partition z w).1, V.str (Txt.partition z w).2.1, V.str (Txt.partition z w).2.2]) x2.i hr
    exact q _ _ _ ((x1.trans x2).trans x4) (.tup upd_same (.cons (.str _) (.cons (.str _) (.cons (.str _) .nil))))⟩)
theorem ed_intS {z : Str} {n : Int} (ha : ED X W ex a ρ (.str z)) (hn : PySem.intText? z = some n) (hz : z.length ≤ 640) (hg : Gl X ("int" : Str)) (hm : X.mg ("int" : Str) = none) (hs : starEach [a] X.env = [(false, eval a X.env)] := by rfl) : ED X W ex (.Call (.Name "int" p) [a] [] pos) ρ (.int n) := fun B F H σ Q E c q =>
  w_e (pe_callTy call_int_str hg hm (by decide +kernel) (pa_cons pe_w pa_nil hs) (by decide) (by decide) hs (by rfl)) (ha B F H σ _ E c fun v F1 H1 x1 i1 => ⟨z, n, by rw [i1.str_eq], hn, hz, q _ F1 H1 x1 (.int _)⟩)
end
end PD

set_option maxHeartbeats 4000000
/-! things of one's own: told, kept, lent, changed -/
namespace PD
open PySem PySem.Spec PyProof.Rows L2
variable [PD.TabC]
abbrev OP := V → List Addr → Hp → Hp → Prop
/-- places that are new and nobody's yet -/
def New (H F' H' : Hp) (fp : List Addr) : Prop := ∀ a ∈ fp, H a = none ∧ F' a = none ∧ Std H' a
/-- what is told stays where the places that it holds stay -/
def Stab (P : OP) : Prop := ∀ v fp F H F' H', P v fp F H → Ex F F' → (∀ a ∈ fp, H' a = H a) → P v fp F' H'
def EOw (X : Cx) (W : WX) (ex : Addr → Prop) (e : Expr) (ρ : List Sl) (P : OP) : Prop := ∀ B F H σ (Q : VK), En X.K B F H σ ρ → Xc W ex F H σ → (∀ v fp F' H', Ext F H F' H' → New H F' H' fp → P v fp F' H' → Q v H') → WE X e σ H Q
def og (fp : List Addr) (P : OP) : Sl := .rg fp fun v F H => P v fp F H
section
variable {K : PySem.W.Frag} {B F F' H H' : Hp} {σ : L2.St} {ρ : List Sl} {P : OP}
theorem og_ok {v : V} {fp : List Addr} (st : Stab P) (p : P v fp F H) (h : ∀ a ∈ fp, F a = none ∧ B a = none ∧ Std H a) : SlOk K B F H (some v) (og fp P) :=
  ⟨fun F' H' x y => st v fp F H F' H' p x y, h⟩
theorem En.og {i : Nat} {fp : List Addr} (E : En K B F H σ ρ) (h : ρ[i]? = some (og fp P)) : ∃ v, σ[i]? = some (some v) ∧ P v fp F H ∧ ∀ a ∈ fp, F a = none ∧ B a = none ∧ Std H a := by
  obtain ⟨o, e, ok⟩ := E.s i _ h
  cases o with
  | none => exact ok.elim
  | some v => exact ⟨v, e, ok.1 F H (Ex.refl F) fun _ _ => rfl, ok.2⟩
theorem En.newOg (E : En K B F H σ ρ) (x : Ext F H F' H') {i : Nat} {v : V} {fp : List Addr} (st : Stab P) (p : P v fp F' H') (n : New H F' H' fp) : En K B F' H' (σ.set i (some v)) (ρ.set i (PD.og fp P)) :=
  (E.ext x).set_ (o := some v) (og_ok st p fun a ha => ⟨(n a ha).2.1, E.b.back (n a ha).1, (n a ha).2.2⟩) fun j t b ej hb ht => by
    obtain ⟨o, _, h2⟩ := E.s j _ ej
    exact absurd (n b hb).1 (h2.held ht).2.2.ne
/-- a place of one's own is changed; the slot tells what stands there then -/
theorem En.poke {i : Nat} {s : Sl} (E : En K B F H σ ρ) {fp : List Addr} (hi : ρ[i]? = some (PD.og fp P)) {l : Addr} (hl : l ∈ fp) (u : HO) (hs : ∀ v, σ[i]? = some (some v) → SlOk K B F (upd H l u) (some v) s) (hf : ∀ a ∈ s.fp, a ∈ fp) : En K B F (upd H l u) σ (ρ.set i s) := by
  obtain ⟨v, e1, _, q⟩ := E.og hi
  have ql := q l hl
  refine ⟨E.i.mut ql.1, E.b.mut ql.2.1, fun j t e => ?_, fun x y t w b ea eb ha hb => ?_, E.t.ups (Tb.poke ql.2.2)⟩
  · rcases set_at e with ⟨rfl, _, rfl⟩ | ⟨z, e⟩
    · exact ⟨_, e1, hs v e1⟩
    · obtain ⟨o2, e2, h2⟩ := E.s j t e
      refine ⟨o2, e2, h2.mut fun b hb => upd_ne fun w => ?_⟩
      rw [w] at hb
      exact z (E.d i j _ t l hi e hl hb)
  · have back : ∀ (z : Nat) (s' : Sl), (ρ.set i s)[z]? = some s' → b ∈ s'.fp → ∃ s2, ρ[z]? = some s2 ∧ b ∈ s2.fp := fun z s' e m => by
      rcases set_at e with ⟨rfl, _, rfl⟩ | ⟨_, e⟩
      · exact ⟨_, hi, hf b m⟩
      · exact ⟨s', e, m⟩
    obtain ⟨s1, h1, m1⟩ := back x t ea ha
    obtain ⟨s2, h2, m2⟩ := back y w eb hb
    exact E.d x y s1 s2 b h1 h2 m1 m2
end
section
variable {X : Cx} {W : WX} {ex : Addr → Prop} {e e1 e2 e3 a b o : Expr} {es : List Expr} {ρ as : List Sl} {d x y : PyData} {ds xs ys : List PyData} {pos p p2 p3 apos spos : Pos} {T : De} {P : OP} {n : Str} {i j : Nat}
/-- x = e, a thing of one's own -/
theorem sd_setW (nd : X.N.Nodup) (hN : X.N[i]? = some n) (hl : Loc X.env.scope n) (hfn : X.fn n = true ∨ X.env.scope.names.lookup n = some .local) (st : Stab P) (h : EOw X W (fun C => T.ex C ρ) e ρ P) (q : ∀ fp, T.nx (ρ.set i (og fp P)))
    (hw : swapsWith e (some (.Name n p)) pos.line X.env = pure false := by rfl) : SD X W (.Assign [.Name n p] e pos) ρ T := fun F0 H0 F H σ D s l =>
  w_s (ps_set nd hN hl pe_w hw hfn) (h H0 F H σ _ s.e (l.xc s) fun v fp F1 H1 x1 n1 p1 => l.nx _ _ F1 H1 (q fp) ⟨s.x.trans x1, s.e.newOg x1 st p1 n1⟩)
theorem sd_retW (h : EOw X W (fun C => T.ex C ρ) e ρ P) (q : ∀ v fp F H, P v fp F H → T.ro v fp F H) : SD X W (.Return (some e) pos) ρ T := fun F0 H0 F H σ D s l =>
  w_s (ps_ret pe_w) (h H0 F H σ _ s.e (l.xc s) fun v fp F1 H1 x1 n1 p1 => l.ro v fp F1 H1 (q _ _ _ _ p1) (s.x.trans x1) fun a ha => ⟨s.x.h.back (n1 a ha).1, (n1 a ha).2⟩)
theorem sd_retS {fp : List Addr} (hN : X.N[i]? = some n) (hv : Vis X.env.scope n) (hi : ρ[i]? = some (og fp P)) (q : ∀ v F H, P v fp F H → T.ro v fp F H) (hd : (n == ("__debug__" : Str)) = false := by decide) (hcd : (n == ("__classdict__" : Str)) = false := by decide) :
    SD X W (.Return (some (.Name n p)) pos) ρ T := fun F0 H0 F H σ D s l => by
  obtain ⟨v, e1, p1, h1⟩ := s.e.og hi
  exact w_s (ps_ret (pe_var hN hv hd hcd)) ⟨_, e1, l.ro v fp F H (q _ _ _ p1) s.x fun a ha => ⟨(h1 a ha).2.1, (h1 a ha).1, (h1 a ha).2.2⟩⟩
theorem eo_call {k m : Nat} {x : Str} {R : List Sl → DOut → Prop} (C : Cal X.prog X.w X.K X.mg X.base k x m R) (hr : Room k X.A) (hg : Gl X x) (tk : L2N.Takes X W) (ha : EA X W ex (e :: es) ρ as) (hn : as.length = m) (hR : R as (.own P))
    (hdb : (x == ("__debug__" : Str)) = false := by decide) (he : starEach (e :: es) X.env = (false, eval e X.env) :: starEach es X.env := by rfl) (hpl : (backTo pos (starEach es X.env)).any (·.1) = false := by rfl) : EOw X W ex (.Call (.Name x p) (e :: es) [] pos) ρ P := fun B F H σ Q E c q =>
  call_w C hr hg tk ha hn hR hdb he hpl E c fun F1 H1 x1 v fp F2 H2 x2 n2 p2 => q v fp F2 H2 (x1.trans x2) (fun a ha => ⟨x1.h.back (n2 a ha).1, (n2 a ha).2⟩) p2
/-! ### arguments that are lent for a plain answer -/
def EAl (X : Cx) (W : WX) (ex : Addr → Prop) (es : List Expr) (ρ : List Sl) (as : List Sl) : Prop := ∀ B F H σ (Q : List V → Hp → Prop), En X.K B F H σ ρ → Xc W ex F H σ → (∀ vs F' H', Ext F H F' H' → AgsOk X.K H' H' vs as → Q vs H') → WA X es σ H Q
theorem ags_up {K : PySem.W.Frag} {H H' : Hp} (x : Ex H H') : ∀ {vs : List V} {as : List Sl}, AgsOk K H H vs as → AgsOk K H' H' vs as
  | _, _, .nil => .nil
  | _, _, .cons (b := s) h t => .cons (by
      cases s with
      | sh d => exact Is.mono x h
      | bo ds => obtain ⟨l, vs, e, h, a⟩ := h; exact ⟨l, vs, e, x.sql h, a.mono x⟩
      | raw w => exact h
      | rb P => exact fun F2 H2 y z => h F2 H2 (x.trans y) (x.trans z)
      | un => exact h.elim
      | ow _ _ => exact h.elim
      | rg _ _ => exact h.elim) (ags_up x t)
theorem eal_nil : EAl X W ex [] ρ [] := fun B F H σ Q E c q => w_a pa_nil (q [] F H (Ext.refl E.i) .nil)
theorem eal_d (h : ED X W ex e ρ d) (r : EAl X W ex es ρ as) (hs : starEach (e :: es) X.env = (false, eval e X.env) :: starEach es X.env := by rfl) : EAl X W ex (e :: es) ρ (.sh d :: as) := fun B F H σ Q E c q =>
  w_a (pa_cons pe_w pa_w hs) (h B F H σ _ E c fun v F1 H1 x1 i1 => r B F1 H1 σ _ (E.ext x1) (c.ext x1) fun vs F2 H2 x2 i2 => q (v :: vs) F2 H2 (x1.trans x2) (.cons ((i1.mono x1.i).mono x2.h) i2))
/-- a thing of one's own, read as data -/
theorem eal_og {fp : List Addr} (hN : X.N[i]? = some n) (hv : Vis X.env.scope n) (hi : ρ[i]? = some (og fp P)) (hP : ∀ v F H, Ex F H → P v fp F H → Is X.K H v d) (r : EAl X W ex es ρ as) (hd : (n == ("__debug__" : Str)) = false := by decide) (hcd : (n == ("__classdict__" : Str)) = false := by decide)
    (hs : starEach (.Name n pos :: es) X.env = (false, eval (.Name n pos) X.env) :: starEach es X.env := by rfl) : EAl X W ex (.Name n pos :: es) ρ (.sh d :: as) := fun B F H σ Q E c q => by
  obtain ⟨v, e1, p1, h1⟩ := E.og hi
  refine w_a (pa_cons (pe_var hN hv hd hcd) pa_w hs) ⟨v, e1, r B F H σ _ E c fun vs F2 H2 x2 i2 => q (v :: vs) F2 H2 x2 (.cons ((hP v F H E.i p1).mono x2.h) i2)⟩
def basicD : PyData → Bool
  | .none => true
  | .bool _ => true
  | .int _ => true
  | .str _ => true
  | _ => false
theorem Is.basic {K : PySem.W.Frag} {F F' : Hp} : ∀ {v : V} {d : PyData}, basicD d = true → Is K F v d → Is K F' v d
  | _, _, _, .non => .non
  | _, _, _, .bl b => .bl b
  | _, _, _, .int n => .int n
  | _, _, _, .str x => .str x
  | _, _, h, .lst _ _ => nomatch h
  | _, _, h, .tup _ _ => nomatch h
/-- f(..), the answer plain: what is handed in may be a thing of one's own -/
theorem ed_callL {k m : Nat} {x : Str} {R : List Sl → DOut → Prop} (C : Cal X.prog X.w X.K X.mg X.base k x m R) (hr : Room k X.A) (hg : Gl X x) (tk : L2N.Takes X W) (ha : EAl X W ex (e :: es) ρ as) (hn : as.length = m) (hR : R as (.val d)) (hb : basicD d = true := by rfl)
    (hdb : (x == ("__debug__" : Str)) = false := by decide) (he : starEach (e :: es) X.env = (false, eval e X.env) :: starEach es X.env := by rfl) (hpl : (backTo pos (starEach es X.env)).any (·.1) = false := by rfl) : ED X W ex (.Call (.Name x p) (e :: es) [] pos) ρ d := fun B F H σ Q E c q => by
  obtain ⟨f, fd, ps, Fn, hm, hk, hbd⟩ := C.ex
  exact w_e (pe_callS Fn hr hg hm hk hbd (fun σ => L2N.passAt tk σ) pa_w hdb he hpl) (ha B F H σ _ E c fun vs F1 H1 x1 i1 => ⟨H1, as, .val d, ⟨Ex.refl H1, E.t.ups x1.t⟩, i1, hn, hR, fun v F2 H2 x2 i2 => q v F1 H2 ⟨x1.f, x1.h.trans x2.h, x1.i.trans x2.h, x1.n, x1.t.trans x2.t⟩ (i2.basic hb)⟩)
/-! ### a change of one's own; a text and a list -/
def cP (K : PySem.W.Frag) (n : Str) (xs ys : List PyData) : OP := fun v fp F H => ∃ a l1 l2 v1 v2, v = .ref a ∧ fp = [l1, l2] ∧ l1 ≠ l2 ∧ F a = some (.tup [.str n, .ref l1, .ref l2]) ∧ H l1 = some (.lst v1) ∧ IsAll K F v1 xs ∧ H l2 = some (.lst v2) ∧ IsAll K F v2 ys
theorem cP_st {K : PySem.W.Frag} {z : Str} : Stab (cP K z xs ys) := fun v fp F H F' H' ⟨a, l1, l2, v1, v2, e, ef, ne, h, h1, i1, h2, i2⟩ x y => by
  subst ef
  exact ⟨a, l1, l2, v1, v2, e, rfl, ne, x.g h, (y l1 List.mem_cons_self).trans h1, i1.mono x, (y l2 (List.mem_cons_of_mem _ (List.mem_singleton.mpr rfl))).trans h2, i2.mono x⟩
theorem cP_is {K : PySem.W.Frag} {z : Str} {v : V} {fp : List Addr} {F H : Hp} (i : Ex F H) (h : cP K z xs ys v fp F H) : Is K H v (.tuple [.str z, .list xs, .list ys]) := by
  obtain ⟨a, l1, l2, v1, v2, rfl, ef, ne, h, h1, i1, h2, i2⟩ := h
  exact .tup (i.g h) (.cons (.str z) (.cons (.lst h1 (i1.mono i)) (.cons (.lst h2 (i2.mono i)) .nil)))
/-- what is one's own stands still from here on -/
theorem EOw.dat {z : Str} (h : EOw X W ex e ρ (cP X.K z xs ys)) : ED X W ex e ρ (.tuple [.str z, .list xs, .list ys]) := fun B F H σ Q E c q => h B F H σ _ E c fun v fp F1 H1 x1 n1 ⟨a, l1, l2, v1, v2, ev, ef, ne, ht, h1, i1, h2, i2⟩ => by
  subst ev ef
  have m1 := n1 l1 List.mem_cons_self
  have m2 := n1 l2 (List.mem_cons_of_mem _ (List.mem_singleton.mpr rfl))
  have x2 := x1.told m1.1 m1.2.1 h1
  have f2 : (upd F1 l1 (.lst v1)) l2 = none := by rw [upd_ne (Ne.symm ne)]; exact m2.2.1
  have x3 := x2.told m2.1 f2 h2
  have e1 : Ex F1 (upd F1 l1 (.lst v1)) := Ex.new m1.2.1
  have e2 : Ex (upd F1 l1 (.lst v1)) (upd (upd F1 l1 (.lst v1)) l2 (.lst v2)) := Ex.new f2
  exact q _ _ H1 x3 (.tup ((e1.trans e2).g ht) (.cons (.str z) (.cons (.lst (e2.g upd_same) (i1.mono (e1.trans e2))) (.cons (.lst upd_same (i2.mono (e1.trans e2))) .nil))))
theorem eo_chg {z : Str} {kk : Nat} (h1 : ED X W ex e1 ρ (.str z)) (h2 : EL X W ex e2 ρ xs) (h3 : EL X W ex e3 ρ ys) (s1 : starEach [e1, e2, e3] X.env = (false, eval e1 X.env) :: starEach [e2, e3] X.env := by rfl) (s2 : starEach [e2, e3] X.env = (false, eval e2 X.env) :: starEach [e3] X.env := by rfl) (s3 : starEach [e3] X.env = [(false, eval e3 X.env)] := by rfl) :
    EOw X W ex (.Tuple [e1, e2, e3] kk pos) ρ (cP X.K z xs ys) := fun B F H σ Q E c q =>
  w_e (pe_tup (pa_cons pe_w (pa_cons pe_w (pa_cons pe_w pa_nil s3) s2) s1)) (h1 B F H σ _ E c fun v F1 H1 x1 i1 => h2 B F1 H1 σ _ (E.ext x1) (c.ext x1) fun l1 v1 F2 H2 x2 a1 b1 c1 d1 => h3 B F2 H2 σ _ ((E.ext x1).ext x2) ((c.ext x1).ext x2) fun l2 v2 F3 H3 x3 a2 b2 c2 d2 => by
    refine ⟨by show 3 ≤ sizeLine; decide, fun t ht => ?_⟩
    rw [i1.str_eq]
    have ne : l1 ≠ l2 := fun q => by rw [q, a2] at c1; cases c1
    have n1 : H3 l1 = some (.lst v1) := x3.h.g c1
    have f1 : F3 l1 = none := (x3.n l1 (by rw [c1]; exact fun q => nomatch q)).trans b1
    have x4 := Ext.made (o := .tup [V.str z, .ref l1, .ref l2]) x3.i ht
    have t1 : l1 ≠ t := fun q => by rw [q, ht] at n1; cases n1
    have t2 : l2 ≠ t := fun q => by rw [q, ht] at c2; cases c2
    refine q _ [l1, l2] _ _ (((x1.trans x2).trans x3).trans x4) (fun b hb => ?_) ⟨t, l1, l2, v1, v2, rfl, rfl, ne, upd_same, (upd_ne t1).trans n1, (d1.mono x3.f).mono x4.f, (upd_ne t2).trans c2, d2.mono x4.f⟩
    rcases List.mem_cons.mp hb with rfl | hb
    · exact ⟨x1.h.back a1, (upd_ne t1).trans f1, .of ((upd_ne t1).trans n1)⟩
    · rw [List.mem_singleton.mp hb]
      exact ⟨(x1.trans x2).h.back a2, (upd_ne t2).trans b2, .of ((upd_ne t2).trans c2)⟩)
/-- a text and a new list -/
def prP (K : PySem.W.Frag) (n : Str) (xs : List PyData) : OP := fun v fp F H => ∃ a l vs, v = .ref a ∧ fp = [l] ∧ F a = some (.tup [.str n, .ref l]) ∧ H l = some (.lst vs) ∧ IsAll K F vs xs
theorem eo_pr {z : Str} {kk : Nat} (h1 : ED X W ex e1 ρ (.str z)) (h2 : EL X W ex e2 ρ xs) (s1 : starEach [e1, e2] X.env = (false, eval e1 X.env) :: starEach [e2] X.env := by rfl) (s2 : starEach [e2] X.env = [(false, eval e2 X.env)] := by rfl) :
    EOw X W ex (.Tuple [e1, e2] kk pos) ρ (prP X.K z xs) := fun B F H σ Q E c q =>
  w_e (pe_tup (pa_cons pe_w (pa_cons pe_w pa_nil s2) s1)) (h1 B F H σ _ E c fun v F1 H1 x1 i1 => h2 B F1 H1 σ _ (E.ext x1) (c.ext x1) fun l1 v1 F2 H2 x2 a1 b1 c1 d1 => by
    refine ⟨by show 2 ≤ sizeLine; decide, fun t ht => ?_⟩
    rw [i1.str_eq]
    have x4 := Ext.made (o := .tup [V.str z, .ref l1]) x2.i ht
    have t1 : l1 ≠ t := fun q => by rw [q, ht] at c1; cases c1
    refine q _ [l1] _ _ ((x1.trans x2).trans x4) (fun b hb => ?_) ⟨t, l1, v1, rfl, rfl, upd_same, (upd_ne t1).trans c1, d1.mono x4.f⟩
    rw [List.mem_singleton.mp hb]
    exact ⟨x1.h.back a1, (upd_ne t1).trans b1, .of ((upd_ne t1).trans c1)⟩)
end
end PD

set_option maxHeartbeats 4000000
namespace PD
open PySem PySem.Spec PyProof.Rows L2
variable [PD.TabC]
section
variable {K : PySem.W.Frag} {B F F' H H' : Hp} {σ : L2.St} {ρ : List Sl}
/-- a slot tells less -/
theorem En.less (E : En K B F H σ ρ) {i : Nat} {s0 s : Sl} (hi : ρ[i]? = some s0) (hs : ∀ o, SlOk K B F H o s0 → SlOk K B F H o s) (hf : ∀ a, a ∈ s.fp → a ∈ s0.fp) : En K B F H σ (ρ.set i s) := by
  refine ⟨E.i, E.b, fun j t e => ?_, fun x y t w b ea eb ha hb => ?_, E.t⟩
  · rcases set_at e with ⟨rfl, _, rfl⟩ | ⟨_, e⟩
    · obtain ⟨o, e1, h⟩ := E.s _ _ hi
      exact ⟨o, e1, hs o h⟩
    · exact E.s j t e
  · have back : ∀ (z : Nat) (s' : Sl), (ρ.set i s)[z]? = some s' → b ∈ s'.fp → ∃ s2, ρ[z]? = some s2 ∧ b ∈ s2.fp := fun z s' e m => by
      rcases set_at e with ⟨rfl, _, rfl⟩ | ⟨_, e⟩
      · exact ⟨_, hi, hf b m⟩
      · exact ⟨s', e, m⟩
    obtain ⟨s1, h1, m1⟩ := back x t ea ha
    obtain ⟨s2, h2, m2⟩ := back y w eb hb
    exact E.d x y s1 s2 b h1 h2 m1 m2
end
section
variable {X : Cx} {W : WX} {ex : Addr → Prop} {e e1 e2 e3 a b o : Expr} {es : List Expr} {ρ as : List Sl} {d x y : PyData} {ds xs ys : List PyData} {pos p p0 p1 p2 p3 p4 apos spos tpos : Pos} {T : De} {P : OP} {n m m1 m2 : Str} {i j : Nat} {z : Str}
/-- a, b = e: a text, a list of one's own -/
theorem sd_asgPr {kk : Nat} (hc : X.calm = true) (nd : X.N.Nodup) (hN : X.N[i]? = some n) (hl : Loc X.env.scope n) (hfn : X.fn n = true ∨ X.env.scope.names.lookup n = some .local) (hN2 : X.N[j]? = some m) (hl2 : Loc X.env.scope m) (hfn2 : X.fn m = true ∨ X.env.scope.names.lookup m = some .local)
    (h : EOw X W (fun C => T.ex C ρ) e ρ (prP X.K z xs)) (q : ∀ l, T.nx ((ρ.set i (.sh (.str z))).set j (.ow l xs)))
    (g1 : (assignEach [.Name n p1, .Name m p2] X.env).map (·.2) = assign (.Name n p1) X.env :: (assignEach [.Name m p2] X.env).map (·.2) := by rfl) (g2 : (assignEach [.Name m p2] X.env).map (·.2) = assign (.Name m p2) X.env :: (assignEach [] X.env).map (·.2) := by rfl)
    (g3 : (assignEach [.Name n p1, .Name m p2] X.env).length = 2 := by rfl) (g4 : (assignEach [.Name n p1, .Name m p2] X.env).findIdx? (·.1) = none := by rfl)
    (h1 : swapsWithSole [.Tuple [.Name n p1, .Name m p2] kk tpos] e pos.line X.env = pure false := by rfl) (h2 : swappedStores [.Tuple [.Name n p1, .Name m p2] kk tpos] e X.env = pure none := by rfl) (h3 : (assignEach [.Tuple [.Name n p1, .Name m p2] kk tpos] X.env).map (·.2) = [assign (.Tuple [.Name n p1, .Name m p2] kk tpos) X.env] := by rfl) :
    SD X W (.Assign [.Tuple [.Name n p1, .Name m p2] kk tpos] e pos) ρ T := fun F0 H0 F H σ D s l =>
  w_s (ps_asg pe_w (pg_tup hc (pgs_cons (pg_name nd hN hl hfn) (pgs_cons (pg_name nd hN2 hl2 hfn2) pgs_nil g2) g1) g3 g4) h1 h2 h3) (h H0 F H σ _ s.e (l.xc s) fun v fp F1 H1 x1 n1 ⟨a, l1, vs, ev, ef, ht, hh, ia⟩ => by
    subst ev ef
    have s1 := s.go x1
    refine ⟨a, _, rfl, SqT.of (x1.i.g ht), rfl, .str z, _, rfl, .ref l1, _, rfl, rfl, ?_⟩
    have nl := n1 l1 (List.mem_singleton.mpr rfl)
    have E1 := s1.e.set (i := i) (v := .str z) (s := .sh (.str z)) (.str z) rfl
    refine l.nx _ _ F1 H1 (q l1) ⟨s1.x, E1.set_ (o := some (.ref l1)) ⟨rfl, nl.2.1, s.e.b.back nl.1, vs, hh, ia⟩ fun k t b ek hb htt => ?_⟩
    rw [List.mem_singleton.mp hb] at htt
    rcases set_at ek with ⟨_, _, rfl⟩ | ⟨_, ek⟩
    · exact nomatch htt
    · obtain ⟨o, _, h2⟩ := s.e.s k t ek
      exact absurd nl.1 (h2.held htt).2.2.ne)
/-- x = (a, b, e): a's text, b's list, a new list -/
theorem sd_setChg {i1 i2 : Nat} {kk : Nat} {l1 : Addr} (nd : X.N.Nodup) (hN : X.N[i]? = some n) (hl : Loc X.env.scope n) (hfn : X.fn n = true ∨ X.env.scope.names.lookup n = some .local)
    (hN1 : X.N[i1]? = some m1) (hv1 : Vis X.env.scope m1) (hi1 : ρ[i1]? = some (.sh (.str z))) (hN2 : X.N[i2]? = some m2) (hv2 : Vis X.env.scope m2) (hi2 : ρ[i2]? = some (.ow l1 xs)) (h : EL X W (fun C => T.ex C ρ) e ρ ys) (hne : i ≠ i2)
    (q : ∀ fp, T.nx ((ρ.set i2 (.raw (.ref l1))).set i (og fp (cP X.K z xs ys))))
    (d1 : (m1 == ("__debug__" : Str)) = false := by decide) (d2 : (m1 == ("__classdict__" : Str)) = false := by decide) (d3 : (m2 == ("__debug__" : Str)) = false := by decide) (d4 : (m2 == ("__classdict__" : Str)) = false := by decide)
    (s1 : starEach [.Name m1 p1, .Name m2 p2, e] X.env = (false, eval (.Name m1 p1) X.env) :: starEach [.Name m2 p2, e] X.env := by rfl) (s2 : starEach [.Name m2 p2, e] X.env = (false, eval (.Name m2 p2) X.env) :: starEach [e] X.env := by rfl) (s3 : starEach [e] X.env = [(false, eval e X.env)] := by rfl)
    (hw : swapsWith (.Tuple [.Name m1 p1, .Name m2 p2, e] kk tpos) (some (.Name n p)) pos.line X.env = pure false := by rfl) :
    SD X W (.Assign [.Name n p] (.Tuple [.Name m1 p1, .Name m2 p2, e] kk tpos) pos) ρ T := fun F0 H0 F H σ D s l => by
  obtain ⟨o1, e1, k1⟩ := s.e.s i1 _ hi1
  obtain ⟨o2, e2, k2⟩ := s.e.s i2 _ hi2
  cases o1 with
  | none => exact k1.elim
  | some v1 =>
  cases o2 with
  | none => exact k2.elim
  | some v2 =>
  have k1 : Is X.K F v1 (.str z) := k1
  obtain ⟨rfl, f1, b1, vs, hh, ia⟩ := k2
  have := k1.str_eq
  subst this
  refine w_s (ps_set nd hN hl (pe_tup (pa_cons (pe_var hN1 hv1 d1 d2) (pa_cons (pe_var hN2 hv2 d3 d4) (pa_cons pe_w pa_nil s3) s2) s1)) hw hfn) ⟨_, e1, _, e2, h H0 F H σ _ s.e (l.xc s) fun l2 v2 F2 H2 x2 a2 b2 c2 d2 => ?_⟩
  refine ⟨by show 3 ≤ sizeLine; decide, fun t ht => ?_⟩
  have g1 := x2.h.g hh
  have ne : l1 ≠ l2 := fun q => by rw [q, a2] at hh; cases hh
  have f2 : F2 l1 = none := (x2.n l1 (by rw [hh]; exact fun q => nomatch q)).trans f1
  have x4 := Ext.made (o := .tup [V.str z, .ref l1, .ref l2]) x2.i ht
  have t1 : l1 ≠ t := fun q => by rw [q, ht] at g1; cases g1
  have t2 : l2 ≠ t := fun q => by rw [q, ht] at c2; cases c2
  have x24 := x2.trans x4
  have E1 := s.e.ext x24
  have E2 := E1.less (s := .raw (.ref l1)) hi2 (fun o h => by
    cases o with
    | none => exact h.elim
    | some v => exact h.1) (fun a m => nomatch m)
  refine l.nx _ _ _ _ (q [l1, l2]) ⟨s.x.trans x24, E2.set_ (o := some (.ref t)) (og_ok cP_st ⟨t, l1, l2, vs, v2, rfl, rfl, ne, upd_same, (upd_ne t1).trans g1, ia.mono x24.f, (upd_ne t2).trans c2, d2.mono x4.f⟩ fun b hb => ?_) fun k s' b ek hb htt => ?_⟩
  · rcases List.mem_cons.mp hb with rfl | hb
    · exact ⟨(upd_ne t1).trans f2, b1, .of ((upd_ne t1).trans g1)⟩
    · rw [List.mem_singleton.mp hb]
      exact ⟨(upd_ne t2).trans b2, s.e.b.back a2, .of ((upd_ne t2).trans c2)⟩
  · rcases set_at ek with ⟨_, _, rfl⟩ | ⟨hk, ek2⟩
    · exact nomatch htt
    · rcases List.mem_cons.mp hb with rfl | hb
      · exact absurd (s.e.d i2 k _ s' b hi2 ek2 (List.mem_singleton.mpr rfl) htt) hk
      · rw [List.mem_singleton.mp hb] at htt
        obtain ⟨o, _, h2⟩ := s.e.s k s' ek2
        exact absurd a2 (h2.held htt).2.2.ne
/-- x[1].append(e), x[2].append(e), x[1].clear(), x[2].clear(): x a change of one's own -/
theorem cP_poke {K : PySem.W.Frag} {B F H : Hp} {σ : L2.St} {ρ : List Sl} (E : En K B F H σ ρ) {fp : List Addr} (hi : ρ[i]? = some (og fp (cP K z xs ys))) : ∃ a l1 l2 v1 v2, fp = [l1, l2] ∧ σ[i]? = some (some (.ref a)) ∧ SqT K H a [.str z, .ref l1, .ref l2] ∧ H l1 = some (.lst v1) ∧ H l2 = some (.lst v2) ∧ IsAll K F v1 xs ∧ IsAll K F v2 ys ∧
    F l1 = none ∧ B l1 = none ∧ F l2 = none ∧ B l2 = none ∧ (∀ w xs', IsAll K F w xs' → En K B F (upd H l1 (.lst w)) σ (ρ.set i (og fp (cP K z xs' ys)))) ∧ (∀ w ys', IsAll K F w ys' → En K B F (upd H l2 (.lst w)) σ (ρ.set i (og fp (cP K z xs ys')))) := by
  obtain ⟨v, e1, ⟨a, l1, l2, v1, v2, ev, ef, ne, ht, h1, i1, h2, i2⟩, hf⟩ := E.og hi
  subst ev ef
  have m1 : l1 ∈ [l1, l2] := List.mem_cons_self
  have m2 : l2 ∈ [l1, l2] := List.mem_cons_of_mem _ (List.mem_singleton.mpr rfl)
  have g : ∀ (l : Addr) (w : List V) (b : Addr), b ∈ [l1, l2] → F b = none ∧ B b = none ∧ Std (upd H l (.lst w)) b := fun l w b hb => by
    refine ⟨(hf b hb).1, (hf b hb).2.1, ?_⟩
    by_cases q : b = l
    · subst q; exact .of upd_same
    · let ⟨u, e, n, m⟩ := (hf b hb).2.2
      exact ⟨u, (upd_ne q).trans e, n, m⟩
  refine ⟨a, l1, l2, v1, v2, rfl, e1, SqT.of (E.i.g ht), h1, h2, i1, i2, (hf l1 m1).1, (hf l1 m1).2.1, (hf l2 m2).1, (hf l2 m2).2.1, fun w xs' iw => ?_, fun w ys' iw => ?_⟩
  · refine E.poke hi m1 (.lst w) (fun v' ev' => ?_) (fun b hb => hb)
    rw [e1] at ev'
    cases ev'
    exact og_ok cP_st ⟨a, l1, l2, w, v2, rfl, rfl, ne, ht, upd_same, iw, (upd_ne (Ne.symm ne)).trans h2, i2⟩ (g _ _)
  · refine E.poke hi m2 (.lst w) (fun v' ev' => ?_) (fun b hb => hb)
    rw [e1] at ev'
    cases ev'
    exact og_ok cP_st ⟨a, l1, l2, v1, w, rfl, rfl, ne, ht, (upd_ne ne).trans h1, i1, upd_same, iw⟩ (g _ _)
variable {fp : List Addr}
theorem s2_poke {K : PySem.W.Frag} {F0 H0 F H : Hp} {σ : L2.St} {ρ ρ' : List Sl} {l : Addr} {u : HO} {vs : List V} (s : S2 K F0 H0 F H σ ρ) (hh : H l = some (.lst vs)) (hb : H0 l = none) (E : En K H0 F (upd H l u) σ ρ') : S2 K F0 H0 F (upd H l u) σ ρ' :=
  ⟨⟨s.x.f, s.x.h.mut hb, E.i, s.x.n, s.x.t.trans (Tb.poke (.of hh))⟩, E⟩
theorem sd_cApp1 (hN : X.N[i]? = some n) (hv : Vis X.env.scope n) (hi : ρ[i]? = some (og fp (cP X.K z xs ys))) (h : ED X W (fun C => T.ex C ρ) e ρ d) (hz : xs.length < 100000) (q : T.nx (ρ.set i (og fp (cP X.K z (xs ++ [d]) ys)))) {j0}
    (hd : (n == ("__debug__" : Str)) = false := by decide) (hcd : (n == ("__classdict__" : Str)) = false := by decide) (hb : attributeBase (.Subscript (.Name n p2) (.Constant (.int 1) j0 p3) p4) "append" X.env (eval (.Subscript (.Name n p2) (.Constant (.int 1) j0 p3) p4) X.env) = eval (.Subscript (.Name n p2) (.Constant (.int 1) j0 p3) p4) X.env := by rfl)
    (hs : starEach [e] X.env = [(false, eval e X.env)] := by rfl) (ha : (((backTo p (starEach [e] X.env)).all (fun x => !x.1) && (backToKw p (keywordEach [] X.env)).all (fun x => x.1.isSome)) && decide (([e].length + ([] : List Keyword).length + if ([] : List Keyword).isEmpty = true then 0 else 1) < 30)) = true := by rfl) (hz2 : (backTo p (starEach [] X.env)).any (·.1) = false := by rfl)
    (hl : (apos.endLine == p.line) = true := by rfl) (hw : swapsWith (.Call (.Attribute (.Subscript (.Name n p2) (.Constant (.int 1) j0 p3) p4) "append" apos) [e] [] p) none pos.line X.env = pure false := by rfl) (hpl : PlainIx (.Constant (.int 1) j0 p3) := by exact fun _ _ => rfl) : SD X W (.Expr (.Call (.Attribute (.Subscript (.Name n p2) (.Constant (.int 1) j0 p3) p4) "append" apos) [e] [] p) pos) ρ T := fun F0 H0 F H σ D s l => by
  obtain ⟨a, l1, l2, v1, v2, ef, e1, ht, h1, h2, i1, i2, f1, b1, f2, b2, k1, k2⟩ := cP_poke s.e hi
  refine w_s (ps_expr (pe_bm PySem.F.plainAttrs_list PySem.F.slot_list_append PySem.F.type_list_append mt_append (pe_ix ix_tup (pe_var hN hv hd hcd) pe_int hpl) (pa_cons pe_w pa_nil hs) hb ha hl hs hz2) hw) ⟨_, e1, a, _, 1, .ref l1, rfl, rfl, ht, atI_nat (j := 1) rfl, .inl ⟨rfl, v1, SqL.of h1⟩, ?_⟩
  refine h H0 F H σ _ s.e (l.xc s) fun v F1 H1 x1 iv => ?_
  have s1 := s.go x1
  obtain ⟨a', l1', l2', w1, w2, ef', e1', ht', h1', h2', i1', i2', f1', b1', f2', b2', k1', k2'⟩ := cP_poke s1.e hi
  rw [ef] at ef'
  cases ef'
  refine ⟨l1, w1, v, rfl, rfl, h1', Nat.lt_of_lt_of_le (by rw [i1'.len]; exact hz) (by decide), ?_⟩
  exact l.nx _ σ F1 _ q (s2_poke s1 h1' b1' (k1' _ _ (i1'.append (.cons iv .nil))))
theorem sd_cApp2 (hN : X.N[i]? = some n) (hv : Vis X.env.scope n) (hi : ρ[i]? = some (og fp (cP X.K z xs ys))) (h : ED X W (fun C => T.ex C ρ) e ρ d) (hz : ys.length < 100000) (q : T.nx (ρ.set i (og fp (cP X.K z xs (ys ++ [d]))))) {j0}
    (hd : (n == ("__debug__" : Str)) = false := by decide) (hcd : (n == ("__classdict__" : Str)) = false := by decide) (hb : attributeBase (.Subscript (.Name n p2) (.Constant (.int 2) j0 p3) p4) "append" X.env (eval (.Subscript (.Name n p2) (.Constant (.int 2) j0 p3) p4) X.env) = eval (.Subscript (.Name n p2) (.Constant (.int 2) j0 p3) p4) X.env := by rfl)
    (hs : starEach [e] X.env = [(false, eval e X.env)] := by rfl) (ha : (((backTo p (starEach [e] X.env)).all (fun x => !x.1) && (backToKw p (keywordEach [] X.env)).all (fun x => x.1.isSome)) && decide (([e].length + ([] : List Keyword).length + if ([] : List Keyword).isEmpty = true then 0 else 1) < 30)) = true := by rfl) (hz2 : (backTo p (starEach [] X.env)).any (·.1) = false := by rfl)
    (hl : (apos.endLine == p.line) = true := by rfl) (hw : swapsWith (.Call (.Attribute (.Subscript (.Name n p2) (.Constant (.int 2) j0 p3) p4) "append" apos) [e] [] p) none pos.line X.env = pure false := by rfl) (hpl : PlainIx (.Constant (.int 2) j0 p3) := by exact fun _ _ => rfl) : SD X W (.Expr (.Call (.Attribute (.Subscript (.Name n p2) (.Constant (.int 2) j0 p3) p4) "append" apos) [e] [] p) pos) ρ T := fun F0 H0 F H σ D s l => by
  obtain ⟨a, l1, l2, v1, v2, ef, e1, ht, h1, h2, i1, i2, f1, b1, f2, b2, k1, k2⟩ := cP_poke s.e hi
  refine w_s (ps_expr (pe_bm PySem.F.plainAttrs_list PySem.F.slot_list_append PySem.F.type_list_append mt_append (pe_ix ix_tup (pe_var hN hv hd hcd) pe_int hpl) (pa_cons pe_w pa_nil hs) hb ha hl hs hz2) hw) ⟨_, e1, a, _, 2, .ref l2, rfl, rfl, ht, atI_nat (j := 2) rfl, .inl ⟨rfl, v2, SqL.of h2⟩, ?_⟩
  refine h H0 F H σ _ s.e (l.xc s) fun v F1 H1 x1 iv => ?_
  have s1 := s.go x1
  obtain ⟨a', l1', l2', w1, w2, ef', e1', ht', h1', h2', i1', i2', f1', b1', f2', b2', k1', k2'⟩ := cP_poke s1.e hi
  rw [ef] at ef'
  cases ef'
  refine ⟨l2, w2, v, rfl, rfl, h2', Nat.lt_of_lt_of_le (by rw [i2'.len]; exact hz) (by decide), ?_⟩
  exact l.nx _ σ F1 _ q (s2_poke s1 h2' b2' (k2' _ _ (i2'.append (.cons iv .nil))))
theorem sd_cClr1 (hN : X.N[i]? = some n) (hv : Vis X.env.scope n) (hi : ρ[i]? = some (og fp (cP X.K z xs ys))) (q : T.nx (ρ.set i (og fp (cP X.K z [] ys)))) {j0}
    (hd : (n == ("__debug__" : Str)) = false := by decide) (hcd : (n == ("__classdict__" : Str)) = false := by decide) (hb : attributeBase (.Subscript (.Name n p2) (.Constant (.int 1) j0 p3) p4) "clear" X.env (eval (.Subscript (.Name n p2) (.Constant (.int 1) j0 p3) p4) X.env) = eval (.Subscript (.Name n p2) (.Constant (.int 1) j0 p3) p4) X.env := by rfl)
    (hl : (apos.endLine == p.line) = true := by rfl) (hw : swapsWith (.Call (.Attribute (.Subscript (.Name n p2) (.Constant (.int 1) j0 p3) p4) "clear" apos) [] [] p) none pos.line X.env = pure false := by rfl) (hpl : PlainIx (.Constant (.int 1) j0 p3) := by exact fun _ _ => rfl) : SD X W (.Expr (.Call (.Attribute (.Subscript (.Name n p2) (.Constant (.int 1) j0 p3) p4) "clear" apos) [] [] p) pos) ρ T := fun F0 H0 F H σ D s l => by
  obtain ⟨a, l1, l2, v1, v2, ef, e1, ht, h1, h2, i1, i2, f1, b1, f2, b2, k1, k2⟩ := cP_poke s.e hi
  refine w_s (ps_expr (pe_bm0 PySem.F.plainAttrs_list PySem.F.slot_list_clear PySem.F.type_list_clear mt_clear (pe_ix ix_tup (pe_var hN hv hd hcd) pe_int hpl) hb hl) hw) ⟨_, e1, a, _, 1, .ref l1, rfl, rfl, ht, atI_nat (j := 1) rfl, .inl ⟨rfl, v1, SqL.of h1⟩, l1, v1, rfl, rfl, h1, ?_⟩
  exact l.nx _ σ F _ q (s2_poke s h1 b1 (k1 _ _ .nil))
theorem sd_cClr2 (hN : X.N[i]? = some n) (hv : Vis X.env.scope n) (hi : ρ[i]? = some (og fp (cP X.K z xs ys))) (q : T.nx (ρ.set i (og fp (cP X.K z xs [])))) {j0}
    (hd : (n == ("__debug__" : Str)) = false := by decide) (hcd : (n == ("__classdict__" : Str)) = false := by decide) (hb : attributeBase (.Subscript (.Name n p2) (.Constant (.int 2) j0 p3) p4) "clear" X.env (eval (.Subscript (.Name n p2) (.Constant (.int 2) j0 p3) p4) X.env) = eval (.Subscript (.Name n p2) (.Constant (.int 2) j0 p3) p4) X.env := by rfl)
    (hl : (apos.endLine == p.line) = true := by rfl) (hw : swapsWith (.Call (.Attribute (.Subscript (.Name n p2) (.Constant (.int 2) j0 p3) p4) "clear" apos) [] [] p) none pos.line X.env = pure false := by rfl) (hpl : PlainIx (.Constant (.int 2) j0 p3) := by exact fun _ _ => rfl) : SD X W (.Expr (.Call (.Attribute (.Subscript (.Name n p2) (.Constant (.int 2) j0 p3) p4) "clear" apos) [] [] p) pos) ρ T := fun F0 H0 F H σ D s l => by
  obtain ⟨a, l1, l2, v1, v2, ef, e1, ht, h1, h2, i1, i2, f1, b1, f2, b2, k1, k2⟩ := cP_poke s.e hi
  refine w_s (ps_expr (pe_bm0 PySem.F.plainAttrs_list PySem.F.slot_list_clear PySem.F.type_list_clear mt_clear (pe_ix ix_tup (pe_var hN hv hd hcd) pe_int hpl) hb hl) hw) ⟨_, e1, a, _, 2, .ref l2, rfl, rfl, ht, atI_nat (j := 2) rfl, .inl ⟨rfl, v2, SqL.of h2⟩, l2, v2, rfl, rfl, h2, ?_⟩
  exact l.nx _ σ F _ q (s2_poke s h2 b2 (k2 _ _ .nil))
end
end PD

set_option maxHeartbeats 4000000
namespace PD
open PySem PySem.Spec PyProof.Rows L2
variable [PD.TabC]
/-! ### comprehensions over zip, two names -/
theorem wipe2 {σ : L2.St} {j k : Nat} {a b : Option V} (h : j ≠ k) : wipe (((wipe σ [j, k]).set j a).set k b) [j, k] = wipe σ [j, k] := by
  show (((((σ.set k none).set j none).set j a).set k b).set k none).set j none = (σ.set k none).set j none
  refine List.ext_getElem? fun i => ?_
  simp only [List.getElem?_set, List.length_set]
  by_cases h1 : j = i
  · rw [if_pos h1, if_pos h1]
  · simp only [if_neg h1]
    by_cases h2 : k = i
    · rw [if_pos h2, if_pos h2]
    · rw [if_neg h2, if_neg h2, if_neg h2]
section
variable {X : Cx} {W : WX} {ex : Addr → Prop} {e1 e2 elt : Expr} {ρ : List Sl} {pos p p2 p3 p4 tpos : Pos} {scope : Scope} {n1 n2 : Str} {j1 j2 kk : Nat}
structure LcOk2 (X : Cx) (scope : Scope) (n1 : Str) (j1 : Nat) (n2 : Str) (j2 : Nat) (iter : Expr) : Prop where
  calm : X.calm = true
  nd : X.N.Nodup
  blk : BlkOk X.N X.env.scope scope [(n1, j1), (n2, j2)]
  l1 : scope.names.lookup n1 = some .local
  a1 : X.N[j1]? = some n1
  l2 : scope.names.lookup n2 = some .local
  a2 : X.N[j2]? = some n2
  ne : j1 ≠ j2
  fset : ∀ x, foldedSetIterable iter X.env x = pure x
theorem lc_tgt2 (calm : X.calm = true) (nd : X.N.Nodup) (l1 : scope.names.lookup n1 = some .local) (a1 : X.N[j1]? = some n1) (l2 : scope.names.lookup n2 = some .local) (a2 : X.N[j2]? = some n2) (s : Shared) (H : Hp) (C : Addr) (cl : List (Str × Addr)) (fp : List Addr)
    (g1 : (assignEach [.Name n1 p3, .Name n2 p4] (X.blk s H scope (compEnvC scope cl C X.env) fp).env).map (·.2) = assign (.Name n1 p3) (X.blk s H scope (compEnvC scope cl C X.env) fp).env :: (assignEach [.Name n2 p4] (X.blk s H scope (compEnvC scope cl C X.env) fp).env).map (·.2) := by rfl)
    (g2 : (assignEach [.Name n2 p4] (X.blk s H scope (compEnvC scope cl C X.env) fp).env).map (·.2) = assign (.Name n2 p4) (X.blk s H scope (compEnvC scope cl C X.env) fp).env :: (assignEach [] (X.blk s H scope (compEnvC scope cl C X.env) fp).env).map (·.2) := by rfl)
    (g3 : (assignEach [.Name n1 p3, .Name n2 p4] (X.blk s H scope (compEnvC scope cl C X.env) fp).env).length = 2 := by rfl) (g4 : (assignEach [.Name n1 p3, .Name n2 p4] (X.blk s H scope (compEnvC scope cl C X.env) fp).env).findIdx? (·.1) = none := by rfl) :
    PG (X.blk s H scope (compEnvC scope cl C X.env) fp) (.Tuple [.Name n1 p3, .Name n2 p4] kk tpos) (gTup X.K 2 (gCons (gName j1) (gCons (gName j2) gNil))) := by
  have h1 : (X.blk s H scope (compEnvC scope cl C X.env) fp).env.scope.names.lookup n1 = some .local := lookup_relabel_local (env := X.env) l1
  have h2 : (X.blk s H scope (compEnvC scope cl C X.env) fp).env.scope.names.lookup n2 = some .local := lookup_relabel_local (env := X.env) l2
  exact pg_tup (X := X.blk s H scope (compEnvC scope cl C X.env) fp) calm (pgs_cons (pg_name nd a1 (.inl h1) (.inr h1)) (pgs_cons (pg_name nd a2 (.inl h2) (.inr h2)) pgs_nil g2) g1) g3 g4
theorem el_lcZ {α β : Type} (L : LcOk2 X scope n1 j1 n2 j2 (.Call (.Name "zip" p) [e1, e2] [] p2)) (hg : Gl X ("zip" : Str)) (hm : X.mg ("zip" : Str) = none) (xs : List α) (ys : List β) (q1 : α → PyData) (q2 : β → PyData) (g : α → β → PyData) (h1 : EP' X W ex e1 ρ (xs.map q1)) (h2 : EP' X W ex e2 ρ (ys.map q2)) (hz : xs.length ≤ 50000)
    (hG : ∀ (i : Nat) x y, xs[i]? = some x → ys[i]? = some y → Blk X scope fun Y => ED Y noW noX elt ((((ρ.set j2 .un).set j1 .un).set j1 (.sh (q1 x))).set j2 (.sh (q2 y))) (g x y))
    (s1 : starEach [e1, e2] X.env = (false, eval e1 X.env) :: starEach [e2] X.env := by rfl) (s2 : starEach [e2] X.env = [(false, eval e2 X.env)] := by rfl) (s3 : (backTo p2 (starEach [e2] X.env)).any (fun x => x.1) = false := by rfl)
    (tg : ∀ (s : Shared) (H : Hp) (C : Addr) (cl : List (Str × Addr)) (fp : List Addr), PG (X.blk s H scope (compEnvC scope cl C X.env) fp) (.Tuple [.Name n1 p3, .Name n2 p4] kk tpos) (gTup X.K 2 (gCons (gName j1) (gCons (gName j2) gNil)))) :
    EL X W ex (.ListComp elt [⟨.Tuple [.Name n1 p3, .Name n2 p4] kk tpos, .Call (.Name "zip" p) [e1, e2] [] p2, [], 0⟩] scope pos) ρ ((xs.zip ys).map fun p => g p.1 p.2) := fun B F H σ Q E c k =>
  w_e (pe_lc (own := [(n1, j1), (n2, j2)]) L.calm L.nd (pi_zip hg hm (pa_cons pe_w (pa_cons pe_w pa_nil s2) s1) s1 s3) L.blk tg (fun _ _ _ _ _ => pts_nil) (fun _ _ _ _ _ => pe_wb) L.fset) (by
    refine h1 B F H σ _ E c fun a vs F1 H1 x1 hr1 i1 => h2 B F1 H1 σ _ (E.ext x1) (c.ext x1) fun b ws F2 H2 x2 hr2 i2 => ?_
    have E2 := (E.ext x1).ext x2
    have i1' := i1.mono x2.f
    have ra : ∀ H', Ex H2 H' → SqL X.K H' a vs := fun H' y => by
      rcases hr1 with hr | hr
      · exact (E2.b.trans y).sql hr
      · exact ((x2.f.trans x2.i).trans y).sql hr
    have rb : ∀ H', Ex H2 H' → SqL X.K H' b ws := fun H' y => by
      rcases hr2 with hr | hr
      · exact (E2.b.trans y).sql hr
      · exact (x2.i.trans y).sql hr
    have hm1 := List.length_map (as := xs) q1
    have hm2 := List.length_map (as := ys) q2
    refine ⟨a, b, vs, ws, rfl, ra H2 (Ex.refl _), rb H2 (Ex.refl _), fun D hD => ⟨fun i m H' => m = min xs.length ys.length - i ∧ i ≤ min xs.length ys.length ∧ Cm X.K F2 H2 D (((xs.zip ys).take i).map fun p => g p.1 p.2) H', ⟨_, rfl, Nat.zero_le _, F2, [], Ext.kept x2.i hD, x2.i.back hD, upd_same, .nil⟩, ?_⟩⟩
    rintro i m H' ⟨rfl, him, hc⟩
    obtain ⟨F', acc, y, f0, hh, ia⟩ := hc
    have qa := ra H' y.h
    have qb := rb H' y.h
    by_cases hi : i < min xs.length ys.length
    · have hi1 : i < xs.length := by omega
      have hi2 : i < ys.length := by omega
      obtain ⟨v, hv, iv⟩ := i1'.get (show (xs.map q1)[i]? = some (q1 xs[i]) by rw [List.getElem?_map, List.getElem?_eq_getElem hi1]; rfl)
      obtain ⟨u, hu, iu⟩ := i2.get (show (ys.map q2)[i]? = some (q2 ys[i]) by rw [List.getElem?_map, List.getElem?_eq_getElem hi2]; rfl)
      refine .inr ⟨⟨vs, ws, v, u, qa, qb, hv, hu⟩, fun H4 => Cm X.K F2 H2 D (((xs.zip ys).take (i + 1)).map fun p => g p.1 p.2) H4, fun H4 q => ⟨min xs.length ys.length - (i + 1), by omega, rfl, by omega, q⟩, ?_⟩
      rintro x H3 ⟨t, v', u', rfl, nt, rfl, fa, fb⟩
      have ev : v' = v := Option.some.inj ((fa vs qa).symm.trans hv)
      have eu : u' = u := Option.some.inj ((fb ws qb).symm.trans hu)
      subst ev eu
      have x3 : Ext F' H' (upd F' t (.tup [v', u'])) (upd H' t (.tup [v', u'])) := Ext.made y.i nt
      have tD : D ≠ t := fun q => by rw [q, nt] at hh; cases hh
      have hc3 : Cm X.K F2 H2 D (((xs.zip ys).take i).map fun p => g p.1 p.2) (upd H' t (.tup [v', u'])) := ⟨_, acc, y.trans x3, (upd_ne tD).trans f0, (upd_ne tD).trans hh, ia.mono x3.f⟩
      refine ⟨t, _, rfl, SqT.of upd_same, rfl, v', _, rfl, u', _, rfl, rfl, wipe2 L.ne, ?_⟩
      have hzip : (xs.zip ys)[i]? = some (xs[i], ys[i]) := by
        rw [List.getElem?_zip_eq_some]; exact ⟨List.getElem?_eq_getElem hi1, List.getElem?_eq_getElem hi2⟩
      rw [List.take_add_one, hzip, List.map_append]
      have T := cm_turn (α := α) (X := X) (σ := σ) (B := B) (t := tYes) (te := WEB X scope elt) (σ2 := ((wipe σ [j1, j2]).set j1 (some v')).set j2 (some u')) (ρ2 := (((ρ.set j2 .un).set j1 .un).set j1 (.sh (q1 xs[i]))).set j2 (.sh (q2 ys[i]))) (out := ((xs.zip ys).take i).map fun p => g p.1 p.2) (k := true) (r := g xs[i] ys[i])
        (fun F H Q E4 k2 => k2 F H (Ext.refl E4.i)) (fun _ F H Q E4 k2 s H0 C cl fp => hG i xs[i] ys[i] (List.getElem?_eq_getElem hi1) (List.getElem?_eq_getElem hi2) s H0 C cl fp B F H _ Q E4 xcN k2)
        (fun F H x4 => ((((E2.ext x4).wipe j2).wipe j1).set (s := .sh (q1 xs[i])) (iv.mono x4.f) rfl).set (s := .sh (q2 ys[i])) (iu.mono x4.f) rfl) hD (by rw [List.length_map, List.length_take, List.length_zip]; omega) hc3
      rw [if_pos rfl] at T
      exact T
    · have ei : i = min xs.length ys.length := by omega
      refine .inl ⟨⟨vs, ws, qa, qb, by rw [i1'.len, i2.len, hm1, hm2]; omega⟩, ?_⟩
      rw [ei, List.take_of_length_le (by rw [List.length_zip]; exact Nat.le_refl _)] at ia
      exact k D acc F' H' ((x1.trans x2).trans y) ((x1.trans x2).h.back hD) f0 hh ia)
end
end PD

set_option maxHeartbeats 4000000
namespace PD
open PySem L2 PyProof.Rows
variable [PD.TabC]
/-! ### facts of the top, as they are taken from the heap behind it -/
section
variable {P : Program} {w : World} {K : PySem.W.Frag} {h : Heap} {mg : Str → Option Value} {base : Heap}
/-- a def of the top -/
def DefK (K : PySem.W.Frag) (x : Str) (st : Stmt) : Prop :=
  ∃ (f : Addr) (oc : Value) (od : Option Addr) (kV doc pm : Value) (an : Option Addr) (cdv ct : Value) (osl : Array (Option Value)),
    PySem.W.nsIn K mainGlobals x = some (some (.ref f)) ∧ K.lookup f = some ⟨oc, od, .func (PySem.W.fnOf x x (defArgs st) (defBody st) (defScope st) .none kV doc pm an cdv ct), osl⟩ ∧ PySem.W.codeIn K cdv x = true ∧ PySem.W.keepIn K (.ref f) = true
theorem defK_mk {x : Str} {st : Stmt} {f : Addr} {oc : Value} {od : Option Addr} {kV doc pm : Value} {an : Option Addr} {cdv ct : Value} {osl : Array (Option Value)}
    (a : PySem.W.nsIn K mainGlobals x = some (some (.ref f))) (l : K.lookup f = some ⟨oc, od, .func (PySem.W.fnOf x x (defArgs st) (defBody st) (defScope st) .none kV doc pm an cdv ct), osl⟩) (c : PySem.W.codeIn K cdv x = true) (k : PySem.W.keepIn K (.ref f) = true) : DefK K x st :=
  ⟨f, oc, od, kV, doc, pm, an, cdv, ct, osl, a, l, c, k⟩
/-- its arguments are bound by place -/
def BindK (x : Str) (st : Stmt) (ps : List Str) : Prop :=
  ∀ (kV doc pm : Value) (an : Option Addr) (cdv ct : Value) (us : List Value), us.length = ps.length → bindArgs (PySem.W.fnOf x x (defArgs st) (defBody st) (defScope st) .none kV doc pm an cdv ct) ⟨us, []⟩ = pure (ps.zip us)
theorem cal_of {x : Str} {st : Stmt} {k n : Nat} {R : List Sl → DOut → Prop} (X : K.In h) (G : h.Ns mainGlobals mg) (ps : List Str) (D : DefK K x st) (hb : BindK x st ps)
    (ok : ∀ (f : Addr) (fd : FuncData), Fun K x x st f fd → FnOk P w K mg base (L2N.CX P w) k f fd ps (spD K n R)) : Cal P w K mg base k x n R := by
  obtain ⟨f, oc, od, kV, doc, pm, an, cdv, ct, osl, a, l, c, kk⟩ := D
  have F := fun_mk l c kk
  exact ⟨f, _, ps, ok f _ F, PySem.W.mg_of X G a, kk, F.binds hb⟩
/-- a class of the top -/
structure ClsK (K : PySem.W.Frag) (x : Str) (C : Addr) : Prop where
  a : PySem.W.nsIn K mainGlobals x = some (some (.ref C))
  i : PySem.W.isClsIn K C = true
  t : PySem.W.typeIn K (.ref C) = some (.type "type")
theorem kit_of {D C : Addr} {b : Bool} {x : Str} (c : ClsK K x C) (h : PySem.W.subIn K (.ref D) (.ref C) = some b) (hn : (Value.ref D == Value.ref C) = true → b = true) : PySem.W.kitOne K (.ref D) (.ref C) = some b := by
  unfold PySem.W.kitOne
  by_cases e : (Value.ref D == Value.ref C) = true
  · rw [if_pos e, hn e]
  · rw [if_neg e]
    have e2 : ((PySem.W.clsIn K C).isSome && PySem.W.typeIn K (.ref C) == some (.type "type")) = true := by
      have h2' : (PySem.W.clsIn K C).isSome = true := c.i
      rw [h2', c.t] <;> rfl
    show (if ((PySem.W.clsIn K C).isSome && PySem.W.typeIn K (.ref C) == some (.type "type")) = true then PySem.W.subIn K (.ref D) (.ref C) else none) = some b
    rw [if_pos e2]
    exact h
theorem kit_ve {D : Addr} (h : PySem.W.subIn K (.ref D) (.type "ValueError") = some true) : PySem.W.kitOne K (.ref D) (.type "ValueError") = some true := by
  show (if (Value.ref D == Value.type "ValueError") = true then some true else (if PySem.W.kitMeta "ValueError" = true then PySem.W.subIn K (.ref D) (.type "ValueError") else none)) = some true
  have e : PySem.W.kitMeta "ValueError" = true := by decide +kernel
  rw [e, if_pos rfl, h]
  split <;> rfl
theorem exm_of {D C : Addr} {b : Bool} {x : Str} (c : ClsK K x C) (hb : PySem.W.subIn K (.ref C) (.type "BaseException") = some true) (h : PySem.W.subIn K (.ref D) (.ref C) = some b) : PySem.W.exmOne K (.ref D) (.ref C) = some b := by
  have e1 : (PySem.W.subIn K (.ref C) (.type "BaseException") == some true) = true := by rw [hb] <;> rfl
  have e2 : ((PySem.W.clsIn K C).isSome && PySem.W.typeIn K (.ref C) == some (.type "type")) = true := by
    have h2' : (PySem.W.clsIn K C).isSome = true := c.i
    rw [h2', c.t] <;> rfl
  show (if (PySem.W.subIn K (.ref C) (.type "BaseException") == some true) = true then (if ((PySem.W.clsIn K C).isSome && PySem.W.typeIn K (.ref C) == some (.type "type")) = true then PySem.W.subIn K (.ref D) (.ref C) else none) else none) = some b
  rw [if_pos e1, if_pos e2]
  exact h
/-- an error class of the top, where it stands under -/
structure ErrK (K : PySem.W.Frag) (D : Addr) (C1 C2 C3 C4 C5 C6 C7 C8 C9 : Addr) (b1 b2 b3 b4 b5 b6 b7 b8 : Bool) : Prop where
  s1 : PySem.W.subIn K (.ref D) (.ref C1) = some b1
  s2 : PySem.W.subIn K (.ref D) (.ref C2) = some b2
  s3 : PySem.W.subIn K (.ref D) (.ref C3) = some b3
  s4 : PySem.W.subIn K (.ref D) (.ref C4) = some b4
  s5 : PySem.W.subIn K (.ref D) (.ref C5) = some b5
  s6 : PySem.W.subIn K (.ref D) (.ref C6) = some b6
  s7 : PySem.W.subIn K (.ref D) (.ref C7) = some b7
  s8 : PySem.W.subIn K (.ref D) (.ref C8) = some b8
  s9 : PySem.W.subIn K (.ref D) (.ref C9) = some true
  n1 : (Value.ref D == Value.ref C1) = true → b1 = true
  n2 : (Value.ref D == Value.ref C2) = true → b2 = true
  n3 : (Value.ref D == Value.ref C3) = true → b3 = true
  n4 : (Value.ref D == Value.ref C4) = true → b4 = true
  n5 : (Value.ref D == Value.ref C5) = true → b5 = true
  n6 : (Value.ref D == Value.ref C6) = true → b6 = true
  n7 : (Value.ref D == Value.ref C7) = true → b7 = true
  n8 : (Value.ref D == Value.ref C8) = true → b8 = true
  sv : PySem.W.subIn K (.ref D) (.type "ValueError") = some true
  q : PySem.W.excIn K D [.type "ValueError", .type "Exception", .type "BaseException", .type "object"] "ValueError.__new__" = true
  k : PySem.W.keepIn K (.ref D) = true
  hs : PySem.W.subIn K (.ref D) (.type "BaseException") = some true
  hg : PySem.W.findIn K (.ref D) "__getattribute__" = some (some (.builtin "BaseException.__getattribute__"))
  hk : PySem.W.findIn K (.ref D) "__getattr__" = some none
  hd : PySem.W.hasDictIn K D = true
  ha : PySem.W.findIn K (.ref D) "__class__" = some (some (.builtin "object.__class__"))
  hn : PySem.W.specialIn K (.builtin "object.__class__") "__get__" = some (some (.builtin "getset_descriptor.__get__"))
  ht : PySem.W.takesIn K (.builtin "object.__class__") = some true
  hm : PySem.W.mroIn K D (.type "object") = some true
/-- the nine classes of the errors -/
structure NineK (K : PySem.W.Frag) (C1 C2 C3 C4 C5 C6 C7 C8 C9 : Addr) : Prop where
  c1 : ClsK K "BadChange" C1
  c2 : ClsK K "NotLeaned" C2
  c3 : ClsK K "Twice" C3
  c4 : ClsK K "Missing" C4
  c5 : ClsK K "NoLine" C5
  c6 : ClsK K "Other" C6
  c7 : ClsK K "Ring" C7
  c8 : ClsK K "NoNote" C8
  c9 : ClsK K "WeaveError" C9
theorem kit8_of {D C1 C2 C3 C4 C5 C6 C7 C8 C9 : Addr} {b1 b2 b3 b4 b5 b6 b7 b8 : Bool} (X : K.In h) (G : h.Ns mainGlobals mg) (N : NineK K C1 C2 C3 C4 C5 C6 C7 C8 C9) (E : ErrK K D C1 C2 C3 C4 C5 C6 C7 C8 C9 b1 b2 b3 b4 b5 b6 b7 b8)
    (ve : mg "ValueError" = none) (is : mg "isinstance" = none) (ln : mg "len" = none) (one : [b1, b2, b3, b4, b5, b6, b7, b8].filter id = [true]) : Kit8 K mg D b1 b2 b3 b4 b5 b6 b7 b8 :=
  ⟨⟨E.hg, E.hk, E.hs, E.hd, E.ha, E.hn, E.ht, E.hm⟩,
    ⟨C1, PySem.W.mg_of X G N.c1.a, kit_of N.c1 E.s1 E.n1⟩, ⟨C2, PySem.W.mg_of X G N.c2.a, kit_of N.c2 E.s2 E.n2⟩, ⟨C3, PySem.W.mg_of X G N.c3.a, kit_of N.c3 E.s3 E.n3⟩, ⟨C4, PySem.W.mg_of X G N.c4.a, kit_of N.c4 E.s4 E.n4⟩,
    ⟨C5, PySem.W.mg_of X G N.c5.a, kit_of N.c5 E.s5 E.n5⟩, ⟨C6, PySem.W.mg_of X G N.c6.a, kit_of N.c6 E.s6 E.n6⟩, ⟨C7, PySem.W.mg_of X G N.c7.a, kit_of N.c7 E.s7 E.n7⟩, ⟨C8, PySem.W.mg_of X G N.c8.a, kit_of N.c8 E.s8 E.n8⟩,
    ⟨C9, PySem.W.mg_of X G N.c9.a, kit_of N.c9 E.s9 fun _ => rfl⟩, kit_ve E.sv, ve, is, ln, one⟩
theorem er_of {x : Str} {D C1 C2 C3 C4 C5 C6 C7 C8 C9 : Addr} {b1 b2 b3 b4 b5 b6 b7 b8 : Bool} (X : K.In h) (G : h.Ns mainGlobals mg) (c : ClsK K x D) (E : ErrK K D C1 C2 C3 C4 C5 C6 C7 C8 C9 b1 b2 b3 b4 b5 b6 b7 b8) : Er K mg x D :=
  ⟨PySem.W.mg_of X G c.a, E.q, E.k, E.hs, c.t⟩
/-- a tuple of texts of the top -/
theorem sqT3 {t : Addr} {od : Option Addr} {sl : Array (Option Value)} {n : Nat} {x y z : Str} {t1 t2 t3 : Tok} (l : K.lookup t = some ⟨.type "tuple", od, .seq #[.str x t1, .str y t2, .str z t3] n, sl⟩) : ∀ H, SqT K H t [.str x, .str y, .str z] := fun H =>
  .inr ⟨_, _, n, l, rfl, rfl, by show 3 ≤ _; decide, .cons ⟨_, rfl⟩ (.cons ⟨_, rfl⟩ (.cons ⟨_, rfl⟩ .nil))⟩
/-- a name that the top does not bind -/
def FreeK (K : PySem.W.Frag) (x : Str) : Prop := PySem.W.nsIn K mainGlobals x = some none
/-- an error class of the top, as it can be raised -/
structure ErK (K : PySem.W.Frag) (x : Str) (D : Addr) : Prop where
  c : ClsK K x D
  q : PySem.W.excIn K D [.type "ValueError", .type "Exception", .type "BaseException", .type "object"] "ValueError.__new__" = true
  k : PySem.W.keepIn K (.ref D) = true
  hs : PySem.W.subIn K (.ref D) (.type "BaseException") = some true
theorem er_ofK {x : Str} {D : Addr} (X : K.In h) (G : h.Ns mainGlobals mg) (E : ErK K x D) : Er K mg x D :=
  ⟨PySem.W.mg_of X G E.c.a, E.q, E.k, E.hs, E.c.t⟩
theorem int_of {x : Str} {n : Int} (X : K.In h) (G : h.Ns mainGlobals mg) (e : ∃ t : Tok, PySem.W.nsIn K mainGlobals x = some (some (.int n t))) : ∃ t, mg x = some (.int n t) := let ⟨t, e⟩ := e; ⟨t, PySem.W.mg_of X G e⟩
theorem str_of {x z : Str} (X : K.In h) (G : h.Ns mainGlobals mg) (e : ∃ t : Tok, PySem.W.nsIn K mainGlobals x = some (some (.str z t))) : ∃ t, mg x = some (.str z t) := let ⟨t, e⟩ := e; ⟨t, PySem.W.mg_of X G e⟩
theorem b1 {x : Str} {st : Stmt} {a : Str} (h : ∀ (kV doc pm : Value) (an : Option Addr) (cdv ct u : Value), bindArgs (PySem.W.fnOf x x (defArgs st) (defBody st) (defScope st) .none kV doc pm an cdv ct) ⟨[u], []⟩ = pure ([a].zip [u])) : BindK x st [a] :=
  fun kV doc pm an cdv ct us hl => match us, hl with | [u], _ => h kV doc pm an cdv ct u
theorem b2 {x : Str} {st : Stmt} {a b : Str} (h : ∀ (kV doc pm : Value) (an : Option Addr) (cdv ct u v : Value), bindArgs (PySem.W.fnOf x x (defArgs st) (defBody st) (defScope st) .none kV doc pm an cdv ct) ⟨[u, v], []⟩ = pure ([a, b].zip [u, v])) : BindK x st [a, b] :=
  fun kV doc pm an cdv ct us hl => match us, hl with | [u, v], _ => h kV doc pm an cdv ct u v
theorem b3 {x : Str} {st : Stmt} {a b c : Str} (h : ∀ (kV doc pm : Value) (an : Option Addr) (cdv ct u v r : Value), bindArgs (PySem.W.fnOf x x (defArgs st) (defBody st) (defScope st) .none kV doc pm an cdv ct) ⟨[u, v, r], []⟩ = pure ([a, b, c].zip [u, v, r])) : BindK x st [a, b, c] :=
  fun kV doc pm an cdv ct us hl => match us, hl with | [u, v, r], _ => h kV doc pm an cdv ct u v r
theorem b4 {x : Str} {st : Stmt} {a b c d : Str} (h : ∀ (kV doc pm : Value) (an : Option Addr) (cdv ct u v r z : Value), bindArgs (PySem.W.fnOf x x (defArgs st) (defBody st) (defScope st) .none kV doc pm an cdv ct) ⟨[u, v, r, z], []⟩ = pure ([a, b, c, d].zip [u, v, r, z])) : BindK x st [a, b, c, d] :=
  fun kV doc pm an cdv ct us hl => match us, hl with | [u, v, r, z], _ => h kV doc pm an cdv ct u v r z
end
end PD

set_option maxHeartbeats 4000000
/-! a list comprehension whose item raises -/
namespace PD
open PySem PySem.Spec PyProof.Rows L2
variable [PD.TabC]
theorem noteFrame_eq {e : Value} {env env' : Env} (h : env.frame = env'.frame) : noteFrame e env = noteFrame e env' := by
  unfold noteFrame PySem.frameOf
  rw [h]
section
variable {M : Model} {A : Around} {E : Value → Shared → Prop} {s : Shared} {env : Env}
def compPostX (M : Model) (A : Around) (E : Value → Shared → Prop) (Q : Value → Shared → Prop) (acc : Value) (cenv : Env) (r : Result) (s' : Shared) : Prop :=
  match r with
  | .ok _ => ∃ m, s'.heap.Ns cenv.locals m ∧ ∀ h', Heap.SameBut cenv.locals s'.heap h' → Q acc { s' with heap := h' }
  | .error x => ∃ m, s'.heap.Ns cenv.locals m ∧ ∀ h', Heap.SameBut cenv.locals s'.heap h' → ∀ cenv' : Env, cenv'.frame = cenv.frame → wpAny M A (passOn "comprehension.variables-let-go" x cenv' : Sem Value) (fun _ _ => False) E { s' with heap := h' }
theorem wpAny_comprehension_X {e : Expr} {scope : Scope} {pos : Pos} {newAcc first : Sem Value} {g : Comprehension} {gs : List Comprehension} {cl : List (Str × Addr)}
    {Q : Value → Shared → Prop}
    (hcl : clausesOf e = g :: gs) (hs : ∀ x, foldedSetIterable g.iter env x = pure x) (hclos : closureFor scope env = pure cl)
    (hkind : scope.kind = .function) (hnames : ∀ x ∈ scope.names, x.2 = .local → scope.names.lookup x.1 = some .local)
    (h : wpAny M A first (fun x s₁ => wpAny M A (pyIter x) (fun it s₂ => wpAny M A newAcc (fun acc s₃ =>
      wpAny M A (newFunctionEnv scope env.globals cl [] env.qual none .none (some env)) (fun cenv s₄ =>
        codeAny M A (.compStart e 0 it acc { cenv with scope := relabel scope env }) (compPostX M A E Q acc cenv) s₄) E s₃) E s₂) E s₁) E s) :
    wpAny M A (comprehension e scope env pos newAcc false first none) Q E s := by
  unfold comprehension
  rw [hclos, hcl]
  have on : ∀ {α : Type} {t : Sem α} {P P' : α → Shared → Prop} {s₀ : Shared}, wpAny M A t P E s₀ → (∀ v s₁, P v s₁ → P' v s₁) → wpAny M A t P' E s₀ := fun a b => wpAny_mono a b fun _ _ z => z
  refine wpAny_bind (on h fun x s₁ q₁ => wpAny_bind (wpAny_standAt (wpAny_bind (wpAny_of_eq (hs x) (wpAny_bind (wpAny_holding (on q₁ fun it s₂ q₂ => ?_)))))))
  refine wpAny_standIf (wpAny_bind (on q₂ fun acc s₃ q₃ => wpAny_bind (wpAny_pure (wpAny_bind (on q₃ fun cenv s₄ h₄ => ?_)))))
  dsimp only
  have hv : ∀ x ∈ (scope.names.filter fun y => (y.2 == .local || y.2 == .cell) && y.1 != (".0" : Str)).reverse, x.2 = .local → Env.kindOf { cenv with scope := relabel scope env } x.1 = some .local :=
    fun x hx hl => lookup_relabel_local (hnames x (List.mem_filter.mp (List.mem_reverse.mp hx)).1 hl)
  refine wpAny_holding (wpAny_bind (wpAny_attempt (wpAny_holding (wpAny_run (codeAny_mono h₄ fun r s' hr => ?_)))))
  cases r with
  | ok f =>
    obtain ⟨m, hn, hr⟩ := hr
    exact wpAny_bind (wpAny_holding (wpAny_comp_letGo (cenv := { cenv with scope := relabel scope env }) hkind _ s' m hv hn fun h' m' _ hs' => wpAny_pure (hr h' hs')))
  | error x =>
    obtain ⟨m, hn, hr⟩ := hr
    exact wpAny_bind (wpAny_holding (wpAny_comp_letGo (cenv := { cenv with scope := relabel scope env }) hkind _ s' m hv hn fun h' m' _ hs' => wpAny_mono (hr h' hs' _ rfl) (fun _ _ f => f.elim) fun _ _ y => y))
end
end PD
namespace PySem
namespace PXN
open HandSPX
variable {M : Model} {A : Around} {E : Value → Shared → Prop} {s : Shared} {base : Heap} {env : Env} {outer : List Env} {e : Addr} {Z : Obj → Prop} {L C : Addr}
/-- an exception that another frame's number holds is noted -/
theorem looks_otherZ {Q : Unit → Shared → Prop} (hZ : Steady1 Z) (hC : C ≠ L) (hfr : A.frames = some (env :: outer)) (hf : env.frame = some L) (hfl : HeldZ base (env :: outer) e Z C s.heap)
    (hQ : ∀ h', HeldZ base (env :: outer) e Z L h' → s.heap.UpToSlots h' → Q () { s with heap := h' }) : wpAny M A (noteFrame (.ref e) env) Q E s := by
  obtain ⟨stay, ground, funs, ob, fs, T, obT, gs, atE, zE, dE, f1, groundT, apart, atT, dT, f3⟩ := hfl
  have there : (Value.ref T != Value.none) = true := by simp
  unfold noteFrame
  simp only [hf]
  refine wpAny_bind (wpAny_field atE dE f1 ?_)
  rw [if_pos there]
  refine wpAny_bind (wpAny_field atT dT f3 ?_)
  rw [if_neg (show ¬ ((rawInt C == rawInt L) = true) from fun q => hC (by
    have q2 : rawInt C = rawInt L := by simpa using q
    unfold rawInt at q2
    injection q2 with q3
    exact Int.ofNat.inj q3))]
  refine wpAny_bind (wpAny_setField atT dT (Array.getElem?_eq_some_iff.mp f3).1 ?_)
  -- the heap whose record at T names no frame any more
  generalize hg : s.heap.update T (Obj.mapFields (·.setIfInBounds 3 Value.none)) = g
  have off : ∀ b, b ≠ T → g.get? b = s.heap.get? b := fun b hb => by rw [← hg]; exact Heap.get?_update_other _ _ (Ne.symm hb)
  have plainNe : ∀ b o, s.heap.get? b = some o → (∀ vs, o.data ≠ .fields vs) → b ≠ T := fun b o e n q => by
    subst q
    rw [atT] at e
    cases e
    exact n gs dT
  have stay2 : base.StaysIn g := fun b o e => (off b fun q => by rw [q, groundT] at e; cases e).trans (stay b o e)
  have funs2 : g.FunFrames base (env :: outer) := funs.of_keeps fun b o e n => ⟨o, (off b (plainNe b o e n)).trans e, rfl⟩
  refine wpAny_entryZ (s := { s with heap := g }) hZ hfr funs2 hf ((off e (Ne.symm apart)).trans atE) stay2 ground dE (Array.getElem?_eq_some_iff.mp f1).1 zE fun h' ⟨x1, x2, x3, x4⟩ => ?_
  exact hQ h' ⟨x1, ground, x2, x3⟩ fun b o e n => x4 b o ((off b (plainNe b o e n)).trans e) n
end PXN
end PySem
namespace PD
open PySem PySem.Spec PyProof.Rows L2
variable [PD.TabC]
section
variable {X : Cx}
theorem fun_of {B B' h h' : Heap} {C : Addr} (hb : ∀ b, B.get? b = none → B'.get? b = none) (hh : ∀ b, b ≠ C → h'.get? b = h.get? b) : ∀ {l : List Env}, C ∉ frs l → h.FunFrames B l → h'.FunFrames B' l
  | [], _, _ => trivial
  | env :: rest, hc, ⟨k, ⟨L, o, e1, e2, e3, e4⟩, r⟩ => by
    have hL : L ≠ C := fun q => hc (List.mem_filterMap.mpr ⟨env, List.mem_cons_self, by rw [e1, q]⟩)
    refine ⟨k, ⟨L, o, e1, hb L e2, (hh L hL).trans e3, e4⟩, fun_of hb hh (fun q => hc ?_) r⟩
    obtain ⟨e, he, q⟩ := List.mem_filterMap.mp q
    exact List.mem_filterMap.mpr ⟨e, List.mem_cons_of_mem _ he, q⟩
/-- from the block's air into ours -/
theorem blk_takes {σ : L2.St} {pins : List (Addr × Obj)} {s3 : Shared} {H3 : Hp} {scope : Scope} {ce : Env} {fp : List Addr} {W : WX} {pnB : List (Addr × Obj)} {Qf : Value → Shared → Prop} {acc : Value}
    (hst : X.stack = X.env :: X.outer) (hf : X.env.frame = some X.env.locals) (tk : L2N.Takes X W) (I3 : Inv X pins σ H3 s3) (hcL : ce.locals = s3.heap.objs.size) (hcf : ce.frame = X.env.frame)
    (okB : (X.blk s3 H3 scope ce fp).Ok) (hfp : ∀ b ∈ fp, FpOk X pins H3 b) :
    L2N.Takes ((X.blk s3 H3 scope ce fp).tr pnB (notedBy (model X.prog X.w) X.A ce fun e s' => compPostX (model X.prog X.w) X.A X.xe Qf acc ce (.error e) s')) (fun cls d _ H' => W cls d σ H') := fun u s' xx => by
  obtain ⟨a, B, sI, pins', σ', H', cls, d, rfl, J', nb, up, sky, na, os, ag, w⟩ := xx
  have ok := I3.ok
  have hfr : X.A.frames = some (X.env :: X.outer) := by rw [ok.frames, hst]
  have J : Inv (X.blk s3 H3 scope ce fp) (pnB ++ pins') σ' H' sI := ⟨okB, J'.os, J'.bare, J'.base, J'.loc, J'.cell, J'.free, J'.freeC, J'.pin, J'.hok, J'.len⟩
  have nC : H' ce.locals = none := J.free
  have fC : FpOk X pins H' ce.locals := I3.fpOk (Nat.le_of_eq hcL.symm) nC
  have hCL : ce.locals ≠ X.env.locals := fC.2.1
  have hCf : ce.locals ∉ frs X.stack := fun hm => by
    rcases List.mem_cons.mp (I3.stkSub _ hm) with q | q
    · exact fC.2.1 q
    · exact fC.2.2.1 q
  obtain ⟨mI, nsI, _⟩ := id J.loc
  obtain ⟨oC, hoC⟩ : ∃ o, sI.heap.get? ce.locals = some o := by
    obtain ⟨o, _, _, q, _⟩ := nsI
    exact ⟨o, q⟩
  have hBC : B.get? ce.locals = some oC := nb _ _ hoC hCf
  have hokB : HOk X.prog X.w H' B := J.inGround nb
  show wpAny (model X.prog X.w) X.A (noteFrame (.ref a) ce) _ _ s'
  rw [noteFrame_eq hcf]
  have fin : ∀ h1, HandSPX.HeldZ B (X.env :: X.outer) a (L2N.Zn cls d) X.env.locals h1 → s'.heap.UpToSlots h1 → compPostX (model X.prog X.w) X.A X.xe Qf acc ce (.error (.ref a)) { s' with heap := h1 } := fun h1 hh up1 => by
    have J1 : Inv (X.blk s3 H3 scope ce fp) (pnB ++ pins') σ' H' { s' with heap := h1 } := J.landed (s' := { s' with heap := h1 }) nb hh.1 (up.trans up1) os ag
    obtain ⟨m, hn, _⟩ := J1.loc
    refine ⟨m, hn, fun h' sb cenv' hcf' => ?_⟩
    obtain ⟨st1, ban, ff1, oe, vs, T, oT, ts, he, hz, hd, hv1, hnT, hTe, hT, hdT, hts⟩ := hh
    have a_ne : a ≠ ce.locals := fun q => by rw [q, hBC] at ban; cases ban
    have T_ne : T ≠ ce.locals := fun q => by rw [q, hBC] at hnT; cases hnT
    obtain ⟨B2, b1, b2⟩ := restrict h' fun b => (B.get? b).isSome
    obtain ⟨G, g1, g2⟩ := restrict h' fun b => (B.get? b).isSome || decide (b ∈ frs X.stack)
    have og : ∀ b o, G.get? b = some o → h'.get? b = some o ∧ ((B.get? b).isSome = true ∨ b ∈ frs X.stack) := fun b o e => by
      cases q : ((B.get? b).isSome || decide (b ∈ frs X.stack)) with
      | false => rw [g2 b q] at e; cases e
      | true =>
        rw [g1 b q] at e
        exact ⟨e, by simpa [Bool.or_eq_true] using q⟩
    have hB' : ∀ b o, b ≠ ce.locals → B.get? b = some o → h'.get? b = some o := fun b o hb e => (sb.2 b hb).trans (st1 b o e)
    have gB : ∀ b o, b ≠ ce.locals → B.get? b = some o → G.get? b = some o := fun b o hb e => by rw [g1 b (by simp [e])]; exact hB' b o hb e
    have gF : ∀ b, b ∈ frs X.stack → G.get? b = h'.get? b := fun b hb => g1 b (by simp [hb])
    have fne : ∀ b, b ∈ frs X.stack → b ≠ ce.locals := fun b hb q => hCf (q ▸ hb)
    have slotG : ∀ b o, sI.heap.get? b = some o → b ∈ frs X.stack → ∃ sl, G.get? b = some { o with slots := sl } := fun b o e hb => by
      obtain ⟨_, o', e', hnf⟩ := J.stack.mem hb
      rw [e] at e'; cases e'
      obtain ⟨sl1, q1⟩ := up b o e hnf
      obtain ⟨sl2, q2⟩ := up1 b _ q1 hnf
      exact ⟨sl2, by rw [gF b hb, sb.2 b (fne b hb)]; exact q2⟩
    have anyG : ∀ b o, sI.heap.get? b = some o → b ≠ ce.locals → ∃ o', G.get? b = some o' := fun b o e hb => by
      by_cases hf : b ∈ frs X.stack
      · obtain ⟨sl, q⟩ := slotG b o e hf; exact ⟨_, q⟩
      · exact ⟨o, gB b o hb (nb b o e hf)⟩
    have uG : Un (frs X.stack) (ce.locals :: fp) H3 H' s3.heap G := by
      have ub : Un (frs X.stack) fp H3 H' s3.heap sI.heap := J.base
      have out : ∀ {b}, b ∉ ce.locals :: fp → b ≠ ce.locals ∧ b ∉ fp := fun {b} h => ⟨fun q => h (q ▸ List.mem_cons_self), fun q => h (List.mem_cons_of_mem _ q)⟩
      refine ⟨fun b o e n hb hx => gB b o (out hx).1 (nb b o (ub.keep b o e n hb (out hx).2) hb), fun b o e n hb hx => ?_, fun b o e n hx => ub.free b o e n (out hx).2, fun b o e hx => ?_, ub.tups, ub.frzs, ub.tbls⟩
      · obtain ⟨sl, q⟩ := ub.slot b o e n hb (out hx).2
        obtain ⟨sl2, q2⟩ := slotG b _ q hb
        exact ⟨sl2, q2⟩
      · obtain ⟨o', q⟩ := ub.there b o e (out hx).2
        exact anyG b o' q (out hx).1
    have hokG : HOk X.prog X.w H' G := fun b o e => (hokB b o e).stay (fun c u hc q => gB c u (fun z => by
      rcases hc with hc | hc
      · rw [← hc, z, nC] at e; cases e
      · rw [z, nC] at hc; cases hc) q) (fun _ q => q) fun _ _ q => q
    have IG : Inv X pins σ H' { sI with heap := G, gens := s'.gens, drawn := s'.drawn, toks := s'.toks } := I3.call' (ch := ce.locals :: fp) (s' := { sI with heap := G, gens := s'.gens, drawn := s'.drawn, toks := s'.toks }) J.os uG hokG ag fun b hb => by
      rcases List.mem_cons.mp hb with rfl | hb
      · exact ⟨fC.2.2.2.1, fC.2.1, fC.2.2.2.2.1, fC.2.2.2.2.2⟩
      · have q := hfp b hb
        exact ⟨q.2.2.2.1, q.2.1, q.2.2.2.2.1, q.2.2.2.2.2⟩
    have b2n : ∀ b, B.get? b = none → B2.get? b = none := fun b q => b2 b (by rw [q]; rfl)
    have st2 : B2.StaysIn h' := fun b o e => by
      cases q : (B.get? b).isSome with
      | false => rw [b2 b q] at e; cases e
      | true => rw [b1 b q] at e; exact e
    have ff2 : h'.FunFrames B2 (X.env :: X.outer) := fun_of b2n sb.2 (hst ▸ hCf) ff1
    unfold PySem.passOn
    refine wpAny_bind (wpAny_field ((sb.2 a a_ne).trans he) hd hv1 ?_)
    rw [if_neg (show ¬ ((Value.ref T == Value.none) = true) from by simp)]
    have cf : cenv'.frame = some X.env.locals := hcf'.trans (hcf.trans hf)
    rw [cf]
    have go : wpAny (model X.prog X.w) X.A (setFlight (.ref a) (some X.env.locals)) (fun _ s4 => wpAny (model X.prog X.w) X.A (throw (.ref a) : Sem Value) (fun _ _ => False) X.xe s4) X.xe { s' with heap := h' } := by
      refine HandSPX.setFlight_anyZ (s := { s' with heap := h' }) (l := X.env :: X.outer) (base := B2) (Z := L2N.Zn cls d) (fl := rawInt X.env.locals) st2 ff2 ⟨oe, vs, T, oT, ts, (sb.2 a a_ne).trans he, hz, hd, hv1, b2n T hnT, hTe, (sb.2 T T_ne).trans hT, hdT, hts⟩ fun h4 st4 ff4 tr4 up4 => wpAny_throw (tk _ _ ?_)
      exact ⟨a, B2, { sI with heap := G, gens := s'.gens, drawn := s'.drawn, toks := s'.toks }, pins, σ, H', cls, d, rfl, IG, fun b o e hb => by
        obtain ⟨e1, q⟩ := og b o e
        rcases q with q | q
        · rw [b1 b q]; exact e1
        · exact absurd q hb, fun b o e hnf => up4 b o (og b o e).1 hnf, .inr (.inr (by rw [hst]; exact ⟨st4, b2n a ban, ff4, tr4⟩)), na, os, ag, w⟩
    first
      | exact wpAny_bind (wpAny_pure (wpAny_bind go))
      | exact wpAny_bind go
  have sky' : L2.Sky B (X.env :: X.outer) a (L2N.Zn cls d) ce.locals s'.heap := by rw [← hst]; exact sky
  rcases sky' with ⟨hB, hn, hl, oe, vs, he, hz, hd, h1⟩ | fl | hh
  · exact PXN.look_newZ L2N.Zn.steady hfr hl hf he hB hn hd h1 hz fin
  · exact PXN.looks_onZ L2N.Zn.steady hfr hf fl fin
  · exact PXN.looks_otherZ L2N.Zn.steady hCL hfr hf hh fin

section
variable {elt tg iter : Expr} {ifs : List Expr} {scope : Scope} {own : List (Str × Nat)} {pos : Pos} {wi : TI} {g : TG} {tt : TT} {te : WX → TE} {W : WX}
/-- [elt for tg in iter if ..]: elt may raise what we take -/
theorem pe_lcX (hc : X.calm = true) (hN : X.N.Nodup) (hst : X.stack = X.env :: X.outer) (hf : X.env.frame = some X.env.locals) (tk : L2N.Takes X W) (hi : PI X tg iter wi) (ok : BlkOk X.N X.env.scope scope own)
    (hg : ∀ (s : Shared) (H : Hp) (C : Addr) (cl : List (Str × Addr)) (fp : List Addr), PG (X.blk s H scope (compEnvC scope cl C X.env) fp) tg g) (ht : ∀ (s : Shared) (H : Hp) (C : Addr) (cl : List (Str × Addr)) (fp : List Addr), PTs (X.blk s H scope (compEnvC scope cl C X.env) fp) ifs tt)
    (he : ∀ (Wb : WX) (s : Shared) (H : Hp) (C : Addr) (cl : List (Str × Addr)) (fp : List Addr) (pn : List (Addr × Obj)) (xe : Value → Shared → Prop), L2N.Takes ((X.blk s H scope (compEnvC scope cl C X.env) fp).tr pn xe) Wb → PE ((X.blk s H scope (compEnvC scope cl C X.env) fp).tr pn xe) elt (te Wb))
    (hs : ∀ x, foldedSetIterable iter X.env x = pure x := by intro _; rfl) :
    PE X (.ListComp elt [⟨tg, iter, ifs, 0⟩] scope pos) (fun σ H Q => tLc wi g tt (te fun cls d _ H' => W cls d σ H') (own.map (·.2)) σ H Q) := by
  refine ⟨fun pins s σ H Q I h => ?_⟩
  rw [eval_ListComp]
  have clo : ∀ y ∈ scope.names, y.2 = .free → ∃ c, X.env.cells.lookup y.1 = some c := fun y hy e => (ok.free y hy e).elim (fun k => I.ok.has _ (.inl k)) fun k => I.ok.has _ (.inr k)
  refine wpAny_comprehension_X rfl hs (closure_ok clo) ok.kind (fun y hy e => by rw [ok.uniq y hy, e]) (thn (hi.run pins s σ H _ I h) fun xv s1 q1 => thn q1 fun itv s2 q2 => ?_)
  obtain ⟨it, fp, tn, J, H2, rfl, I2, T, st2, f2, q⟩ := q2
  refine wpAny_newObj_type (newEnv_comp ?_) (by show 0 ≤ sizeLine; decide)
  generalize hD : s2.heap.objs.size = D
  have Dn : H2 D = none := I2.hok.fresh (Nat.le_of_eq hD)
  obtain ⟨Wn, ⟨m0, w0⟩, turn⟩ := q D Dn
  -- a list is laid for what is made
  generalize hs3 : ({ s2 with heap := s2.heap.push { cls := .type "list", data := .seq ([] : List Value).toArray } } : Shared) = s3
  have heap3 : s3.heap = s2.heap.push { cls := .type "list", data := .seq ([] : List Value).toArray } := by rw [← hs3]
  have I3 : Inv X pins σ (upd H2 D (.lst [])) s3 := by
    rw [← hs3]
    refine I2.laid (t' := s2.toks) (fun b o e => Heap.get?_push_of_some _ e) (Nat.le_of_eq hD) ⟨Nat.zero_le _, [], 0, .nil, ?_⟩
    rw [← hD]
    exact Heap.get?_push_size _ rfl
  have below : ∀ b ∈ fp, b < s2.heap.objs.size := fun b hb => let ⟨_, e, _⟩ := T.obj _ _ st2 b hb; Heap.lt_size e
  have walk : ∀ b ∈ fp, FpOk X pins (upd H2 D (.lst [])) b ∧ b < s3.heap.objs.size := fun b hb => by
    have lt := below b hb
    have z := f2 b hb
    refine ⟨⟨(upd_ne (by rw [← hD]; exact Nat.ne_of_lt lt)).trans z.1, z.2⟩, ?_⟩
    rw [heap3, Heap.size_push]
    exact Nat.lt_succ_of_lt lt
  have st3 : tn 0 s3.heap := T.keep _ _ _ st2 fun b _ o e => by rw [heap3]; exact Heap.get?_push_of_some _ e
  have I4 := block_start I3 ok hN walk
  have pg := hg s3 (upd H2 D (.lst [])) s3.heap.objs.size (cellsFrom (s3.heap.objs.size + 1) scope.names (cloFrom X.env.cells scope.names [])) fp
  have pt := ht s3 (upd H2 D (.lst [])) s3.heap.objs.size (cellsFrom (s3.heap.objs.size + 1) scope.names (cloFrom X.env.cells scope.names [])) fp
  have pe := fun Wb => he Wb s3 (upd H2 D (.lst [])) s3.heap.objs.size (cellsFrom (s3.heap.objs.size + 1) scope.names (cloFrom X.env.cells scope.names [])) fp
  show codeAny _ _ (.compStart (.ListComp elt [⟨tg, iter, ifs, 0⟩] scope pos) 0 (.ref it) (.ref D) (compEnvC scope (cellsFrom (s3.heap.objs.size + 1) scope.names (cloFrom X.env.cells scope.names [])) s3.heap.objs.size X.env))
    (compPostX (model X.prog X.w) X.A X.xe (EP X pins σ Q) (.ref D) (compEnvC scope (cellsFrom (s3.heap.objs.size + 1) scope.names (cloFrom X.env.cells scope.names [])) s3.heap.objs.size X.env)) { s3 with heap := pushCells (s3.heap.push { cls := .type "dict", data := .dict #[] }) scope.names }
  generalize hce : compEnvC scope (cellsFrom (s3.heap.objs.size + 1) scope.names (cloFrom X.env.cells scope.names [])) s3.heap.objs.size X.env = ce at I4 pg pt pe ⊢
  have ceL : ce.locals = s3.heap.objs.size := by subst hce; rfl
  have ceF : ce.frame = X.env.frame := by subst hce; rfl
  generalize hH3 : upd H2 D (.lst []) = H3 at I3 I4 pg pt pe w0 walk
  generalize hs4 : ({ s3 with heap := pushCells (s3.heap.push { cls := .type "dict", data := .dict #[] }) scope.names } : Shared) = s4 at I4 ⊢
  have okB : (X.blk s3 H3 scope ce fp).Ok := I4.ok
  have st4 : tn 0 s4.heap := T.keep _ _ _ st3 fun b _ o e => by rw [← hs4]; exact pushCells_keeps _ _ _ _ (Heap.get?_push_of_some _ e)
  have free4 : ∀ b ∈ fp, H3 b = none := fun b hb => (walk b hb).1.1
  have still : ∀ {σ' : L2.St} {H' : Hp} {s' : Shared}, Inv (X.blk s3 H3 scope ce fp) [] σ' H' s' → (∀ b ∈ fp, H' b = none) → ∀ b ∈ fp, FpOk (X.blk s3 H3 scope ce fp) [] H' b := fun {σ' H' s'} I' n b hb =>
    have ox := I'.ok
    ⟨n b hb, (ox.exf b hb).1, ox.exfs b hb, .inl hb, fun x c e => (ox.exf b hb).2 x c e, fun p hp => (by simp at hp)⟩
  let R : Result → Shared → Prop := compPostX (model X.prog X.w) X.A X.xe (EP X pins σ Q) (.ref D) ce
  let air : Value → Shared → Prop := notedBy (model X.prog X.w) X.A ce fun e s' => R (.error e) s'
  let Wb : WX := fun cls d _ H' => W cls d σ H'
  let Lp : Nat → Shared → Prop := fun n s' => ∃ i H', Inv (X.blk s3 H3 scope ce fp) [] (wipe σ (own.map (·.2))) H' s' ∧ tn i s'.heap ∧ (∀ b ∈ fp, H' b = none) ∧ Wn i n H'
  have takes : ∀ pn, L2N.Takes ((X.blk s3 H3 scope ce fp).tr pn air) Wb := fun pn => blk_takes (pnB := pn) hst hf tk I3 ceL ceF okB fun b hb => (walk b hb).1
  have loop : codeAny (model X.prog X.w) X.A (.compLoop (.ListComp elt [⟨tg, iter, ifs, 0⟩] scope pos) 0 (.ref it) (.ref D) ce) R s4 := by
    refine compLoop_any Lp ?_ m0 ⟨0, H3, I4, st4, free4, w0⟩
    rintro n s5 ⟨i, H5, I5, st5, n5, w5⟩
    rcases turn i n H5 w5 with ⟨stop, last⟩ | ⟨go, Nx, next, step⟩
    · refine thnF (T.done (X.blk s3 H3 scope ce fp) rfl rfl rfl hc i [] s5 _ H5 (fun _ _ => False) I5 (still I5 n5) st5 stop) fun r s6 ⟨hr, I6⟩ => ?_
      subst hr
      have I7 : Inv X pins σ H5 s6 := I3.call' (ch := fp) I6.os I6.base I6.hok I6.bare fun b hb => let z := (walk b hb).1; ⟨z.2.2.2.1, z.2.1, z.2.2.2.2.1, z.2.2.2.2.2⟩
      have fC : FpOk X pins H5 ce.locals := I3.fpOk (Nat.le_of_eq ceL.symm) I6.free
      obtain ⟨m, hn, _⟩ := I6.loc
      refine ⟨m, hn, fun h'' sb => ?_⟩
      obtain ⟨c0, c1, c2, c3, c4, c5⟩ := fC
      exact ⟨.ref D, H5, I7.turned (t' := s6.toks) (fun b o hb e => (sb.2 b hb).trans e) c0 c1 c3 c4 c5, rfl, last⟩
    · refine thnF (T.item (X.blk s3 H3 scope ce fp) rfl rfl rfl hc i [] s5 _ H5 (fun _ _ => False) I5 (still I5 n5) st5 go) fun r s6 ⟨u, hr, q6⟩ => ?_
      subst hr
      refine thnF q6 fun _ s7 ⟨x, H7, I7, r7, y7, st7, n7⟩ => ?_
      have P7 := I7.pinned (still I7 n7) (T.obj _ _ st7)
      refine thnF (pg.run _ s7 _ H7 x u _ P7 r7 (step x H7 y7)) fun _ s8 ⟨σ8, H8, I8, wiped, q8⟩ => ?_
      refine thnF (pt.run _ s8 σ8 H8 _ I8 q8) fun b s9 ⟨H9, I9, q9⟩ => ?_
      have over : ∀ {s' : Shared} {H' : Hp}, Inv (X.blk s3 H3 scope ce fp) ([] ++ pinsAt fp s7.heap) σ8 H' s' → Nx H' → ∃ m, m < n ∧ Lp m s' := fun {s' H'} I' nx => by
        obtain ⟨m', lt, w'⟩ := next H' nx
        have pinned : ∀ b ∈ fp, ∀ o, s7.heap.get? b = some o → s'.heap.get? b = some o ∧ H' b = none := fun b hb o e =>
          have z := I'.pin (b, o) (List.mem_append_right _ (List.mem_append_right _ (mem_pinsAt hb e)))
          ⟨z.1, z.2.1⟩
        have len8 : (wipe σ (own.map (·.2))).length = σ8.length := by rw [← wiped, wipe_length]
        refine ⟨m', lt, i + 1, H', (I'.unpinned (pins := [])).weak len8 (fun j v e => ?_), T.keep _ _ _ st7 fun b hb o e => (pinned b hb o e).1, fun b hb => ?_, w'⟩
        · rw [← wiped] at e
          exact (wipe_some e).1
        · obtain ⟨o, e, _⟩ := T.obj _ _ st7 b hb
          exact (pinned b hb o e).2
      cases b with
      | false =>
        simp only [Bool.false_eq_true, if_false] at q9 ⊢
        exact over I9 q9
      | true =>
        simp only [if_true] at q9 ⊢
        have run := (pe Wb ((X.blk s3 H3 scope ce fp).pn ++ ([] ++ pinsAt fp s7.heap)) air (takes _)).run [] s9 σ8 H9 _ (I9.toTry air) q9
        refine wpAny_mono run (fun z s10 ⟨yv, H10, I10, r10, made, hD10, hz10, nx⟩ => ?_) fun _ _ z => z
        exact app_ok (X := X.blk s3 H3 scope ce fp) (I10.ofTry okB) hD10 hz10 r10 fun s11 I11 => over I11 nx
  exact codeAny_compStart_list loop (T.self X.A 0 _ _ _ st4 loop)
end
end
end PD

set_option maxHeartbeats 4000000
/-! an error in whose making another one was handled: its context is known, and that one's is None -/
namespace PD
open PySem PySem.Spec PyProof.Rows L2
variable [PD.TabC]
def ctxV : Option Addr → Value
  | none => .none
  | some b => .ref b
/-- its class, no dict of its own, its context -/
def Zm (cls : Value) (d : Option Addr) : Obj → Prop := fun o => o.cls = cls ∧ o.dict = none ∧ ∀ vs : Array Value, o.data = .fields vs → vs[2]? = some (ctxV d)
theorem Zm.steady {cls : Value} {d : Option Addr} : PXN.Steady1 (Zm cls d) := fun o v h => ⟨PXN.steady_cls o v h.1, PXN.steady_dict o v h.2.1, by
  obtain ⟨c, di, dt, sl⟩ := o
  cases dt with
  | fields w0 =>
    intro ws e
    have e2 : w0.setIfInBounds 1 v = ws := Data.fields.inj e
    rw [← e2, HotX.set_other (y := ctxV d) (by decide) (h.2.2 w0 rfl)]
  | _ => intro ws e; first | exact Data.noConfusion e | cases e⟩
theorem Zm.zc {cls : Value} {d : Option Addr} {o : Obj} (h : Zm cls d o) : Zc cls none o := ⟨h.1, h.2.1⟩
theorem Zm.of {cls : Value} {o : Obj} (h : L2N.Zn cls none o) : Zm cls none o := ⟨h.1, h.2.1, h.2.2⟩
theorem Zm.zn {cls : Value} {o : Obj} (h : Zm cls none o) : L2N.Zn cls none o := ⟨h.1, h.2.1, h.2.2⟩
/-- the context's own object, on the ground -/
def Cq (B : Heap) (H : Hp) : Option Addr → Prop
  | none => True
  | some b => ∃ ob vb, B.get? b = some ob ∧ H b = none ∧ ob.data = .fields vb ∧ vb[2]? = some .none
structure XMa (X : Cx) (W : WX) (s1 : Shared) (a : Addr) (B : Heap) (sI : Shared) (pins : List (Addr × Obj)) (σ : L2.St) (H : Hp) (cls : Value) (d : Option Addr) : Prop where
  inv : Inv X pins σ H sI
  gr : ∀ b o, sI.heap.get? b = some o → b ∉ frs X.stack → B.get? b = some o
  up : sI.heap.UpToSlots s1.heap
  sky : Sky B X.stack a (Zm cls d) X.env.locals s1.heap
  fr : H a = none
  os : s1.os = sI.os
  ag : AllBare s1.gens
  cq : Cq B H d
  w : W cls d σ H
def XM (X : Cx) (W : WX) (u : Value) (s1 : Shared) : Prop := ∃ a B sI pins σ H cls d, u = .ref a ∧ XMa X W s1 a B sI pins σ H cls d
def TakesM (X : Cx) (W : WX) : Prop := ∀ u s1, XM X W u s1 → X.xe u s1
theorem takesM0 {X : Cx} : TakesM X (fun _ _ _ _ => False) := fun _ _ ⟨_, _, _, _, _, _, _, _, _, x⟩ => x.w.elim
theorem TakesM.imp {X : Cx} {W W2 : WX} (t : TakesM X W) (h : ∀ c d σ H, W2 c d σ H → W c d σ H) : TakesM X W2 := fun u s1 ⟨a, B, sI, pins, σ, H, cls, d, e, x⟩ =>
  t u s1 ⟨a, B, sI, pins, σ, H, cls, d, e, x.inv, x.gr, x.up, x.sky, x.fr, x.os, x.ag, x.cq, h _ _ _ _ x.w⟩
theorem sky_imp {B : Heap} {l : List PySem.Env} {a L : Addr} {Z Z2 : Obj → Prop} {h : Heap} (z : ∀ o, Z o → Z2 o) (x : Sky B l a Z L h) : Sky B l a Z2 L h := by
  rcases x with ⟨h1, h2, h3, oe, vs, h4, hz, h5⟩ | x | x
  · exact .inl ⟨h1, h2, h3, oe, vs, h4, z _ hz, h5⟩
  · exact .inr (.inl (L2H.flyingZ_imp z x))
  · exact .inr (.inr ⟨x.1, x.2.1, x.2.2.1, L2H.tracedZ_imp z x.2.2.2⟩)
/-- an error without a context is one of these -/
theorem TakesM.n {X : Cx} {W : WX} (t : TakesM X W) : L2N.Takes X (fun cls d σ H => d = none ∧ W cls none σ H) := fun u s1 ⟨a, B, sI, pins, σ, H, cls, d, e, I, nb, up, sky, na, os, ag, ed, w⟩ => by
  subst ed
  exact t u s1 ⟨a, B, sI, pins, σ, H, cls, none, e, I, nb, up, sky_imp (fun o z => Zm.of z) sky, na, os, ag, trivial, w⟩
structure CMa (P : Program) (w : World) (outer : List PySem.Env) (H : Hp) (s : Shared) (E : XK) (s1 : Shared) (a : Addr) (B : Heap) (H1 : Hp) (cls : Value) (d : Option Addr) : Prop where
  fl : HandSPX.FlyingZ B outer a (Zm cls d) s1.heap
  ok : HOk P w H1 B
  ub : UB (frs outer) H H1 s.heap B s1.heap
  fr : H1 a = none
  os : s1.os = s.os
  ag : AllBare s1.gens
  cq : Cq B H1 d
  w : E cls d H1
/-- behind a call that raised such a one -/
def CM (P : Program) (w : World) : CXT := fun outer H s E u s1 => ∃ a B H1 cls d, u = .ref a ∧ CMa P w outer H s E s1 a B H1 cls d
section
variable {X : Cx} {pins : List (Addr × Obj)} {σ : L2.St} {H : Hp} {sI s s1 : Shared} {B : Heap} {W : WX} {E : XK}
theorem XM.called (I : Inv X pins σ H s) (hW : ∀ cls d G, E cls d G → W cls d σ G) {u : Value} (c : CM X.prog X.w X.stack H s E u s1) : XM X W u s1 := by
  obtain ⟨a, B, H1, cls, d, rfl, c⟩ := c
  obtain ⟨G, in1, out1⟩ := restrict s1.heap fun q => (B.get? q).isSome || decide (q ∈ frs X.stack)
  have stays : B.StaysIn s1.heap := c.fl.1
  have ground : ∀ q o, B.get? q = some o → G.get? q = some o := fun q o e => (in1 q (by simp [e])).trans (stays q o e)
  have frame : ∀ q, q ∈ frs X.stack → G.get? q = s1.heap.get? q := fun q m => in1 q (by simp [m])
  have back : ∀ q o, G.get? q = some o → s1.heap.get? q = some o ∧ ((B.get? q).isSome = true ∨ q ∈ frs X.stack) := fun q o e => by
    cases z : ((B.get? q).isSome || decide (q ∈ frs X.stack)) with
    | false => rw [out1 q z] at e; cases e
    | true => exact ⟨(in1 q z).symm.trans e, by simpa [Bool.or_eq_true] using z⟩
  have inv : Inv X pins σ H1 { s with heap := G, gens := s1.gens, drawn := s1.drawn, toks := s1.toks } := by
    refine I.call (ch := []) ⟨fun q o e n m _ => ground q o (c.ub.keep q o e n m), fun q o e n m _ => ?_, fun q o e n _ => c.ub.free q o e n, fun q o e _ => ?_, c.ub.tups, c.ub.frzs, c.ub.tbls⟩ (c.ok.kept ground) c.ag (fun _ z => nomatch z)
    · obtain ⟨sl, z⟩ := c.ub.slot q o e m
      exact ⟨sl, (frame q m).trans z⟩
    · by_cases m : q ∈ frs X.stack
      · obtain ⟨sl, z⟩ := c.ub.slot q o e m
        exact ⟨_, (frame q m).trans z⟩
      · obtain ⟨o2, z⟩ := c.ub.there q o e m
        exact ⟨o2, ground q o2 z⟩
  refine ⟨a, B, _, pins, σ, H1, cls, d, rfl, inv, fun q o e m => ?_, Heap.UpToSlots.of_keeps fun q o e => (back q o e).1, .inr (.inl c.fl), c.fr, c.os, c.ag, c.cq, hW _ _ _ c.w⟩
  obtain ⟨e1, h⟩ := back q o e
  rcases h with h | h
  · obtain ⟨o2, z⟩ := Option.isSome_iff_exists.mp h
    have z2 := stays q o2 z
    rw [e1] at z2; cases z2
    exact z
  · exact absurd h m
theorem XM.made {a : Addr} {oe : Obj} {vs : Array Value} {cls : Value} {d : Option Addr} (I : Inv X pins σ H sI) (k : ∀ q o, sI.heap.get? q = some o → s1.heap.get? q = some o) (hne : sI.heap.get? a = none) (he : s1.heap.get? a = some oe)
    (hz : Zm cls d oe) (hd : oe.data = .fields vs) (h1 : vs[1]? = some .none) (na : H a = none) (os : s1.os = sI.os) (ag : AllBare s1.gens) (cq : Cq (PySem.W.hideAll sI.heap (frs X.stack)) H d) (w : W cls d σ H) : XM X W (.ref a) s1 := by
  have hidden : (PySem.W.hideAll sI.heap (frs X.stack)).get? a = none := by
    cases z : (PySem.W.hideAll sI.heap (frs X.stack)).get? a with
    | none => rfl
    | some o => rw [PySem.W.of_hideAll _ z] at hne; cases hne
  exact ⟨a, _, sI, pins, σ, H, cls, d, rfl, I, fun q o e m => PySem.W.hideAll_get _ e m, Heap.UpToSlots.of_keeps k,
    .inl ⟨fun q o e => k q o (PySem.W.of_hideAll _ e), hidden, Heap.FunFrames.of_keeps (fun q o e _ => ⟨o, k q o e, rfl⟩) (funFrames_none I.stack fun q m => PySem.W.hideAll_none _ m), oe, vs, he, hz, hd, h1⟩, na, os, ag, cq, w⟩
theorem XM.leave (hs : X.stack = X.env :: X.outer) (hf : X.env.frame = some X.env.locals) (hex : X.ex = []) {E1 : Value → Shared → Prop} (hW : ∀ cls d σ G, W cls d σ G → E cls d G) {u : Value} (x : XM X W u s1) :
    wpAny (model X.prog X.w) X.A (leaving X.env u) (fun _ s2 => CM X.prog X.w X.outer X.H_0 X.s_0 E u s2) E1 s1 := by
  obtain ⟨a, B, sI, pins, σ, H, cls, d, rfl, x⟩ := x
  have I := x.inv
  have frames : X.A.frames = some (X.env :: X.outer) := by rw [I.ok.frames, hs]
  have noex : ∀ q, q ∉ X.ex := fun q m => by rw [hex] at m; cases m
  have away : ∀ q o, X.s_0.heap.get? q = some o → q ∉ X.fs → q ∉ frs X.stack := fun q o e n m => by
    rcases List.mem_cons.mp (I.stkSub q m) with z | z
    · have l1 := Heap.lt_size e
      have l2 := I.ok.above
      rw [z] at l1
      exact (Nat.lt_irrefl _ (Nat.lt_of_lt_of_le l1 l2)).elim
    · exact n z
  have inB := I.inGround x.gr
  have fin : ∀ h2, HandSPX.FlyingZ B X.outer a (Zm cls d) h2 → s1.heap.UpToSlots h2 → CM X.prog X.w X.outer X.H_0 X.s_0 E (.ref a) { s1 with heap := h2 } := fun h2 fl up2 => by
    refine ⟨a, B, H, cls, d, rfl, fl, inB, ⟨fun q o e n m => x.gr q o (I.base.keep q o e n m (noex q)) (away q o e m), fun q o e m => ?_, fun q o e n => I.base.free q o e n (noex q), fun q o e m => ?_, I.base.tups, I.base.frzs, I.base.tbls⟩, x.fr, x.os.trans I.os, x.ag, x.cq, hW _ _ _ _ x.w⟩
    · obtain ⟨_, o0, e0, nf⟩ := I.ok.funs.mem m
      rw [e] at e0; cases e0
      obtain ⟨sl1, e1⟩ := I.base.slot q o e (I.ok.frf q m) m (noex q)
      obtain ⟨sl2, e2⟩ := x.up q _ e1 nf
      obtain ⟨sl3, e3⟩ := up2 q _ e2 nf
      exact ⟨sl3, e3⟩
    · obtain ⟨o2, e1⟩ := I.base.there q o e (noex q)
      exact ⟨o2, x.gr q o2 e1 (away q o e m)⟩
  have sky := x.sky
  rw [hs] at sky
  rcases sky with ⟨hB, hn, hl, oe, vs, he, hz, hd, h1⟩ | fl | hd
  · exact PXN.leaving_firstZ Zm.steady frames hl hf he hB hn hd h1 hz fin
  · exact PXN.leaves_onZ Zm.steady frames hf fl fin
  · exact HandSPX.leaves_heldZ hf hd fin
theorem takesM_of (hs : X.stack = X.env :: X.outer) (hf : X.env.frame = some X.env.locals) (hex : X.ex = []) {E1 : Value → Shared → Prop}
    (hx : X.xe = fun e s2 => wpAny (model X.prog X.w) X.A (leaving X.env e) (fun _ s3 => CM X.prog X.w X.outer X.H_0 X.s_0 E e s3) E1 s2) : TakesM X (fun cls d _ G => E cls d G) := fun u s2 x => by
  rw [hx]
  exact XM.leave (W := fun cls d _ G => E cls d G) hs hf hex (fun _ _ _ _ h => h) x
theorem passM (tk : TakesM X W) (σ : L2.St) : PassesAt (CM X.prog X.w) X σ (L2.WE W σ) := fun _ _ _ e s2 I c => tk e s2 (XM.called I (fun _ _ _ h => h) c)
end
/-- raise C(..) from None in a suite -/
theorem ps_raiseM {X : Cx} {W : WX} {e : Expr} {t : L2.St → Hp → XK → Prop} {j : Nat} {cpos pos : Pos} (hot : L2H.HotC X) (tk : TakesM X W) (he : L2H.PMk5 X e t) :
    PS X (.Raise (some e) (some (.Constant .none j cpos)) pos) (fun _ σ H => t σ H fun cls d G => d = none ∧ ∀ b, W cls (some b) σ G) := by
  refine ⟨fun pins s σ H D I h => ?_⟩
  obtain ⟨p, ⟨hh, w1, e1, c1⟩, hp⟩ := hot
  have eq : exec (.Raise (some e) (some (.Constant .none j cpos)) pos) X.env = (do standAt pos; raiseStmt X.env (some (do let v ← eval e X.env; standAt pos; pure v)) (some (do let v ← eval (.Constant .none j cpos) X.env; standAt pos; pure v))) := rfl
  rw [eq]
  refine wpAny_bind (wpAny_standAt (HotX.raise_made_hotN (x1 := p.1) (fun s2 Q2 q2 => wpAny_bind (Constant_none (wpAny_bind (wpAny_standAt (wpAny_pure q2))))) (wpAny_bind (wpAny_mono (he pins s σ H _ I h) (fun u s1 hu => wpAny_bind (wpAny_standAt (wpAny_pure ?_))) fun _ _ z => z))))
  obtain ⟨⟨a, oe, vs, sI, H1, cls, d, rfl, J, k, hne, ha, hz, hd, h1, na, os, ag, r, ed, q⟩, h5⟩ := hu
  subst ed
  have six : 4 < vs.size := h5 a oe vs rfl ha hd
  have other : ∀ q u, sI.heap.get? q = some u → a ≠ q := fun q u z y => by rw [← y, hne] at z; cases z
  have k4 : ∀ q u, sI.heap.get? q = some u → (HotX.noneFrom s1.heap a).get? q = some u := fun q u z => by
    rw [HotX.noneFrom_other (other q u z)]
    exact k q u z
  have r1 := (r (model X.prog X.w) s1.heap (J.kIn.keeps k)).1
  have r2 := (r (model X.prog X.w) (HotX.noneFrom s1.heap a) (J.kIn.keeps k4)).2
  have pinned := J.pin p (List.mem_append_left _ hp)
  have away : p.1 ≠ a := fun z => other _ _ pinned.1 z.symm
  obtain ⟨ha4, hd4⟩ := HotX.noneFrom_at ha hd
  have h12 : (((vs.setIfInBounds 3 Value.none).setIfInBounds 4 (Value.bool true)).setIfInBounds 2 (Value.ref p.1))[1]? = some Value.none := HotX.set_other (by decide) (HotX.set_other (by decide) (HotX.set_other (by decide) h1))
  have hnew := Obj.data_mapFields hd4 (·.setIfInBounds 2 (.ref p.1))
  have nostk : p.1 ∉ frs X.stack := fun m => (List.mem_cons.mp (J.stkSub p.1 m)).elim pinned.2.2.1 pinned.2.2.2.1
  refine ⟨a, oe, vs, cls, rfl, ha, hz.1, hd, h1, six, away, ⟨hh, p.2, w1, k _ _ pinned.1, e1, c1⟩, r1, r2, tk _ _ (XM.made (d := some p.1) J (fun q u z => ?_) hne (Heap.get?_update_self _ ha4 (Obj.isFreed_of_fields hnew))
    ⟨by rw [Obj.cls_mapFields, Obj.cls_mapFields, Obj.cls_mapFields]; exact hz.1, by rw [HandSPX.dict_mapFields, HandSPX.dict_mapFields, HandSPX.dict_mapFields]; exact hz.2.1, fun ws e => ?_⟩ hnew h12 na os ag ⟨p.2, w1, PySem.W.hideAll_get _ pinned.1 nostk, pinned.2.1, e1, c1⟩ (q _))⟩
  · show ((HotX.noneFrom s1.heap a).update a (Obj.mapFields (·.setIfInBounds 2 (.ref p.1)))).get? q = some u
    rw [Heap.get?_update_other _ _ (other q u z)]
    exact k4 q u z
  · have e9 : ((vs.setIfInBounds 3 Value.none).setIfInBounds 4 (Value.bool true)).setIfInBounds 2 (Value.ref p.1) = ws := Data.fields.inj (hnew.symm.trans e)
    rw [← e9]
    have s2 : 2 < ((vs.setIfInBounds 3 Value.none).setIfInBounds 4 (Value.bool true)).size := by rw [HotX.set_size, HotX.set_size]; omega
    simp [Array.getElem?_setIfInBounds, s2, ctxV]
    omega
end PD

set_option maxHeartbeats 4000000
/-! try: .. except (A, B): a suite that raises -/
namespace PD
open PySem PySem.Spec PyProof.Rows L2
variable [PD.TabC]
theorem fly_push {B h : Heap} {l : List PySem.Env} {a : Addr} {Z : Obj → Prop} (x : HandSPX.FlyingZ B l a Z h) (o : Obj) : HandSPX.FlyingZ B l a Z (h.push o) := by
  obtain ⟨k1, k2, k3, oe, vs, T, oT, ts, g1, g2, g3, g4, g5, g6, g7, g8⟩ := x
  exact ⟨fun q u e => Heap.get?_push_of_some _ (k1 q u e), k2, k3.of_keeps fun q u e _ => ⟨u, Heap.get?_push_of_some _ e, rfl⟩, oe, vs, T, oT, ts, Heap.get?_push_of_some _ g1, g2, g3, g4, g5, g6, Heap.get?_push_of_some _ g7, g8⟩
theorem off_frames {B h : Heap} {l : List PySem.Env} {a : Addr} {o : Obj} {vs : Array Value} (ff : h.FunFrames B l) (e : h.get? a = some o) (hd : o.data = .fields vs) : a ∉ frs l := fun m => by
  obtain ⟨_, o2, e2, nf⟩ := ff.mem m
  rw [e] at e2; cases e2
  exact nf _ hd
section
variable {X : Cx} {x1 x2 : Str} {c1 c2 : Value} {body suite : List Stmt} {b0 : Stmt} {np1 np2 tpos pos pos' : Pos} {kk : Nat} {tb : WX → TS} {ts : Addr → Value → Option Addr → TS} {Wout : WX}
theorem ps_tryTup (hs : X.stack = X.env :: X.outer) (hf : X.env.frame = some X.env.locals) (n1 : Names X x1 c1) (n2 : Names X x2 c2) (pas : ∀ hd : Option Value, PassesOwnAt (model X.prog X.w) (X.A.mark hd) X.A X.env X.xe) (tk : TakesM X Wout)
    (hb : ∀ (W0 : WX) (pn : List (Addr × Obj)) (xe : Value → Shared → Prop), L2N.Takes (X.tr pn xe) W0 → PassesOwn (model X.prog X.w) X.A X.env xe → PSs (X.tr pn xe) body (tb W0))
    (hsu : ∀ (a : Addr) (oe : Obj) (cls : Value) (d : Option Addr) (pn : List (Addr × Obj)), L2N.Zn cls d oe → (∃ vs, oe.data = .fields vs) → TakesM (L2H.suiteX X a ((a, oe) :: pn)) Wout → L2H.HotC (L2H.suiteX X a ((a, oe) :: pn)) → PSs (L2H.suiteX X a ((a, oe) :: pn)) (b0 :: suite) (ts a cls d)) :
    PS X (.Try body [.ExceptHandler (some (.Tuple [.Name x1 np1, .Name x2 np2] kk tpos)) none (b0 :: suite) pos'] [] [] pos)
      (fun D σ H => tb (fun cls d σ1 H1 => PySem.W.exmAny X.K cls [c1, c2] = some true ∧ ∀ a, H1 a = none → ts a cls d D σ1 H1) D σ H) := by
  refine ⟨fun pins s σ H D I q0 => ?_⟩
  have ok := I.ok
  have frames : X.A.frames = some (X.env :: X.outer) := by rw [ok.frames, hs]
  refine wpAny_Try_except ?_
  let caught : Value → Shared → Prop := fun e t1 => wpAny (model X.prog X.w) X.A (noteFrame e X.env) (fun _ t2 => wpAny (model X.prog X.w) X.A (setFlight e none) (fun _ t3 => wpAny (model X.prog X.w) X.A (handleBy e X.env [.ExceptHandler (some (.Tuple [.Name x1 np1, .Name x2 np2] kk tpos)) none (b0 :: suite) pos']) (SP X pins D) X.xe t3) X.xe t2) X.xe t1
  refine wpAny_mono ((hb (fun cls d σ1 H1 => PySem.W.exmAny X.K cls [c1, c2] = some true ∧ ∀ a, H1 a = none → ts a cls d D σ1 H1) (X.pn ++ pins) caught (fun u t xx => ?_) PassesOwn.looking).run [] s σ H D (I.toTry _) q0) (fun f t hsp => ?_) (fun e t he => he)
  · obtain ⟨a, B, sI, pins2, σ1, H1, cls, d, rfl, J0, nb, up, sky, na, os, ag, hm, hgo⟩ := xx
    have J : Inv X pins σ1 H1 sI := J0.ofTry ok
    have sky2 : Sky B (X.env :: X.outer) a (L2N.Zn cls d) X.env.locals t.heap := by rw [← hs]; exact sky
    show wpAny (model X.prog X.w) X.A (noteFrame (.ref a) X.env) _ _ _
    refine L2N.Sky.land L2N.Zn.steady frames hf sky2 fun h3 fl3 up3 => ?_
    have J3 : Inv X pins σ1 H1 { t with heap := h3 } := J.landed nb fl3.1 (up.trans up3) os ag
    obtain ⟨oe3, vs3, he3, hz3, hd3⟩ := fl3.there
    have off := off_frames fl3.2.2.1 he3 hd3
    have nL : a ≠ X.env.locals := fun z => off (List.mem_filterMap.mpr ⟨X.env, List.mem_cons_self, by rw [hf, z]⟩)
    have nF : a ∉ X.fs := fun m => let ⟨e, he, q⟩ := List.mem_filterMap.mp m; off (List.mem_filterMap.mpr ⟨e, List.mem_cons_of_mem _ he, q⟩)
    have S3 := J3.suite he3 hd3 na nL nF
    refine wpAny_handleBy_cons (codeAny_handlers_test ?_) (by intro q; cases q)
    have LT : PySem.W.Looks (model X.prog X.w) h3 (typeOf (.ref a)) cls := fun A Q E s k q => wpAny_typeOf_ref (k _ _ he3) (by rw [hz3.1]; exact q)
    have named : ∀ {x : Str} {c : Value} {np : Pos} {Q : Value → Shared → Prop} {E : Value → Shared → Prop}, Names X x c → Q c { t with heap := h3 } → wpAny (model X.prog X.w) (X.A.mark (some (.ref a))) (eval (.Name x np) X.env) Q E { t with heap := h3 } := fun {x c np Q E} hc q => by
      obtain ⟨hg, hdbg, hm | ⟨hm, hv, hnn⟩⟩ := hc
      · exact ld_glob (X := X.suite a ((a, oe3) :: (X.pn ++ pins))) S3 hg hm q hdbg
      · exact ld_blt (X := X.suite a ((a, oe3) :: (X.pn ++ pins))) S3 hg hm hv q hnn hdbg
    refine wpAny_Tuple (wpAny_items_cons (named n1 (wpAny_items_cons (named n2 (wpAny_items_nil ⟨by size_fits, ?_⟩)))))
    have kp : ∀ q u, h3.get? q = some u → (h3.push { cls := .type "tuple", data := .seq [c1, c2].toArray }).get? q = some u := fun _ _ z => Heap.get?_push_of_some _ z
    have LM := PySem.W.exm_tup2 (M := model X.prog X.w) (J3.kIn.keeps kp) (LT.keeps kp) (Heap.get?_push_size h3 rfl) hm
    refine LM.here ?_
    refine codeAny_handlers_suite ?_
    refine HandSPX.lands_againZ (s := { t with heap := h3.push { cls := .type "tuple", data := .seq [c1, c2].toArray } }) (fly_push fl3 _) fun h4 fl4 up4 => ?_
    have J4 : Inv X pins σ1 H1 { t with heap := h4 } := J.landed nb fl4.1 (((up.trans up3).trans (Heap.UpToSlots.of_keeps kp)).trans up4) os ag
    obtain ⟨oe4, vs4, he4, hz4, hd4⟩ := fl4.there
    have S4 := J4.suite he4 hd4 na nL nF
    have tkS : TakesM (L2H.suiteX X a ((a, oe4) :: (X.pn ++ pins))) Wout := fun u2 t2 x2 => by
      obtain ⟨a2, B2, sI2, pn2, σ2, H2, cls2, d2, e2, y⟩ := x2
      exact tk u2 t2 ⟨a2, B2, sI2, pins, σ2, H2, cls2, d2, e2, L2H.unsuiteX y.inv ok, y.gr, y.up, y.sky, y.fr, y.os, y.ag, y.cq, y.w⟩
    have hot : L2H.HotC (L2H.suiteX X a ((a, oe4) :: (X.pn ++ pins))) := ⟨(a, oe4), ⟨rfl, vs4, hd4, hz4.2.2 vs4 hd4⟩, List.mem_cons_self⟩
    refine wpAny_mono ((hsu a oe4 cls d (X.pn ++ pins) hz4 ⟨_, hd4⟩ tkS hot).run [] _ _ H1 _ (L2H.suiteX_of S4) (hgo a na)) (fun f s6 hsp => ?_) (fun e6 s6 z => pas (some (.ref a)) e6 s6 z)
    cases f with
    | next => obtain ⟨σ6, H6, S6, q6⟩ := hsp; exact ⟨_, _, L2H.unsuiteX S6 ok, q6⟩
    | brk => obtain ⟨σ6, H6, S6, q6⟩ := hsp; exact ⟨_, _, L2H.unsuiteX S6 ok, q6⟩
    | cont => obtain ⟨σ6, H6, S6, q6⟩ := hsp; exact ⟨_, _, L2H.unsuiteX S6 ok, q6⟩
    | ret u => obtain ⟨v6, σ6, H6, S6, r6, q6⟩ := hsp; exact ⟨_, _, _, L2H.unsuiteX S6 ok, r6, q6⟩
  · cases f with
    | next => obtain ⟨σ2, H2, J2, q⟩ := hsp; exact wpAny_execs_nil ⟨σ2, H2, J2.ofTry ok, q⟩
    | brk => obtain ⟨σ2, H2, J2, q⟩ := hsp; exact ⟨σ2, H2, J2.ofTry ok, q⟩
    | cont => obtain ⟨σ2, H2, J2, q⟩ := hsp; exact ⟨σ2, H2, J2.ofTry ok, q⟩
    | ret u => obtain ⟨v, σ2, H2, J2, r, q⟩ := hsp; exact ⟨v, σ2, H2, J2.ofTry ok, r, q⟩
end
-- try: f(..) except NoNote as n: what is raised is a known one; the suite has it and its context at hand
section
variable {X : Cx} {x n : Str} {c : Value} {i : Nat} {body suite : List Stmt} {b0 : Stmt} {np pos pos' : Pos} {tb : WX → TS} {ts : Addr → Value → Option Addr → TS}
/-- what is at hand in the suite: the error, and its context, if it has one -/
def AtHand (X : Cx) (a : Addr) (cls : Value) (d : Option Addr) : Prop := ∃ oe vs, (a, oe) ∈ X.pn ∧ Zm cls d oe ∧ oe.data = .fields vs ∧ X.A.handled = some (.ref a) ∧
  ∀ b, d = some b → b ≠ a ∧ ∃ ob vb, (b, ob) ∈ X.pn ∧ ob.data = .fields vb ∧ vb[2]? = some .none
theorem ps_tryM (hs : X.stack = X.env :: X.outer) (hf : X.env.frame = some X.env.locals) (hN : X.N.Nodup) (hi : X.N[i]? = some n) (hln : X.env.kindOf n = some .local) (hc : Names X x c)
    (hb : ∀ (W0 : WX) (pn : List (Addr × Obj)) (xe : Value → Shared → Prop), TakesM (X.tr pn xe) W0 → PassesOwn (model X.prog X.w) X.A X.env xe → PSs (X.tr pn xe) body (tb W0))
    (hsu : ∀ (a : Addr) (cls : Value) (d : Option Addr) (pn : List (Addr × Obj)), AtHand (X.suite a pn) a cls d → PSs (X.suite a pn) (b0 :: suite) (ts a cls d)) :
    PS X (.Try body [.ExceptHandler (some (.Name x np)) (some n) (b0 :: suite) pos'] [] [] pos) (fun D σ H => tb (fun cls d σ1 H1 => PySem.W.exmOne X.K cls c = some true ∧
      ∀ a, H1 a = none → ts a cls d ⟨fun σ2 H2 => D.nx (σ2.set i none) H2, D.rt, fun σ2 H2 => D.bk (σ2.set i none) H2, fun σ2 H2 => D.ct (σ2.set i none) H2⟩ (σ1.set i (some (.ref a))) H1) D σ H) := by
  refine ⟨fun pins s σ H D I q0 => ?_⟩
  have ok := I.ok
  have isloc : L2.Loc X.env.scope n := .inl hln
  have frames : X.A.frames = some (X.env :: X.outer) := by rw [ok.frames, hs]
  refine wpAny_Try_except ?_
  let caught : Value → Shared → Prop := fun e t1 => wpAny (model X.prog X.w) X.A (noteFrame e X.env) (fun _ t2 => wpAny (model X.prog X.w) X.A (setFlight e none) (fun _ t3 => wpAny (model X.prog X.w) X.A (handleBy e X.env [.ExceptHandler (some (.Name x np)) (some n) (b0 :: suite) pos']) (SP X pins D) X.xe t3) X.xe t2) X.xe t1
  refine wpAny_mono ((hb _ (X.pn ++ pins) caught (fun u t xx => ?_) PassesOwn.looking).run [] s σ H D (I.toTry _) q0) (fun f t hsp => ?_) (fun e t he => he)
  · obtain ⟨a, B, sI, pins2, σ1, H1, cls, d, rfl, y⟩ := xx
    obtain ⟨hm, hgo⟩ := y.w
    have J : Inv X pins σ1 H1 sI := y.inv.ofTry ok
    have nb := y.gr
    have sky2 : Sky B (X.env :: X.outer) a (Zm cls d) X.env.locals t.heap := by rw [← hs]; exact y.sky
    show wpAny (model X.prog X.w) X.A (noteFrame (.ref a) X.env) _ _ _
    refine L2N.Sky.land Zm.steady frames hf sky2 fun h3 fl3 up3 => ?_
    have J3 : Inv X pins σ1 H1 { t with heap := h3 } := J.landed nb fl3.1 (y.up.trans up3) y.os y.ag
    obtain ⟨oe3, vs3, he3, hz3, hd3⟩ := fl3.there
    have off := off_frames fl3.2.2.1 he3 hd3
    have noL : ∀ {q : Addr}, q ∉ frs (X.env :: X.outer) → q ≠ X.env.locals := fun off z => off (List.mem_filterMap.mpr ⟨X.env, List.mem_cons_self, by rw [hf, z]⟩)
    have noF : ∀ {q : Addr}, q ∉ frs (X.env :: X.outer) → q ∉ X.fs := fun off m => let ⟨e, he, q⟩ := List.mem_filterMap.mp m; off (List.mem_filterMap.mpr ⟨e, List.mem_cons_of_mem _ he, q⟩)
    have S3 := J3.suite he3 hd3 y.fr (noL off) (noF off)
    refine wpAny_handleBy_cons (codeAny_handlers_test ?_) (by intro q; cases q)
    have LT : PySem.W.Looks (model X.prog X.w) h3 (typeOf (.ref a)) cls := fun A Q E s k q => wpAny_typeOf_ref (k _ _ he3) (by rw [hz3.1]; exact q)
    have LM := PySem.W.exm_one (M := model X.prog X.w) (J3.kIn) LT hm
    have named : ∀ {Q : Value → Shared → Prop} {E : Value → Shared → Prop}, Q c { t with heap := h3 } → wpAny (model X.prog X.w) (X.A.mark (some (.ref a))) (eval (.Name x np) X.env) Q E { t with heap := h3 } := fun {Q E} q => by
      obtain ⟨hg, hdbg, hm | ⟨hm, hv, hnn⟩⟩ := hc
      · exact ld_glob (X := X.suite a ((a, oe3) :: (X.pn ++ pins))) S3 hg hm q hdbg
      · exact ld_blt (X := X.suite a ((a, oe3) :: (X.pn ++ pins))) S3 hg hm hv q hnn hdbg
    refine named (LM.here ?_)
    refine codeAny_handlers_suite_as (HandSPX.lands_againZ fl3 fun h4 fl4 up4 => ?_)
    have J4 : Inv X pins σ1 H1 { t with heap := h4 } := J.landed nb fl4.1 ((y.up.trans up3).trans up4) y.os y.ag
    obtain ⟨oe4, vs4, he4, hz4, hd4⟩ := fl4.there
    -- the context is pinned too
    obtain ⟨more, J5, hmore⟩ : ∃ more : List (Addr × Obj), Inv X (more ++ pins) σ1 H1 { t with heap := h4 } ∧ ∀ b, d = some b → b ≠ a ∧ ∃ ob vb, (b, ob) ∈ more ∧ ob.data = .fields vb ∧ vb[2]? = some .none := by
      cases d with
      | none => exact ⟨[], J4, fun b e => nomatch e⟩
      | some b =>
        obtain ⟨ob, vb, gB, gH, gd, g2⟩ := y.cq
        have gt : h4.get? b = some ob := fl4.1 b ob gB
        have offb := off_frames fl4.2.2.1 gt gd
        refine ⟨[(b, ob)], ⟨J4.ok, J4.os, J4.bare, J4.base, J4.loc, J4.cell, J4.free, J4.freeC, fun p hp => ?_, J4.hok, J4.len⟩, fun b2 e => ?_⟩
        · rcases List.mem_append.mp hp with z | z
          · exact J4.pin p (List.mem_append_left _ z)
          · rcases List.mem_append.mp z with z | z
            · have ep : p = (b, ob) := by simpa using z
              rw [ep]
              exact ⟨gt, gH, noL offb, noF offb, fun v z => by have z : ob.data = .cell v := z; rw [gd] at z; cases z⟩
            · exact J4.pin p (List.mem_append_right _ z)
        · cases e
          refine ⟨fun z => ?_, ob, vb, List.mem_singleton_self _, gd, g2⟩
          rw [z, fl4.2.1] at gB; cases gB
    have S5 := J5.suite he4 hd4 y.fr (noL off) (noF off)
    have hand : AtHand (X.suite a ((a, oe4) :: (X.pn ++ (more ++ pins)))) a cls d := ⟨oe4, vs4, List.mem_cons_self, hz4, hd4, rfl, fun b e => by
      obtain ⟨h1, ob, vb, h2, h3, h4⟩ := hmore b e
      exact ⟨h1, ob, vb, List.mem_cons_of_mem _ (List.mem_append_right _ (List.mem_append_left _ h2)), h3, h4⟩⟩
    refine store_ok (X := X.suite a ((a, oe4) :: (X.pn ++ (more ++ pins)))) (v := .ref a) S5 hN hi isloc rfl (fun s5 S5 => ?_) (.inr hln)
    refine wpAny_mono ((hsu a cls d _ hand).run [] s5 _ H1 _ S5 (hgo a y.fr)) (fun f s6 hsp => ?_) (fun _ _ z => False.elim z)
    have drop : ∀ {σ6 : L2.St} {H6 : Hp} {s7 : Shared}, Inv X (more ++ pins) σ6 H6 s7 → Inv X pins σ6 H6 s7 := fun K => ⟨K.ok, K.os, K.bare, K.base, K.loc, K.cell, K.free, K.freeC, fun p hp => K.pin p (by
      rcases List.mem_append.mp hp with z | z
      · exact List.mem_append_left _ z
      · exact List.mem_append_right _ (List.mem_append_right _ z)), K.hok, K.len⟩
    have over : ∀ {σ6 : L2.St} {H6 : Hp} {Q : Shared → Prop}, Inv (X.suite a ((a, oe4) :: (X.pn ++ (more ++ pins)))) [] σ6 H6 s6 → (∀ s7, Inv X pins (σ6.set i none) H6 s7 → Q s7) →
        wpAny (model X.prog X.w) X.A (do bindName X.env n .none; unbindBehindTheSuite X.env n pos') (fun _ s7 => Q s7) X.xe s6 := fun {σ6 H6 Q} S6 hq => gone_ok (S6.unsuite ok) hN hi hln fun s7 K => hq s7 (drop K)
    cases f with
    | next => obtain ⟨σ6, H6, S6, q6⟩ := hsp; exact over S6 fun s7 J7 => ⟨_, _, J7, q6⟩
    | brk => obtain ⟨σ6, H6, S6, q6⟩ := hsp; exact over S6 fun s7 J7 => ⟨_, _, J7, q6⟩
    | cont => obtain ⟨σ6, H6, S6, q6⟩ := hsp; exact over S6 fun s7 J7 => ⟨_, _, J7, q6⟩
    | ret u => obtain ⟨v6, σ6, H6, S6, r6, q6⟩ := hsp; exact over S6 fun s7 J7 => ⟨_, _, _, J7, r6, q6⟩
  · cases f with
    | next => obtain ⟨σ2, H2, J2, q⟩ := hsp; exact wpAny_execs_nil ⟨σ2, H2, J2.ofTry ok, q⟩
    | brk => obtain ⟨σ2, H2, J2, q⟩ := hsp; exact ⟨σ2, H2, J2.ofTry ok, q⟩
    | cont => obtain ⟨σ2, H2, J2, q⟩ := hsp; exact ⟨σ2, H2, J2.ofTry ok, q⟩
    | ret u => obtain ⟨v, σ2, H2, J2, r, q⟩ := hsp; exact ⟨v, σ2, H2, J2.ofTry ok, r, q⟩
end
end PD

set_option maxHeartbeats 4000000
/-! while an error is handled whose context is known: a list's end, a comprehension over truths, a call -/
namespace PD
open PySem PySem.Spec PyProof.Rows L2
variable [PD.TabC]
/-- x1 is handled; its context is None or x2, whose context is None -/
def Hot2 (A : Around) (x1 x2 : Addr) (h : Heap) : Prop := A.handled = some (.ref x1) ∧ ∃ o vs, h.get? x1 = some o ∧ o.data = .fields vs ∧
  (vs[2]? = some .none ∨ (x2 ≠ x1 ∧ vs[2]? = some (.ref x2) ∧ ∃ ob vb, h.get? x2 = some ob ∧ ob.data = .fields vb ∧ vb[2]? = some .none))
theorem Hot2.kept {A : Around} {x1 x2 : Addr} {h h' : Heap} (t : Hot2 A x1 x2 h) (k1 : ∀ o, h.get? x1 = some o → h'.get? x1 = some o) (k2 : ∀ o, h.get? x2 = some o → h'.get? x2 = some o) : Hot2 A x1 x2 h' := by
  obtain ⟨hh, o, vs, e, d, c⟩ := t
  refine ⟨hh, o, vs, k1 o e, d, ?_⟩
  rcases c with c | ⟨n, c, ob, vb, e2, d2, c2⟩
  · exact .inl c
  · exact .inr ⟨n, c, ob, vb, k2 ob e2, d2, c2⟩
section
variable {prog : Program} {w : World} {A : Around} {E : Value → Shared → Prop} {s : Shared}
theorem unchained_one {x0 x1 a : Addr} {o1 : Obj} {vs1 : Array Value} {t : Bool} {Q : Value → Shared → Prop} (h1 : s.heap.get? x1 = some o1) (d1 : o1.data = .fields vs1) (c1 : vs1[2]? = some .none) (q : Q .none s) :
    codeAny (model prog w) A (.builtin "proto.unchain" ⟨[.ref a, .ref x1, .ref x0, .bool t], []⟩) (fun r s' => match r with | .ok (.ret v) => Q v s' | _ => False) s := by
  refine codeAny_builtin HotX.entry_unchain ?_
  show wpAny _ _ (field (.ref x1) 2 >>= _) _ _ s
  refine wpAny_bind (wpAny_field h1 d1 c1 ?_)
  rw [if_pos (show (Value.none == Value.none) = true from rfl)]
  first
  | exact wpAny_bind (wpAny_pure (wpAny_pure q))
  | exact wpAny_pure q
theorem unchained2 {x1 x2 a : Addr} {Q : Value → Shared → Prop} (t : Hot2 A x1 x2 s.heap) (na : x2 ≠ a) (q : Q .none s) :
    wpAny (model prog w) A (holding [Value.ref a] (runValue (.builtin "proto.unchain" ⟨[.ref a, .ref x1, .ref x1, .bool false], []⟩))) Q E s := by
  obtain ⟨hh, o, vs, e, d, c⟩ := t
  rcases c with c | ⟨n, c, ob, vb, e2, d2, c2⟩
  · exact HotX.unchained e d c q
  refine wpAny_holding (wpAny_runValue (codeAny_builtin HotX.entry_unchain ?_))
  show wpAny _ _ (field (.ref x1) 2 >>= _) _ _ s
  refine wpAny_bind (wpAny_field e d c ?_)
  have b1 : (Value.ref x2 == Value.none) = false := rfl
  have b2 : (Value.ref x2 == Value.ref a) = false := by simp [na]
  have b3 : (Value.ref x2 == Value.ref x1) = false := by simp [n]
  simp only [b1, b2, b3, Bool.false_eq_true, if_false, pure_bind]
  refine wpAny_pure ⟨Code.quiet_builtin _ (by decide +kernel), codeAny_mono (unchained_one (x0 := x1) (t := !false) e2 d2 c2 q) fun r s' h => ?_⟩
  cases r with
  | error z => exact h.elim
  | ok f =>
    cases f with
    | ret v => exact h
    | next => exact h.elim
    | brk => exact h.elim
    | cont => exact h.elim
theorem raiseNew2 {α : Type} {a x1 x2 : Addr} {oe : Obj} {vs : Array Value} {Q : α → Shared → Prop} (t : Hot2 A x1 x2 s.heap) (n1 : x1 ≠ a) (n2 : x2 ≠ a) (ha : s.heap.get? a = some oe) (da : oe.data = .fields vs) (hi : 2 < vs.size)
    (hE : E (.ref a) { s with heap := s.heap.update a (Obj.mapFields (·.setIfInBounds 2 (.ref x1))) }) : wpAny (model prog w) A (raiseNew (.ref a) : Sem α) Q E s := by
  unfold raiseNew
  refine wpAny_bind (wpAny_handled ?_)
  rw [t.1]
  have hb : (Value.ref x1 != Value.ref a) = true := HotX.ref_bne n1
  first
  | (show wpAny _ _ (if (Value.ref x1 != Value.ref a) = true then _ else _) _ _ _
     rw [if_pos hb]
     first
     | exact wpAny_bind (unchained2 t n2 (wpAny_bind (HotX.chained ha da hi (wpAny_throw hE))))
     | exact wpAny_bind (wpAny_bind (unchained2 t n2 (HotX.chained ha da hi (wpAny_throw hE)))))
  | (refine wpAny_bind ?_
     show wpAny _ _ (if (Value.ref x1 != Value.ref a) = true then _ else _) _ _ _
     rw [if_pos hb]
     exact wpAny_bind (unchained2 t n2 (HotX.chained ha da hi (wpAny_throw hE))))
theorem hot2_listEnd {it l x1 x2 : Addr} {i : Nat} {items : Array Value} {Q : Option Value → Shared → Prop} (hot : Hot2 A x1 x2 s.heap) (hit : s.heap.IsListIter it l i) (hl : s.heap.IsList l items) (hx : items[i]? = none) (hne : x1 ≠ it) (hne2 : x2 ≠ it) (l2 : x2 < s.heap.objs.size) (l1 : x1 < s.heap.objs.size)
    (hQ : ∀ h', Heap.ExtBut it s.heap h' → Q none { s with heap := h' }) : wpAny (model prog w) A (pyNext (.ref it)) Q E s := by
  obtain ⟨o, ho, hc, hd⟩ := id hit
  obtain ⟨ol, hol, hcl, nl, hdl⟩ := hl
  unfold pyNext
  refine wpAny_bind (wpAny_attempt (wpAny_callSpecial?_slot (name := Str.ofString "__next__") hit.typeIs slot_listiter_next (wpAny_call_entry slot_listiter_next hit.typeIs entry_listiter_next ?_ (args_listiter_next _))))
  show wpAny _ _ (field (.ref it) 0 >>= _) _ _ s
  refine wpAny_bind (wpAny_field ho hd (x := .ref l) rfl ?_)
  show wpAny _ _ (if (Value.ref l == Value.none) = true then _ else _) _ _ s
  rw [if_neg (show ¬ ((Value.ref l == Value.none) = true) from Bool.false_ne_true)]
  show wpAny _ _ (field (.ref it) 1 >>= _) _ _ s
  refine wpAny_bind (wpAny_field ho hd (x := .int i 0) rfl ?_)
  show wpAny _ _ (seqItems? (.ref l) >>= _) _ _ s
  refine wpAny_bind (wpAny_seqItems hol hdl ?_)
  simp only [Int.toNat_natCast, hx]
  refine wpAny_bind (wpAny_rule (wpAny_bind (wpAny_setField ho hd (by simp) ?_)))
  show wpAny _ _ (newExc (.type "StopIteration") [] >>= _) _ _ _
  refine wpAny_bind ?_
  simp only [newExc, newTuple]
  refine wpAny_bind (wpAny_newObj_type ?_ (by size_fits))
  refine wpAny_bind (m := firstArgMember _ _) (wpAny_of_eq (a := Value.none) (by first | rfl | (simp only [firstArgMember]; rfl)) ?_)
  refine wpAny_newObj_type ?_ (by size_fits)
  have keep : ∀ {x : Addr}, x ≠ it → ∀ o, s.heap.get? x = some o → (s.heap.update it (Obj.mapFields (·.setIfInBounds 0 Value.none))).get? x = some o := fun n o e => (Heap.get?_update_other _ _ (Ne.symm n)).trans e
  have k2 : ∀ {x : Addr}, x ≠ it → ∀ o, s.heap.get? x = some o → ((s.heap.update it (Obj.mapFields (·.setIfInBounds 0 Value.none))).push { cls := .type "tuple", data := .seq ([] : List Value).toArray }).get? x = some o := fun n o e => Heap.get?_push_of_some _ (keep n o e)
  have sz : ∀ {x : Addr}, x < s.heap.objs.size → x ≠ ((s.heap.update it (Obj.mapFields (·.setIfInBounds 0 Value.none))).push { cls := .type "tuple", data := .seq ([] : List Value).toArray }).objs.size := fun {x} l z => by
    have z2 : x = _ := z
    rw [Heap.size_push, Heap.size_update] at z2
    have l : x < s.heap.objs.size := l
    rw [z2] at l
    exact absurd l (Nat.not_lt.mpr (Nat.le_succ _))
  refine raiseNew2 (x1 := x1) (x2 := x2) (hot.kept (fun o e => Heap.get?_push_of_some _ (k2 hne o e)) (fun o e => Heap.get?_push_of_some _ (k2 hne2 o e))) (sz l1) (sz l2) (Heap.get?_push_size _ rfl) rfl (by first | (simp; done) | (simp; omega)) ?_
  refine wpAny_bind (wpAny_isInstance (T := "StopIteration") (b := true) ⟨_, Heap.get?_update_self _ (Heap.get?_push_size _ rfl) rfl, rfl⟩ isSubtype_stop ?_)
  refine wpAny_pure (hQ _ fun b u hb e => ?_)
  have e1 : (s.heap.update it (Obj.mapFields (·.setIfInBounds 0 Value.none))).get? b = some u := (Heap.get?_update_other _ _ (Ne.symm hb)).trans e
  have e2 := Heap.get?_push_of_some { cls := .type "tuple", data := .seq ([] : List Value).toArray } e1
  rw [Heap.get?_update_other _ _ (Nat.ne_of_gt (Heap.lt_size e2))]
  exact Heap.get?_push_of_some _ e2
theorem hot2_walks (x1 x2 I ax : Addr) (hne : ax ≠ I) (hx : x1 ≠ I) (hx2 : x2 ≠ I) (items : Array Value) :
    Walks prog w A I [I, ax, x1, x2] [I] items.size (fun i v => items[i]? = some v) (fun i h => h.IsListIter I ax i ∧ h.IsList ax items ∧ Hot2 A x1 x2 h ∧ x2 < h.objs.size ∧ x1 < h.objs.size ∧ ∃ o2, h.get? x2 = some o2) where
  sub := fun b hb => by simp at hb; simp [hb]
  frame := fun i h h' st hk => ⟨st.1.at fun o e => hk I (by simp) o e, st.2.1.at fun o e => hk ax (by simp) o e, by
    obtain ⟨t, l2, l1, o2, g2⟩ := st.2.2
    obtain ⟨o1, _, g1, _⟩ := t.2
    exact ⟨t.kept (fun o e => hk x1 (by simp) o e) (fun o e => hk x2 (by simp) o e), Heap.lt_size (hk x2 (by simp) _ g2), Heap.lt_size (hk x1 (by simp) _ g1), o2, hk x2 (by simp) _ g2⟩⟩
  item := fun i s Q E hi st hQ => by
    refine wpAny_pyNext_list_item st.1 st.2.1 (x := items[i]) (by simp [hi]) fun h' hit' hs' => ?_
    refine hQ _ h' s.toks (by simp [hi]) ⟨hit', st.2.1.extBut hs'.extBut hne, ?_⟩ fun b o hb e => hs'.extBut b o (fun h => hb (by simp [h])) e
    obtain ⟨t, l2, l1, o2, g2⟩ := st.2.2
    obtain ⟨o1, _, g1, _⟩ := t.2
    exact ⟨t.kept (fun o e => hs'.extBut x1 o hx e) (fun o e => hs'.extBut x2 o hx2 e), Heap.lt_size (hs'.extBut x2 _ hx2 g2), Heap.lt_size (hs'.extBut x1 _ hx g1), o2, hs'.extBut x2 _ hx2 g2⟩
  done := fun s Q E st hQ => hot2_listEnd st.2.2.1 st.1 st.2.1 (by simp) hx hx2 st.2.2.2.1 st.2.2.2.2.1 fun h' he' => hQ h' s.toks fun b o hb e => he' b o (fun h => hb (by simp [h])) e
  self := fun _ _ _ _ st hQ => wpAny_pyIter_listiter st.1 hQ
end
/-- in X the handled error and its context are pinned -/
def HotD (X : Cx) : Prop := ∃ (a : Addr) (d : Option Addr) (oe : Obj) (vs : Array Value), X.A.handled = some (.ref a) ∧ (a, oe) ∈ X.pn ∧ oe.data = .fields vs ∧ vs[2]? = some (ctxV d) ∧ ∀ b, d = some b → b ≠ a ∧ ∃ ob vb, (b, ob) ∈ X.pn ∧ ob.data = .fields vb ∧ vb[2]? = some .none
theorem HotD.at {X : Cx} {pins : List (Addr × Obj)} {σ : L2.St} {H : Hp} {s : Shared} (c : HotD X) (I : Inv X pins σ H s) : ∃ x1 x2, Hot2 X.A x1 x2 s.heap ∧ ∃ o2, s.heap.get? x2 = some o2 := by
  obtain ⟨a, d, oe, vs, hh, pa, da, ca, hd⟩ := c
  have ga := (I.pin (a, oe) (List.mem_append_left _ pa)).1
  cases d with
  | none => exact ⟨a, a, ⟨hh, oe, vs, ga, da, .inl ca⟩, oe, ga⟩
  | some b =>
    obtain ⟨n, ob, vb, pb, db, cb⟩ := hd b rfl
    have gb := (I.pin (b, ob) (List.mem_append_left _ pb)).1
    exact ⟨a, b, ⟨hh, oe, vs, ga, da, .inr ⟨n, ca, ob, vb, gb, db, cb⟩⟩, ob, gb⟩
/-- [n for n in .. if n] over truths, while an exception is handled -/
theorem pe_hot2Lc {X : Cx} {n : Str} {pe px pc pos : Pos} {iter : Expr} {scope : Scope} {ti : TE} (hot : HotD X) (hi : PE X iter ti) (hcell : ∀ y ∈ scope.names, y.2 ≠ .cell) (hfree : ∀ y ∈ scope.names, y.2 ≠ .free) (hkind : scope.kind = .function)
    (hnames : ∀ y ∈ scope.names, y.2 = .local → scope.names.lookup y.1 = some .local) (hx : scope.names.lookup n = some .local) (hdb : (n == ("__debug__" : Str)) = false := by decide) (hs : ∀ x, foldedSetIterable iter X.env x = pure x := by intro _; rfl) :
    PE X (.ListComp (.Name n pe) [⟨.Name n px, iter, [.Name n pc], 0⟩] scope pos) (fun σ H Q => ti σ H fun v H1 => ∃ (a : Addr) (bs : List Bool), v = .ref a ∧ SqL X.K H1 a (bs.map V.bl) ∧ bs.length ≤ 1000 ∧ ∀ D, H1 D = none → Q (.ref D) (upd H1 D (.lst ((bs.filter id).map V.bl)))) := by
  refine ⟨fun pins s σ H Q I h => ?_⟩
  refine wpAny_ListComp_free (cl := []) isT (fun v y => v = y) ?_ hcell hkind hnames hx (wpAny_mono (hi.run pins s σ H _ I h) (fun v s1 hv => ?_) fun _ _ z => z) hs
  · rw [closure_ok fun y hy e => absurd e (hfree y hy)]
    have : ∀ (names : List (Str × NameKind)) acc, (∀ y ∈ names, y.2 ≠ .free) → cloFrom X.env.cells names acc = acc := by
      intro names
      induction names with
      | nil => intro acc _; rfl
      | cons y r ih =>
        obtain ⟨m, k⟩ := y
        intro acc hy
        unfold cloFrom
        have hk : ¬ (k == NameKind.free) = true := fun q => hy (m, k) List.mem_cons_self (eq_of_beq q)
        rw [if_neg hk]
        exact ih acc fun y hm => hy y (List.mem_cons_of_mem _ hm)
    rw [this _ _ hfree]
  · obtain ⟨v0, H1, I1, rv, a, bs, rfl, hsq, hz, q⟩ := hv
    cases rv
    obtain ⟨its, rl, pl, hl⟩ := I1.list hsq
    have eits : its = bs.map Value.bool := vals_bl rl
    obtain ⟨x1, x2, ht, ⟨o2, e2⟩⟩ := hot.at I1
    subst eits
    refine wpAny_pyIter_list pl.isList ?_
    have la : a < s1.heap.objs.size := let ⟨_, e, _⟩ := pl.isList; Heap.lt_size e
    obtain ⟨hh, o1, vs1, e1, d1, c1⟩ := id ht
    have lx2 : x2 < s1.heap.objs.size := Heap.lt_size e2
    have lx : x1 < s1.heap.objs.size := Heap.lt_size e1
    have kp : ∀ b o, s1.heap.get? b = some o → (s1.heap.push { cls := .type "list_iterator", data := .fields #[.ref a, .int 0 0] }).get? b = some o := fun b o e => Heap.get?_push_of_some _ e
    have hsz : (bs.map Value.bool).toArray.size = bs.length := by simp
    refine ⟨s1.heap.objs.size, _, _, _, _, _, rfl, hot2_walks x1 x2 s1.heap.objs.size a (Nat.ne_of_lt la) (Nat.ne_of_lt lx) (Nat.ne_of_lt lx2) (bs.map Value.bool).toArray, by rw [hsz]; exact Nat.le_trans hz (by decide), ⟨⟨_, Heap.get?_push_size _ rfl, rfl, rfl⟩, pl.isList.at fun o e => kp a o e, ht.kept (fun o e => kp x1 o e) (fun o e => kp x2 o e), Heap.lt_size (kp x2 _ e2), Heap.lt_size (kp x1 _ e1), o2, kp x2 _ e2⟩, fun b hb => ?_, ⟨fun C i v s3 m3 E' hC hP hn hm hk ht => ?_, fun C i v s3 m3 E' hC hP hp hn hm hk ht => ?_⟩, fun D h' tk ys vs hD hl2 hpl hlen hP hF hk => ?_⟩
    · have : b = s1.heap.objs.size ∨ b = a ∨ b = x1 ∨ b = x2 := by simpa using hb
      have h9 : b < s1.heap.objs.size + 1 := by
        rcases this with e | e | e | e
        · rw [e]; exact Nat.lt_succ_self _
        · rw [e]; exact Nat.lt_succ_of_lt la
        · rw [e]; exact Nat.lt_succ_of_lt lx
        · rw [e]; exact Nat.lt_succ_of_lt lx2
      show b < (s1.heap.push { cls := .type "list_iterator", data := .fields #[.ref a, .int 0 0] }).objs.size
      rw [Heap.size_push]
      exact h9
    · have hkn : (compEnvC scope [] C X.env).kindOf n = some .local := lookup_relabel_local (env := X.env) hx
      obtain ⟨b, rfl⟩ : ∃ b, v = Value.bool b := by
        have : v ∈ (bs.map Value.bool).toArray.toList := List.mem_of_getElem? (by rw [Array.getElem?_toList]; exact hP)
        obtain ⟨b, _, e⟩ := List.mem_map.mp (by simpa using this : v ∈ bs.map Value.bool)
        exact ⟨b, e.symm⟩
      refine wpAny_tests_one ?_
      show wpAny _ _ (do let v ← eval (.Name n pc) (compEnvC scope [] C X.env); standAt pc; holding [v] (truthy v)) _ _ _
      refine wpAny_bind (wpAny_Name (wpAny_loadName_local (show (relabel scope X.env).kind = .function from hkind) hkn hn hm (wpAny_bind (wpAny_standAt (wpAny_holding (wpAny_truthy_bool ?_))))) hdb)
      exact ⟨rfl, _, _, rfl, fun _ _ e => e⟩
    · have hkn : (compEnvC scope [] C X.env).kindOf n = some .local := lookup_relabel_local (env := X.env) hx
      exact wpAny_Name (wpAny_loadName_local (show (relabel scope X.env).kind = .function from hkind) hkn hn hm ⟨rfl, _, _, rfl, fun _ _ e => e⟩) hdb
    · have evs : vs = bs.map Value.bool := by
        refine List.ext_getElem (by rw [hlen, hsz, List.length_map]) fun j h1 h2 => ?_
        have := hP j vs[j] (List.getElem?_eq_getElem h1)
        rw [List.getElem?_toArray, List.getElem?_eq_getElem h2] at this
        exact (Option.some.inj this).symm
      subst evs
      rw [filt_isT] at hF
      have ey := paired_eq hF
      have hD1 : s1.heap.get? D = none := by
        cases z : s1.heap.get? D with
        | none => rfl
        | some u => rw [kp D u z] at hD; cases hD
      have k2 : ∀ b u, s1.heap.get? b = some u → h'.get? b = some u := fun b u e => hk b u (by
        have : b ≠ s1.heap.objs.size := Nat.ne_of_lt (Heap.lt_size e)
        simpa using this) (kp b u e)
      refine ⟨.ref D, _, inv_laid0 (s := s1) (t' := tk) (o := .lst ((bs.filter id).map V.bl)) I1 k2 hD1 ⟨?_, (bs.filter id).map Value.bool, ?_⟩, rfl, q D (I1.hok.gone hD1)⟩
      · rw [List.length_map]
        have := List.length_filter_le id bs
        exact Nat.le_trans (Nat.le_trans this hz) (by decide)
      · have e2 : ys = ((bs.filter id).map Value.bool).toArray := by rw [ey]
        obtain ⟨m, hm⟩ := hpl
        rw [e2] at hm
        exact ⟨m, vals_of_bl _, hm⟩
end PD

set_option maxHeartbeats 4000000
namespace PD
open PySem PySem.Spec PyProof.Rows L2
variable [PD.TabC]
/-! ### a def that is called in a suite; pl: the error that is handled, and its context -/
def AtL (pl : List (Addr × Obj)) (a : Addr) (cls : Value) (d : Option Addr) : Prop := ∃ oe vs, (a, oe) ∈ pl ∧ Zm cls d oe ∧ oe.data = .fields vs ∧ ∀ b, d = some b → b ≠ a ∧ ∃ ob vb, (b, ob) ∈ pl ∧ ob.data = .fields vb ∧ vb[2]? = some .none
structure FnE2 (P : Program) (w : World) (K : PySem.W.Frag) (mg : Str → Option Value) (base : Heap) (k : Nat) (f : Addr) (fd : FuncData) (ps : List Str) (sp : List (Addr × Obj) → Addr → Sp) : Prop where
  len : ∀ pl a vs H Q E, sp pl a vs H Q E → vs.length = ps.length
  run : ∀ (A : Around) (outer : List PySem.Env) (s : Shared) (H : Hp) (args : Args) (us : List Value) (vs : List V) (Q : VK) (pl : List (Addr × Obj)) (a : Addr), L2H.RoomH k A → A.handled = some (.ref a) → pl ≠ [] → (∀ p ∈ pl, L2H.PinOk outer H s p) → Env0 P w K mg base A outer s H → BindsTo s fd args (ps.zip us) → Vals vs us →
    sp pl a vs H Q E0 → codeAny (model P w) A (.call (.ref f) args) (CR CX0 outer P w H s Q E0) s
/-- the context of its body -/
def cxL (P : Program) (w : World) (K : PySem.W.Frag) (mg : Str → Option Value) (base : Heap) (N : List Str) (qual : Str) (scope : Scope) (f : Addr) (cd : Value) (A : Around) (outer : List PySem.Env) (s : Shared) (H : Hp) (pl : List (Addr × Obj)) : Cx :=
  { cxOf CX0 P w K mg base N qual scope f cd A outer s H E0 with calm := false, pn := pl }
section
variable {P : Program} {w : World} {K : PySem.W.Frag} {mg : Str → Option Value} {base : Heap}
theorem fnE2 {x qual : Str} {st : Stmt} {f : Addr} {fd : FuncData} {N ps : List Str} {k : Nat} {sp : List (Addr × Obj) → Addr → Sp} (F : Fun K x qual st f fd) (S : FnScope N ps (defScope st)) (len : ∀ pl a vs H Q E, sp pl a vs H Q E → vs.length = ps.length)
    (hbody : ∀ (cdv : Value) (A : Around) (outer : List PySem.Env) (s : Shared) (H : Hp) (vs : List V) (Q : VK) (pl : List (Addr × Obj)) (a : Addr), A.handled = some (.ref a) → L2H.RoomH k (A.deeper (envOfC qual (defScope st) s.heap.objs.size f cdv)) → sp pl a vs H Q E0 →
      WSs (cxL P w K mg base N qual (defScope st) f cdv A outer s H pl) (defBody st) { nx := fun _ H' => Q .non H', rt := Q } (L2.start N vs) H) : FnE2 P w K mg base (k + 1) f fd ps sp := by
  obtain ⟨oc, od, kV, doc, pm, an, cdv, ct, osl, rfl, lk, hcd⟩ := F.ex
  refine ⟨len, fun A outer s H args us vs Q pl a hr hot hne hpin e0 hb r hsp => ?_⟩
  have hl := len _ _ _ _ _ _ hsp
  have KX : K.In s.heap := e0.mod.kin.keeps fun b o e => (e0.bs b o e).1
  have lim : s.heap.NoLimit := e0.mod.nolimit.keeps fun b o e => (e0.bs b o e).1
  have kinds : ∀ y ∈ ps.zip us, (defScope st).names.lookup y.1 = some .local ∨ ((defScope st).names.lookup y.1 = some .cell ∧ ((cellsFrom (s.heap.objs.size + 1) (defScope st).names []).lookup y.1).isSome = true) := fun ⟨n, v⟩ hy => by
    rcases S.par n (List.of_mem_zip hy).1 with q | q
    · exact .inl q
    · exact .inr ⟨q, PySem.W.cellsFrom_some _ _ _ (.inl q)⟩
  refine codeAny_call_function hr.depth (KX _ _ lk) rfl S.co S.gen rfl (PySem.W.codeRec_of KX hcd) (hb _ _ _ _ (wpAny_newFunctionEnv_cells S.kind kinds fun env he s1 x => ?_))
  subst he
  refine ⟨lim.keeps x.toInCall.keep, codeAny_func ?_⟩
  obtain ⟨p0, rest, rfl⟩ : ∃ p0 rest, pl = p0 :: rest := by
    cases pl with
    | nil => exact absurd rfl hne
    | cons p0 rest => exact ⟨p0, rest, rfl⟩
  have J := L2H.inv_startH (CX := CX0) (cd := cdv) (E := E0) S (hpin p0 List.mem_cons_self) e0 hl r x
  have I : Inv (cxL P w K mg base N qual (defScope st) f cdv A outer s H (p0 :: rest)) [] (L2.start N vs) H s1 := by
    obtain ⟨h1, tk, es, hk⟩ := x.done
    have ok := J.ok
    refine ⟨⟨ok.mod, ok.kind, ok.glob, ok.blt, ok.above, ok.inj, ok.has, ok.cab, (fun z => Bool.noConfusion (show false = true from z)), ok.frames, ok.stk, ok.exf, ok.bs, ok.bsz, ok.noex, ok.exfs, ok.funs, ok.frf⟩, J.os, J.bare, J.base, J.loc, J.cell, J.free, J.freeC, fun p hp => ?_, J.hok, J.len⟩
    have hp : p ∈ p0 :: rest := by rw [List.append_nil] at hp; exact hp
    have pk := hpin p hp
    subst es
    exact ⟨hk p.1 p.2 pk.get, pk.free, Nat.ne_of_lt (Heap.lt_size pk.get), pk.nofs, pk.nocell⟩
  refine wpAny_mono (hbody cdv A outer s H vs Q (p0 :: rest) a hot (hr.deeper _) hsp [] s1 I) (fun fl s' hs => ?_) fun e s' hs => hs
  cases fl with
  | ret u => obtain ⟨v, σ', H', J, rv, q⟩ := hs; exact ⟨v, H', J.os, J.bare, J.base, J.hok, rv, q⟩
  | next => obtain ⟨σ', H', J, q⟩ := hs; exact ⟨.non, H', J.os, J.bare, J.base, J.hok, rfl, q⟩
  | brk => obtain ⟨_, _, _, q⟩ := hs; exact q.elim
  | cont => obtain ⟨_, _, _, q⟩ := hs; exact q.elim
end
section
variable {X : Cx} {k : Nat} {f : Addr} {fd : FuncData} {ps : List Str} {sp : List (Addr × Obj) → Addr → Sp} {x : Str} {q pos : Pos} {e : Expr} {es : List Expr} {t : TA} {a : Addr}
theorem pe_callE2 (F : FnE2 X.prog X.w X.K X.mg X.base k f fd ps sp) (hr : L2H.RoomH k X.A) (hot : X.A.handled = some (.ref a)) (hne : X.pn ≠ []) (hg : Gl X x) (hm : X.mg x = some (.ref f)) (hk : PySem.W.keepIn X.K (.ref f) = true) (hb : Binds X.K fd ps [])
    (ha : PA X (e :: es) t) (hdb : (x == ("__debug__" : Str)) = false := by decide) (he : starEach (e :: es) X.env = (false, eval e X.env) :: starEach es X.env := by rfl) (hpl : (backTo pos (starEach es X.env)).any (·.1) = false := by rfl) :
    PE X (.Call (.Name x q) (e :: es) [] pos) (fun σ H Q => t σ H fun vs H1 => sp X.pn a vs H1 Q E0) := by
  refine ⟨fun pins s σ H Q I h => wpAny_Call_Name_kw (ld_glob I hg hm (PySem.W.callWith_K (h₀ := X.base) I.ok.mod.kin hk (thn (ha.run pos pins s σ H _ I h) fun us s1 ⟨vs, H1, I1, r, q1⟩ => ⟨I1.kIn, ?_⟩) he hpl) hdb)⟩
  have hl : us.length = ps.length := by rw [← r.length]; exact F.len _ _ _ _ _ _ q1
  have b := hb s1 us I1.kIn (by rw [List.append_nil]; exact hl)
  rw [List.append_nil] at b
  have pins_ok : ∀ p ∈ X.pn, L2H.PinOk X.stack H1 s1 p := fun p hp => by
    have P1 := I1.pin p (List.mem_append_left _ hp)
    exact ⟨P1.1, P1.2.1, fun hm2 => (List.mem_cons.mp (I1.stkSub p.1 hm2)).elim P1.2.2.1 P1.2.2.2.1, P1.2.2.2.2⟩
  refine wpAny_call (codeAny_mono (F.run X.A X.stack s1 H1 ⟨us, []⟩ us vs Q X.pn a hr hot hne pins_ok I1.env0 b r q1) fun r2 s' hq => ?_)
  cases r2 with
  | error e => exact hq.elim
  | ok fl =>
    cases fl with
    | ret u => exact I1.after hq
    | next => exact hq.elim
    | brk => exact hq.elim
    | cont => exact hq.elim
end
section
variable {X : Cx} {W : WX} {ex : Addr → Prop} {ρ : List Sl} {pos pe px pc p p2 p3 q : Pos} {n c x : Str} {i k : Nat} {iter : Expr} {scope sc : Scope} {bs : List Bool} {f a D : Addr} {fd : FuncData} {ps ns gs : List Str} {d : Option Addr} {b1 b2 b3 b4 b5 b6 b7 b8 : Bool}
theorem el_hot2 (hot : HotD X) (h : EB X W ex iter ρ (bs.map .bool)) (hz : bs.length ≤ 1000) (hcell : ∀ y ∈ scope.names, y.2 ≠ .cell := by decide +kernel) (hfree : ∀ y ∈ scope.names, y.2 ≠ .free := by decide +kernel) (hkind : scope.kind = .function := by rfl)
    (hnames : ∀ y ∈ scope.names, y.2 = .local → scope.names.lookup y.1 = some .local := by decide +kernel) (hx : scope.names.lookup n = some .local := by rfl) (hdb : (n == ("__debug__" : Str)) = false := by decide) (hs : ∀ x, foldedSetIterable iter X.env x = pure x := by intro _; rfl) :
    EL X W ex (.ListComp (.Name n pe) [⟨.Name n px, iter, [.Name n pc], 0⟩] scope pos) ρ ((bs.filter id).map .bool) := fun B F H σ Q E xc q =>
  w_e (pe_hot2Lc hot pe_w hcell hfree hkind hnames hx hdb hs) (h B F H σ _ E xc fun r vs F1 H1 x1 hr i1 => by
    rw [i1.bools_eq] at hr
    refine ⟨r, bs, rfl, hr, hz, fun D hD => ?_⟩
    exact q D _ F1 _ (x1.trans (Ext.kept x1.i hD)) (x1.h.back hD) (x1.i.back hD) upd_same (IsAll.bools _))
def spAlone2 (K : PySem.W.Frag) (mg : Str → Option Value) : List (Addr × Obj) → Addr → Sp := fun pl a vs H Q _ => ∃ D d b1 b2 b3 b4 b5 b6 b7 b8, vs = [.ref a] ∧ AtL pl a (.ref D) d ∧ Kit8 K mg D b1 b2 b3 b4 b5 b6 b7 b8 ∧ LamX.Tabs TabC.T H ∧ ∀ H', Ex H H' → Tb H H' → Q (.bl true) H'
theorem ed_alone2 (lo : ns.all (locB sc) = true) (gl : gs.all (glB sc) = true) (i j : Nat) (F : FnE2 X.prog X.w X.K X.mg X.base k f fd ps (spAlone2 X.K X.mg)) (hr : L2H.RoomH k X.A) (hh : X.A.handled = some (.ref a)) (at2 : AtL X.pn a (.ref D) d) (kit : Kit8 X.K X.mg D b1 b2 b3 b4 b5 b6 b7 b8)
    (hm : X.mg x = some (.ref f)) (hk : PySem.W.keepIn X.K (.ref f) = true) (hb : Binds X.K fd ps []) (hN : X.N[i]? = some n := by rfl) (hn : ns[i]? = some n := by rfl) (hs : ρ[i]? = some (.raw (.ref a)) := by rfl) (hj : gs[j]? = some x := by rfl) (hsc : X.env.scope = sc := by rfl)
    (hd : (n == ("__debug__" : Str)) = false := by decide) (hcd : (n == ("__classdict__" : Str)) = false := by decide) (hdb : (x == ("__debug__" : Str)) = false := by decide) : ED X W ex (.Call (.Name x q) [.Name n p] [] pos) ρ (.bool true) := fun B F0 H σ Q E xc k0 => by
  obtain ⟨o, e1, h1⟩ := E.s i _ hs
  cases o with
  | none => exact h1.elim
  | some v =>
  have h1 : v = .ref a := h1
  subst h1
  have g1 : Gl X x := by show X.env.scope.names.lookup x = _; rw [hsc]; exact gl_of gl j hj
  have hne : X.pn ≠ [] := fun z => by obtain ⟨oe, _, h, _⟩ := at2; rw [z] at h; cases h
  refine w_e (pe_callE2 (a := a) F hr hh hne g1 hm hk hb (pa_cons (pe_var hN (by rw [hsc]; exact vis_of (loc_of lo i hn)) hd hcd) pa_nil) hdb rfl (by rfl)) ⟨_, e1, D, d, b1, b2, b3, b4, b5, b6, b7, b8, rfl, at2, kit, E.t, fun H' x y => ?_⟩
  exact k0 _ F0 H' ⟨Ex.refl F0, x, E.i.trans x, fun _ _ => rfl, y⟩ (.bl true)
end

/-! ### a def that may raise while another error is handled -/
def GotM (K : PySem.W.Frag) (F H : Hp) (Q : VK) (E : XK) : DOut → Prop
  | .exc C => ∀ d F' H', Ext F H F' H' → E (.ref C) d H'
  | o => Got K F H Q E o
def spM (K : PySem.W.Frag) (n : Nat) (R : List Sl → DOut → Prop) : Sp := fun vs H Q E => ∃ F as o, (Ex F H ∧ LamX.Tabs TabC.T H) ∧ AgsOk K F H vs as ∧ as.length = n ∧ R as o ∧ GotM K F H Q E o
structure CalM (P : Program) (w : World) (K : PySem.W.Frag) (mg : Str → Option Value) (base : Heap) (k : Nat) (x : Str) (n : Nat) (R : List Sl → DOut → Prop) : Prop where
  ex : ∃ (f : Addr) (fd : FuncData) (ps : List Str), FnOk P w K mg base (CM P w) k f fd ps (spM K n R) ∧ mg x = some (.ref f) ∧ PySem.W.keepIn K (.ref f) = true ∧ Binds K fd ps []
/-- what such a body may raise -/
def Wr (E : XK) : WX := fun c d _ H => d = none ∧ ∀ d2, E c d2 H
theorem lkM_of {K : PySem.W.Frag} {F H : Hp} {Q : VK} {E : XK} {N : List Str} : ∀ {o : DOut}, GotM K F H Q E o → Lk K (Wr E) F H (deOf o) { nx := fun _ H' => Q .non H', rt := Q }
  | .exc C, g => ⟨fun _ _ _ _ q => q.elim, fun _ _ _ _ q => q.elim, fun _ _ _ _ _ q => q.elim, fun _ _ _ _ q => q.elim, fun _ _ _ _ q => q.elim, fun C' ρ σ F1 H1 q s => by
      have q : C' = C := q
      subst q
      exact ⟨rfl, fun d => g d F1 H1 s.x⟩, fun _ _ _ _ q => q.elim⟩
  | .val d, g => by
      have l := lk_of (K := K) (N := N) (o := .val d) (E := E) g
      exact ⟨l.nx, l.rt, l.rl, l.bk, l.ct, fun _ _ _ _ _ q => q.elim, l.ro⟩
  | .new ds, g => by
      have l := lk_of (K := K) (N := N) (o := .new ds) (E := E) g
      exact ⟨l.nx, l.rt, l.rl, l.bk, l.ct, fun _ _ _ _ _ q => q.elim, l.ro⟩
  | .own P, g => by
      have l := lk_of (K := K) (N := N) (o := .own P) (E := E) g
      exact ⟨l.nx, l.rt, l.rl, l.bk, l.ct, fun _ _ _ _ _ q => q.elim, l.ro⟩
section
variable {P : Program} {w : World} {K : PySem.W.Frag} {mg : Str → Option Value} {base : Heap}
theorem fnM {x qual : Str} {st : Stmt} {f : Addr} {fd : FuncData} {N ps : List Str} {k : Nat} {R : List Sl → DOut → Prop} (F : Fun K x qual st f fd) (S : FnScope N ps (defScope st)) (hl : ps.length ≤ N.length)
    (hbody : ∀ (cdv : Value) (A : Around) (outer : List PySem.Env) (s : Shared) (H : Hp) (E : XK) (as : List Sl) (o : DOut), Room k (A.deeper (envOfC qual (defScope st) s.heap.objs.size f cdv)) → as.length = ps.length → R as o →
      SDs (cxOf (CM P w) P w K mg base N qual (defScope st) f cdv A outer s H E) (Wr E) (defBody st) (as ++ List.replicate (N.length - as.length) .un) (deOf o)) : FnOk P w K mg base (CM P w) (k + 1) f fd ps (spM K ps.length R) := by
  obtain ⟨oc, od, kV, doc, pm, an, cdv, ct, osl, rfl, lk, hcd⟩ := F.ex
  refine fn_of lk hcd S (fun vs H Q E ⟨F, as, o, _, h, hn, _⟩ => (paired_len h).trans hn) fun A outer s H vs Q E hr ⟨F0, as, o, i0, h, hn, hR, g⟩ => ?_
  have E0 := en_start N i0 h (by omega)
  exact ⟨WSs _ (defBody st), pss_w, hbody cdv A outer s H E as o hr hn hR F0 H F0 H (L2.start N vs) _ ⟨Ext.refl i0.1, E0⟩ (lkM_of (N := N) g)⟩
theorem calM_of {x : Str} {st : Stmt} {k n : Nat} {R : List Sl → DOut → Prop} {h : Heap} (X : K.In h) (G : h.Ns mainGlobals mg) (ps : List Str) (D : DefK K x st) (hb : BindK x st ps)
    (ok : ∀ (f : Addr) (fd : FuncData), Fun K x x st f fd → FnOk P w K mg base (CM P w) k f fd ps (spM K n R)) : CalM P w K mg base k x n R := by
  obtain ⟨f, oc, od, kV, doc, pm, an, cdv, ct, osl, a, l, c, kk⟩ := D
  have F := fun_mk l c kk
  exact ⟨f, _, ps, ok f _ F, PySem.W.mg_of X G a, kk, F.binds hb⟩
end
section
variable {X : Cx} {W Wo : WX} {ex : Addr → Prop} {e : Expr} {es : List Expr} {ρ as : List Sl} {d : PyData} {pos p p2 : Pos} {k n : Nat} {x : Str} {R : List Sl → DOut → Prop} {T : De} {C : Addr}
/-- what is taken of a known error's kind, by the judgement's own W -/
theorem takes_wr {X : Cx} {E : XK} (tk : TakesM X (fun c d _ H => E c d H)) : L2N.Takes X (Wr E) := tk.n.imp fun c d σ H h => ⟨h.1, h.2 none⟩
theorem callM_w (C : CalM X.prog X.w X.K X.mg X.base k x n R) (hr : Room k X.A) (hg : Gl X x) (tk : TakesM X Wo) (ha : EA X W ex (e :: es) ρ as) (hn : as.length = n) {o : DOut} (hR : R as o)
    {B F H : Hp} {σ : L2.St} {Q : VK} (E : En X.K B F H σ ρ) (c : Xc W ex F H σ) (q : ∀ F1 H1, Ext F H F1 H1 → GotM X.K F1 H1 Q (L2.WE Wo σ) o)
    (hdb : (x == ("__debug__" : Str)) = false := by decide) (he : starEach (e :: es) X.env = (false, eval e X.env) :: starEach es X.env := by rfl) (hpl : (backTo pos (starEach es X.env)).any (·.1) = false := by rfl) : PD.WE X (.Call (.Name x p) (e :: es) [] pos) σ H Q := by
  obtain ⟨f, fd, ps, Fn, hm, hk, hb⟩ := C.ex
  exact w_e (pe_callS Fn hr hg hm hk hb (fun σ => passM tk σ) pa_w hdb he hpl) (ha B F H σ _ E c fun vs F1 H1 x1 i1 => ⟨F1, as, o, ⟨x1.i, E.t.ups x1.t⟩, i1, hn, hR, q F1 H1 x1⟩)
/-- f(..), a value: nothing is raised -/
theorem ed_callM (C : CalM X.prog X.w X.K X.mg X.base k x n R) (hr : Room k X.A) (hg : Gl X x) (ha : EA X W ex (e :: es) ρ as) (hn : as.length = n) (hR : R as (.val d))
    (hdb : (x == ("__debug__" : Str)) = false := by decide) (he : starEach (e :: es) X.env = (false, eval e X.env) :: starEach es X.env := by rfl) (hpl : (backTo pos (starEach es X.env)).any (·.1) = false := by rfl) : ED X W ex (.Call (.Name x p) (e :: es) [] pos) ρ d := fun B F H σ Q E c q =>
  callM_w C hr hg takesM0 ha hn hR E c (fun F1 H1 x1 v F2 H2 x2 i2 => q v F2 H2 (x1.trans x2) i2) hdb he hpl
/-- try: f(..) except C as n: suite; f may raise or not -/
theorem sd_tryM {i : Nat} {c : Value} {y n1 : Str} {suite : List Stmt} {b0 : Stmt} {np pos' pos2 : Pos} {o : DOut} (hst : X.stack = X.env :: X.outer) (hf : X.env.frame = some X.env.locals) (hN : X.N.Nodup) (hi : X.N[i]? = some n1) (hln : X.env.kindOf n1 = some .local) (hc : Names X y c)
    (Cl : CalM X.prog X.w X.K X.mg X.base k x n R) (hr : Room k X.A) (hg : Gl X x) (ha : ∀ (W0 : WX) (pn : List (Addr × Obj)) (xe : Value → Shared → Prop), EA (X.tr pn xe) W0 noX (e :: es) ρ as) (hn : as.length = n) (hR : R as o)
    (hy : ∀ D, o = .exc D → PySem.W.exmOne X.K (.ref D) c = some true ∧ ∀ (a : Addr) (d : Option Addr) (pn : List (Addr × Obj)), AtHand (X.suite a pn) a (.ref D) d → SDs (X.suite a pn) noW (b0 :: suite) (ρ.set i (.raw (.ref a))) (T.gone i))
    (hv : ∀ d, o = .val d → T.nx ρ) (hno : ∀ P, o ≠ .own P) (hnn : ∀ ds, o ≠ .new ds)
    (hdb : (x == ("__debug__" : Str)) = false := by decide) (he : starEach (e :: es) X.env = (false, eval e X.env) :: starEach es X.env := by rfl) (hpl : (backTo p2 (starEach es X.env)).any (·.1) = false := by rfl)
    (hw : swapsWith (.Call (.Name x p) (e :: es) [] p2) none pos2.line X.env = pure false := by rfl) :
    SD X W (.Try [.Expr (.Call (.Name x p) (e :: es) [] p2) pos2] [.ExceptHandler (some (.Name y np)) (some n1) (b0 :: suite) pos'] [] [] pos) ρ T := fun F0 H0 F H σ D s l =>
  w_s (ps_tryM (tb := fun W0 D σ H => ∀ pn xe, TakesM (X.tr pn xe) W0 → WSs (X.tr pn xe) [.Expr (.Call (.Name x p) (e :: es) [] p2) pos2] D σ H)
      (ts := fun a cls d D σ H => ∀ pn, AtHand (X.suite a pn) a cls d → WSs (X.suite a pn) (b0 :: suite) D σ H) hst hf hN hi hln hc (fun W0 pn xe tk po => ⟨fun pins s1 σ1 H1 D1 I1 q => q pn xe tk pins s1 I1⟩) fun a cls d pn hand => ⟨fun pins s1 σ1 H1 D1 I1 q => q pn hand pins s1 I1⟩)
    fun pn xe tk => by
      refine w_ss (pss_one (ps_expr pe_w hw)) ?_
      refine callM_w (X := X.tr pn xe) (W := noW) (ex := noX) Cl hr hg tk (ha noW pn xe) hn hR s.e xc0 (fun F1 H1 x1 => ?_) hdb he hpl
      cases o with
      | val d => exact fun v F2 H2 x2 i2 => l.nx ρ σ F2 H2 (hv d rfl) ((s.go x1).go x2)
      | new ds => exact absurd rfl (hnn ds)
      | own P => exact absurd rfl (hno P)
      | exc C =>
        intro d F2 H2 x2
        obtain ⟨h1, h2⟩ := hy C rfl
        refine ⟨h1, fun a na pn2 hand => ?_⟩
        have s2 := (s.go x1).go x2
        have s3 : S2 X.K F0 H0 F2 H2 (σ.set i (some (.ref a))) (ρ.set i (.raw (.ref a))) := ⟨s2.x, s2.e.set (s := .raw (.ref a)) rfl rfl⟩
        have drop : ∀ ρ2 σ2 F2 H2, S2 X.K F0 H0 F2 H2 σ2 ρ2 → S2 X.K F0 H0 F2 H2 (σ2.set i none) (ρ2.set i .un) := fun ρ2 σ2 F2 H2 s2 => ⟨s2.x, s2.e.set_ (o := none) (s := .un) trivial fun _ _ _ _ h _ => nomatch h⟩
        exact h2 a d pn2 hand F0 H0 F2 H2 _ _ s3 ⟨fun ρ2 σ2 F2 H2 z s2 => l.nx _ _ F2 H2 z (drop _ _ _ _ s2), l.rt, l.rl, fun ρ2 σ2 F2 H2 z s2 => l.bk _ _ F2 H2 z (drop _ _ _ _ s2), fun ρ2 σ2 F2 H2 z s2 => l.ct _ _ F2 H2 z (drop _ _ _ _ s2), fun _ _ _ _ _ z => z.elim, l.ro⟩
/-- raise C(..) from None -/
theorem pmk5 {bmB : List Value} {B0 newId initId : String} {y : Str} {te : TE} (F : ExcBaseFacts B0 newId initId bmB) (q : PySem.W.excIn X.K C bmB newId = true) (gC : X.mg y = some (.ref C)) (kC : PySem.W.keepIn X.K (.ref C) = true) (r : Raises X (.ref C)) (hg : Gl X y)
    (h : PE X e te) (hs : starEach [e] X.env = (false, eval e X.env) :: starEach [] X.env := by rfl) (hdb : (y == ("__debug__" : Str)) = false := by decide) : L2H.PMk5 X (.Call (.Name y p) [e] [] pos) (fun σ H Q => te σ H fun _ H1 => Q (.ref C) none H1) := fun pins s σ H Q I hq => by
  refine wpAny_Call_Name_kw (ld_glob I hg gC (PySem.W.callWith_K (h₀ := X.base) I.ok.mod.kin kC ?_ hs (by rfl)) hdb)
  rw [hs]
  refine Calls.spliced_cons (thn (h.run pins s σ H _ I hq) fun u s1 ⟨v, H1, I1, _, q1⟩ => Calls.spliced_nil ⟨I1.kIn, ?_⟩)
  obtain ⟨_, _, _, _, _, _, _, _, _, _, _, _, _, _, _, _, _, hC, hN, hni, T⟩ := exc_obj I1.kIn q
  exact wpAny_call_exc_subT F T hC hN hni (fun h' e' hm => L2H.mk_of5 I1 hm r q1 (I1.hok.gone hm.new)) (by show 1 ≤ sizeLine; decide)
theorem sd_rzM {j : Nat} {cpos : Pos} {y : Str} {E : XK} (Ey : Er X.K X.mg y C) (hot : L2H.HotC X) (tk : TakesM X (fun c d _ H => E c d H)) (hg : Gl X y) (h : ED X (Wr E) (fun C => T.ex C ρ) e ρ d) (hx : T.ex C ρ)
    (hs : starEach [e] X.env = (false, eval e X.env) :: starEach [] X.env := by rfl) (hdb : (y == ("__debug__" : Str)) = false := by decide) : SD X (Wr E) (.Raise (some (.Call (.Name y p) [e] [] p2)) (some (.Constant .none j cpos)) pos) ρ T := fun F0 H0 F1 H1 σ D s l =>
  w_s (ps_raiseM hot tk (pmk5 PySem.F.excBase_ValueError Ey.q Ey.g Ey.k (raises_own Ey.b Ey.t) hg pe_w hs hdb)) (h H0 F1 H1 σ _ s.e (l.xc s) fun v F2 H2 x2 i2 => ⟨rfl, fun b => (l.ex C ρ σ F2 H2 hx (s.go x2)).2 (some b)⟩)
/-- try: .. except (A, B): a suite that raises -/
theorem sd_tryTup {x1 x2 : Str} {c1 c2 : Value} {body suite : List Stmt} {b0 : Stmt} {np1 np2 tpos pos' : Pos} {kk : Nat} {E : XK} (ex0 : Addr → List Sl → Prop) (hst : X.stack = X.env :: X.outer) (hf : X.env.frame = some X.env.locals) (n1 : Names X x1 c1) (n2 : Names X x2 c2)
    (pas : ∀ hd : Option Value, PassesOwnAt (model X.prog X.w) (X.A.mark hd) X.A X.env X.xe) (tk : TakesM X (fun c d _ H => E c d H))
    (hb : ∀ (W0 : WX) (pn : List (Addr × Obj)) (xe : Value → Shared → Prop), L2N.Takes (X.tr pn xe) W0 → PassesOwn (model X.prog X.w) X.A X.env xe → SDs (X.tr pn xe) W0 body ρ { T with ex := ex0 })
    (hh : ∀ C ρ1, ex0 C ρ1 → PySem.W.exmAny X.K (.ref C) [c1, c2] = some true ∧ ∀ (a : Addr) (pn : List (Addr × Obj)), L2H.HotC (L2H.suiteX X a pn) → TakesM (L2H.suiteX X a pn) (fun c d _ H => E c d H) → SDs (L2H.suiteX X a pn) (Wr E) (b0 :: suite) ρ1 T) :
    SD X (Wr E) (.Try body [.ExceptHandler (some (.Tuple [.Name x1 np1, .Name x2 np2] kk tpos)) none (b0 :: suite) pos'] [] [] pos) ρ T := fun F0 H0 F H σ D s l =>
  w_s (ps_tryTup (tb := fun W0 D σ H => ∀ pn xe, L2N.Takes (X.tr pn xe) W0 → PassesOwn (model X.prog X.w) X.A X.env xe → WSs (X.tr pn xe) body D σ H)
      (ts := fun a cls d D σ H => ∀ pn, L2H.HotC (L2H.suiteX X a pn) → TakesM (L2H.suiteX X a pn) (fun c d _ H => E c d H) → WSs (L2H.suiteX X a pn) (b0 :: suite) D σ H) hst hf n1 n2 pas tk
      (fun W0 pn xe tk po => ⟨fun pins s1 σ1 H1 D1 I1 q => q pn xe tk po pins s1 I1⟩) fun a oe cls d pn hz hd tk2 hot => ⟨fun pins s1 σ1 H1 D1 I1 q => q _ hot tk2 pins s1 I1⟩)
    fun pn xe tk2 po => hb _ pn xe tk2 po F0 H0 F H σ D s ⟨l.nx, l.rt, l.rl, l.bk, l.ct, fun C ρ1 σ1 F1 H1 z s1 => ⟨(hh C ρ1 z).1, fun a na pn2 hot tk3 => (hh C ρ1 z).2 a pn2 hot tk3 F0 H0 F1 H1 σ1 D s1 l⟩, l.ro⟩
end
end PD

set_option maxHeartbeats 4000000
namespace PD
open PySem PySem.Spec PyProof.Rows L2
variable [PD.TabC]
/-! ### a comprehension one of whose items raises -/
/-- in the block, where what is raised is taken -/
abbrev BlkT (X : Cx) (scope : Scope) (P : Cx → WX → Prop) : Prop := ∀ (Wb : WX) (s : Shared) (H : Hp) (C : Addr) (cl : List (Str × Addr)) (fp : List Addr) (pn : List (Addr × Obj)) (xe : Value → Shared → Prop),
  L2N.Takes ((X.blk s H scope (compEnvC scope cl C X.env) fp).tr pn xe) Wb → P ((X.blk s H scope (compEnvC scope cl C X.env) fp).tr pn xe) Wb
def WEBT (X : Cx) (scope : Scope) (e : Expr) (Wb : WX) : TE := fun σ H Q => ∀ (s : Shared) (H0 : Hp) (C : Addr) (cl : List (Str × Addr)) (fp : List Addr) (pn : List (Addr × Obj)) (xe : Value → Shared → Prop),
  L2N.Takes ((X.blk s H0 scope (compEnvC scope cl C X.env) fp).tr pn xe) Wb → WE ((X.blk s H0 scope (compEnvC scope cl C X.env) fp).tr pn xe) e σ H Q
section
variable {X : Cx} {W : WX} {ex : Addr → Prop} {e a b c elt iter : Expr} {es ifs : List Expr} {ρ as : List Sl} {d : PyData} {ds : List PyData} {pos tpos : Pos} {scope : Scope} {n : Str} {j k : Nat}
theorem w_tImp {X : Cx} {ifs : List Expr} {σ : L2.St} {H : Hp} {Q Q2 : Bool → Hp → Prop} (k : ∀ b H, Q b H → Q2 b H) (h : ptsT X ifs σ H Q) : ptsT X ifs σ H Q2 := match ifs, h with
  | [], h => k _ _ h
  | [c], h => fun pins s I => wpAny_mono (h pins s I) (fun _ _ ⟨H1, I1, q⟩ => ⟨H1, I1, k _ _ q⟩) fun _ _ x => x
theorem ex_lcX {α : Type} (L : LcOk X scope ifs n j iter) (hst : X.stack = X.env :: X.outer) (hf : X.env.frame = some X.env.locals) (tk : L2N.Takes X W) (xs : List α) (q : α → PyData) (bt : α → Bool) (g : α → PyData) (h : EP' X W ex iter ρ (xs.map q)) (hz : xs.length ≤ 50000)
    (kx : Nat) (x0 : α) (hx0 : xs[kx]? = some x0) (h0 : bt x0 = true) {C : Addr} (hC : ex C)
    (hT : ∀ x ∈ xs, Blk X scope fun Y => TsD Y ifs ((ρ.set j .un).set j (.sh (q x))) (bt x))
    (hG : ∀ i x, i < kx → xs[i]? = some x → bt x = true → BlkT X scope fun Y Wb => ED Y Wb noX elt ((ρ.set j .un).set j (.sh (q x))) (g x))
    (hR : BlkT X scope fun Y Wb => EX Y Wb (fun D => D = C) elt ((ρ.set j .un).set j (.sh (q x0)))) : EX X W ex (.ListComp elt [⟨.Name n tpos, iter, ifs, 0⟩] scope pos) ρ := fun B F H σ Q E xc =>
  w_e (pe_lcX (own := [(n, j)]) (te := fun Wb => WEBT X scope elt Wb) L.calm L.nd hst hf tk (pi_list pe_w) L.blk (lc_tgt L) (fun _ _ _ _ _ => pts_wb L.one) (fun Wb s H C cl fp pn xe tkb => ⟨fun pins s1 σ H1 Q I h => h s H C cl fp pn xe tkb pins s1 I⟩) L.fset) (by
    refine h B F H σ _ E xc fun r vs F1 H1 x1 hr i1 => ?_
    have E1 := E.ext x1
    have hsq : ∀ H', Ex H1 H' → SqL X.K H' r vs := fun H' y => by
      rcases hr with hr | hr
      · exact (E1.b.trans y).sql hr
      · exact (x1.i.trans y).sql hr
    have lt : kx < xs.length := (List.getElem?_eq_some_iff.mp hx0).1
    refine ⟨r, rfl, ⟨vs, hsq H1 (Ex.refl H1)⟩, fun D hD => lc_list (xs := vs) (fun i H' => i ≤ kx ∧ Cm X.K F1 H1 D (((xs.take i).filter bt).map g) H') ⟨Nat.zero_le _, F1, [], Ext.kept x1.i hD, x1.i.back hD, upd_same, .nil⟩ (fun i H' _ ⟨_, F', acc, y, _⟩ => hsq H' y.h) ?_ ?_⟩
    · intro i v H' hi ⟨hik, hc⟩
      obtain ⟨d', hd, id'⟩ := i1.get' hi
      rw [List.getElem?_map] at hd
      cases hx : xs[i]? with
      | none => rw [hx] at hd; cases hd
      | some x =>
        rw [hx] at hd
        cases hd
        have hm : x ∈ xs := List.mem_of_getElem? hx
        refine ⟨wipe1, ?_⟩
        have enter : ∀ F H, Ext F1 H1 F H → En X.K B F H (((L2.wipe σ [j]).set j (some v))) ((ρ.set j .un).set j (.sh (q x))) := fun F H x1 => ((E1.ext x1).wipe j).set (s := .sh (q x)) (id'.mono x1.f) rfl
        by_cases hk : i = kx
        · subst hk
          rw [hx0] at hx; cases hx
          obtain ⟨F2, acc, y, f0, hh, ia⟩ := hc
          exact fun s H0 C1 cl fp => pts_run (hT x0 (List.mem_of_getElem? hx0) s H0 C1 cl fp) (enter F2 H' y) fun F3 H3 x3 => by
            rw [if_pos h0]
            intro s2 H2 C2 cl2 fp2 pn xe tkb
            exact hR _ s2 H2 C2 cl2 fp2 pn xe tkb B F3 H3 _ _ ((enter F2 H' y).ext x3) fun D2 F4 H4 e4 x4 => by
              subst e4
              exact xc _ F4 H4 hC ((x1.trans y).trans (x3.trans x4))
        · have lk : i < kx := Nat.lt_of_le_of_ne hik hk
          have z := cm_turn (α := α) (X := X) (σ := σ) (t := WTB X scope ifs) (te := WEBT X scope elt fun cls d _ H' => W cls d σ H') (B := B) (F1 := F1) (H1 := H1) (σ2 := (L2.wipe σ [j]).set j (some v)) (ρ2 := (ρ.set j .un).set j (.sh (q x))) (k := bt x) (r := g x) (fun F H Q E2 k2 s H0 C cl fp => pts_run (hT x hm s H0 C cl fp) E2 k2)
            (fun hk F H Q E2 k2 s H0 C cl fp pn xe tkb => hG i x lk hx hk _ s H0 C cl fp pn xe tkb B F H _ Q E2 xcN k2) enter hD (by
              rw [List.length_map]
              have l1 := List.length_filter_le bt (xs.take i)
              have l3 : (xs.take i).length ≤ xs.length := by rw [List.length_take]; exact Nat.min_le_right _ _
              omega) hc
          rw [← filt_snoc xs bt g hx] at z
          intro s H0 C cl fp
          refine w_tImp (fun b H3 hb => ?_) (z s H0 C cl fp)
          cases hbb : b with
          | false => rw [hbb] at hb; exact ⟨Nat.succ_le_of_lt lk, by simpa using hb⟩
          | true =>
            rw [hbb] at hb
            have hb := (show WEBT X scope elt (fun cls d _ H' => W cls d σ H') _ H3 _ from by simpa using hb)
            intro s2 H2 C2 cl2 fp2 pn xe tkb
            exact (hb s2 H2 C2 cl2 fp2 pn xe tkb).imp fun y H4 ⟨acc, a1, a2, a3⟩ => ⟨acc, a1, a2, Nat.succ_le_of_lt lk, a3⟩
    · rintro H' ⟨hle, _⟩
      rw [i1.len, List.length_map] at hle
      omega)
/-- arguments, one of which raises -/
def EAX (X : Cx) (W : WX) (ex : Addr → Prop) (es : List Expr) (ρ : List Sl) : Prop := ∀ B F H σ (Q : List V → Hp → Prop), En X.K B F H σ ρ → Xc W ex F H σ → WA X es σ H Q
theorem eax_here (h : EX X W ex e ρ) (hs : starEach (e :: es) X.env = (false, eval e X.env) :: starEach es X.env := by rfl) : EAX X W ex (e :: es) ρ := fun B F H σ Q E c => w_a (pa_cons pe_w pa_w hs) (h B F H σ _ E c)
theorem eax_next (h : ED X W ex e ρ d) (r : EAX X W ex es ρ) (hs : starEach (e :: es) X.env = (false, eval e X.env) :: starEach es X.env := by rfl) : EAX X W ex (e :: es) ρ := fun B F H σ Q E c =>
  w_a (pa_cons pe_w pa_w hs) (h B F H σ _ E c fun v F1 H1 x1 i1 => r B F1 H1 σ _ (E.ext x1) (c.ext x1))
theorem ex_tup {m : Nat} (h : EAX X W ex es ρ) : EX X W ex (.Tuple es m pos) ρ := fun B F H σ Q E c => w_e (pe_tup pa_w) (h B F H σ _ E c)
end
section
variable {X : Cx} {W : WX} {ex : Addr → Prop} {ρ : List Sl} {d : PyData} {pos : Pos} {n : Str} {scope : Scope} {s : Shared} {H : Hp} {C : Addr} {cl : List (Str × Addr)} {fp : List Addr} {pn : List (Addr × Obj)} {xe : Value → Shared → Prop}
theorem ed_bt (i : Nat) (hN : X.N[i]? = some n := by rfl) (hv : scope.names.lookup n = some .local ∨ scope.names.lookup n = some .cell ∨ scope.names.lookup n = some .free := by first | exact .inl rfl | exact .inr (.inr rfl) | exact .inr (.inl rfl)) (hs : ρ[i]? = some (.sh d) := by rfl)
    (hd : (n == ("__debug__" : Str)) = false := by decide) (hcd : (n == ("__classdict__" : Str)) = false := by decide) : ED ((X.blk s H scope (compEnvC scope cl C X.env) fp).tr pn xe) W ex (.Name n pos) ρ d := ed_at hN (vis_rel (env := X.env) hv) hs hd hcd
theorem gl_bt (h : scope.names.lookup n = some .globalImplicit := by rfl) : Gl ((X.blk s H scope (compEnvC scope cl C X.env) fp).tr pn xe) n := gl_rel (env := X.env) h
end
end PD

set_option maxHeartbeats 4000000
/-! sorted(.., key=f): keys by a call, then a stable sort, of any length. -/
namespace LamK
open PySem PyProof.Rows Srt SrtO
section order
variable {α β : Type} {lt : α → α → Bool}
/-- an item put into a sorted row, ahead of those that no test tells apart -/
def ins (lt : α → α → Bool) (x : α) : List α → List α
  | [] => [x]
  | y :: r => if lt y x = true then y :: ins lt x r else x :: y :: r
/-- the stable sort -/
def isort (lt : α → α → Bool) : List α → List α
  | [] => []
  | x :: r => ins lt x (isort lt r)
theorem ins_perm (x : α) : ∀ l : List α, (ins lt x l).Perm (x :: l)
  | [] => List.Perm.refl _
  | y :: r => by
    unfold ins
    split
    · exact ((ins_perm x r).cons y).trans (List.Perm.swap x y r)
    · exact List.Perm.refl _
theorem isort_perm : ∀ l : List α, (isort lt l).Perm l
  | [] => List.Perm.refl _
  | x :: r => (ins_perm x _).trans ((isort_perm r).cons x)
theorem ins_srtd' (O : Swo lt) (x : α) : ∀ {l : List α}, Srtd lt l → Srtd lt (ins lt x l)
  | [], _ => List.pairwise_singleton _ _
  | y :: r, h => by
    unfold ins
    split
    · rename_i hy
      refine List.pairwise_cons.mpr ⟨fun z hz => ?_, ins_srtd' O x (List.pairwise_cons.mp h).2⟩
      rcases List.mem_cons.mp ((ins_perm x r).mem_iff.mp hz) with e | hz
      · rw [e]; exact O.asym y x hy
      · exact (List.pairwise_cons.mp h).1 z hz
    · rename_i hy
      have hy : lt y x = false := by simpa using hy
      refine List.pairwise_cons.mpr ⟨fun z hz => ?_, h⟩
      rcases List.mem_cons.mp hz with e | hz
      · rw [e]; exact hy
      · exact O.tr x y z hy ((List.pairwise_cons.mp h).1 z hz)
theorem isort_srtd (O : Swo lt) : ∀ l : List α, Srtd lt (isort lt l)
  | [] => List.Pairwise.nil
  | x :: r => ins_srtd' O x (isort_srtd O r)
theorem ins_stb' (O : Swo lt) (x : α) : ∀ l : List α, Stb lt (ins lt x l) (x :: l)
  | [] => Stb.refl _
  | y :: r => by
    unfold ins
    split
    · rename_i hy
      have h1 : Stb lt (y :: ins lt x r) (y :: x :: r) := (Stb.refl [y]).app (ins_stb' O x r)
      have h2 : Stb lt ([y] ++ [x]) ([x] ++ [y]) := Stb.swap O fun a ha b hb => by rw [List.mem_singleton.mp ha, List.mem_singleton.mp hb]; exact hy
      exact h1.trans (h2.app (Stb.refl r))
    · exact Stb.refl _
theorem isort_stb (O : Swo lt) : ∀ l : List α, Stb lt (isort lt l) l
  | [] => Stb.refl _
  | x :: r => (ins_stb' O x _).trans ((Stb.refl [x]).app (isort_stb O r))
theorem eqv_refl (O : Swo lt) (x : α) : eqv lt x x = true := eqv_iff.mpr ⟨O.refl x, O.refl x⟩
/-- what is sorted and stable is one -/
theorem srt_one (O : Swo lt) : ∀ {l m : List α}, Srtd lt l → Srtd lt m → Stb lt l m → l = m
  | [], m, _, _, s => (List.nil_perm.mp s.perm).symm
  | x :: l, [], _, _, s => absurd s.perm.length_eq (by simp)
  | x :: l, y :: m, hl, hm, s => by
    have hxy : lt y x = false := by
      rcases List.mem_cons.mp (s.perm.mem_iff.mpr List.mem_cons_self : y ∈ x :: l) with e | h
      · rw [e]; exact O.refl x
      · exact (List.pairwise_cons.mp hl).1 y h
    have hyx : lt x y = false := by
      rcases List.mem_cons.mp (s.perm.mem_iff.mp List.mem_cons_self : x ∈ y :: m) with e | h
      · rw [e]; exact O.refl y
      · exact (List.pairwise_cons.mp hm).1 x h
    have e := s.cls x
    rw [List.filter_cons_of_pos (eqv_refl O x), List.filter_cons_of_pos (eqv_iff.mpr ⟨hyx, hxy⟩)] at e
    have e1 : x = y := (List.cons.inj e).1
    subst e1
    have s2 : Stb lt l m := ⟨List.Perm.cons_inv s.perm, fun z => by
      have q := s.cls z
      by_cases hz : eqv lt z x = true
      · rw [List.filter_cons_of_pos hz, List.filter_cons_of_pos hz] at q
        exact (List.cons.inj q).2
      · rw [List.filter_cons_of_neg hz, List.filter_cons_of_neg hz] at q
        exact q⟩
    rw [srt_one O (List.pairwise_cons.mp hl).2 (List.pairwise_cons.mp hm).2 s2]
theorem ins_map {lu : β → β → Bool} (f : α → β) (x : α) : ∀ {l : List α}, (∀ y ∈ l, lu (f y) (f x) = lt y x) → (ins lt x l).map f = ins lu (f x) (l.map f)
  | [], _ => rfl
  | y :: r, h => by
    have e := h y List.mem_cons_self
    show (if lt y x = true then y :: ins lt x r else x :: y :: r).map f = (if lu (f y) (f x) = true then f y :: ins lu (f x) (r.map f) else f x :: f y :: r.map f)
    rw [e]
    split
    · rw [List.map_cons, ins_map f x fun z hz => h z (List.mem_cons_of_mem _ hz)]
    · rfl
theorem isort_map {lu : β → β → Bool} (f : α → β) : ∀ {l : List α}, (∀ x ∈ l, ∀ y ∈ l, lu (f y) (f x) = lt y x) → (isort lt l).map f = isort lu (l.map f)
  | [], _ => rfl
  | x :: r, h => by
    have e := isort_map f (l := r) fun a ha b hb => h a (List.mem_cons_of_mem _ ha) b (List.mem_cons_of_mem _ hb)
    show (ins lt x (isort lt r)).map f = ins lu (f x) (isort lu (r.map f))
    rw [ins_map f x fun y hy => h x List.mem_cons_self y (List.mem_cons_of_mem _ ((isort_perm r).mem_iff.mp hy)), e]
theorem isort_congr {lu : α → α → Bool} {l : List α} (h : ∀ x ∈ l, ∀ y ∈ l, lu y x = lt y x) : isort lt l = isort lu l := by
  have q := isort_map (lt := lt) (lu := lu) (fun x => x) (l := l) h
  simpa using q
end order
section
variable {prog : Program} {w : World} {A : Around} {E : Value → Shared → Prop} {s : Shared} {a kS : Addr} {b : Bool} {vs : List Value} {keys : Array Value} {e e1 : Nat} {P : PySem.Fin → Shared → Prop} {ltv : Value → Value → Bool}
/-- how two values that were told keys compare -/
def Cmp1 (prog : Program) (w : World) (A : Around) (keys : List Value) (ltv : Value → Value → Bool) : Prop := (2 ≤ keys.length → keyKind' keys.toArray = pure oneType') ∧ ∀ s, Cmp prog w A s oneType' (fun p => p.1 ∈ keys) (lt2 ltv)
def outOf (b : Bool) (ps : List Keyed) : List Value := if b = true then (ps.map (·.2)).reverse else ps.map (·.2)
def inOf (b : Bool) (l : List Keyed) : List Keyed := if b = true then l.reverse else l
theorem inOf_mem {b : Bool} {l : List Keyed} {p : Keyed} : p ∈ inOf b l ↔ p ∈ l := by
  unfold inOf
  split
  · exact List.mem_reverse
  · exact Iff.rfl
theorem inOf_len {b : Bool} {l : List Keyed} : (inOf b l).length = l.length := by
  unfold inOf
  split
  · exact List.length_reverse
  · rfl
theorem inOf_arr {b : Bool} : (if b = true then (keys.zip vs.toArray).reverse else keys.zip vs.toArray).toList = inOf b (keys.toList.zip vs) := by
  unfold inOf
  cases b with
  | true => rw [if_pos rfl, if_pos rfl, Array.toList_reverse, ksk_zip]
  | false => rw [if_neg Bool.false_ne_true, if_neg Bool.false_ne_true, ksk_zip]
theorem outOf_arr {b : Bool} {xs : Array Keyed} : (if b = true then (xs.map (·.2)).reverse else xs.map (·.2)).toList = outOf b xs.toList := by
  unfold outOf
  cases b with
  | true => rw [if_pos rfl, if_pos rfl, Array.toList_reverse, Array.toList_map]
  | false => rw [if_neg Bool.false_ne_true, if_neg Bool.false_ne_true, Array.toList_map]
theorem ks_tail {st : SortSt} (nk : s.heap.get? kS = some (seqObj "list" keys e)) (na : s.heap.get? a = some (seqObj "list" #[] e1)) (hka : kS ≠ a) (hlen : keys.size = vs.length) (hZ : vs.length ≤ sizeLine)
    (hst : Stb (lt2 ltv) (arrOf st).toList (inOf b (keys.toList.zip vs))) (hs : Srtd (lt2 ltv) (arrOf st).toList) (hfl : failedOf st = none)
    (h : ∀ (ps : List Keyed) h' tk c, (∀ x o, x ≠ kS → x ≠ a → s.heap.get? x = some o → h'.get? x = some o) → (∃ o, h'.get? kS = some o ∧ ∀ v, o.data ≠ .cell v) → h'.get? a = some (seqObj "list" (outOf b ps).toArray c) → Srtd (lt2 ltv) ps → Stb (lt2 ltv) ps (inOf b (keys.toList.zip vs)) → P (.done (.ret .none)) { s with heap := h', toks := tk }) :
    wpAny (model prog w) A (ksk_tail a b e1 (.ref kS) st) P E s := by
  have hsz2 : (arrOf st).size = vs.length := by
    have q := hst.len
    rw [inOf_len, List.length_zip, Array.length_toList, Array.length_toList, hlen, Nat.min_self] at q
    exact q
  have hout : (if b then ((arrOf st).map (·.2)).reverse else (arrOf st).map (·.2)).size = vs.length := by
    cases b with
    | false => simp only [Bool.false_eq_true, if_false, Array.size_map]; exact hsz2
    | true => simp only [if_true, Array.size_reverse, Array.size_map]; exact hsz2
  have s1 := Heap.SameBut.update s.heap kS (Obj.mapSeq fun _ => (#[] : Array Value))
  have na1 : (s.heap.update kS (Obj.mapSeq fun _ => (#[] : Array Value))).get? a = some (seqObj "list" #[] e1) := (s1.2 a hka.symm).trans na
  have hX : (if b then ((arrOf st).map (·.2)).reverse else (arrOf st).map (·.2)) = (outOf b (arrOf st).toList).toArray := by rw [← outOf_arr, Array.toArray_toList]
  rw [hX] at hout
  obtain ⟨c1, hc1⟩ : ∃ c, (s.heap.update kS (Obj.mapSeq fun _ => (#[] : Array Value))).get? kS = some (seqObj "list" #[] c) := by
    have q := get?_update_seq nk (fun _ => (#[] : Array Value))
    exact ⟨_, q⟩
  have s2 := Heap.SameBut.update (s.heap.update kS (Obj.mapSeq fun _ => (#[] : Array Value))) a (Obj.mapSeq fun _ => (outOf b (arrOf st).toList).toArray)
  have hc2 := get?_update_seq na1 (fun _ => (outOf b (arrOf st).toList).toArray)
  unfold ksk_tail
  try dsimp only
  rw [hX]
  refine wpAny_bind (listUpdate_at nk rfl ?_ (by rw [hlen]; exact hZ) (Nat.zero_le _))
  refine wpAny_bind (wpAny_letGo ?_)
  refine wpAny_bind (seqEpoch_at na1 rfl ?_)
  refine wpAny_bind (listUpdate_at na1 rfl ?_ (Nat.zero_le _) (Nat.le_trans (Nat.le_of_eq hout) (Nat.le_succ_of_le hZ)))
  rw [hfl]
  simp only [bne_self_eq_false, Bool.false_eq_true, if_false]
  refine wpAny_pure (h (arrOf st).toList _ _ _ (fun x o h1 h2 q => (s2.2 x h2).trans ((s1.2 x h1).trans q)) ⟨_, (s2.2 kS hka).trans hc1, fun v z => by cases z⟩ hc2 hs hst)
theorem ks_end (nk : s.heap.get? kS = some (seqObj "list" keys e)) (na : s.heap.get? a = some (seqObj "list" #[] e1)) (hka : kS ≠ a) (hlen : keys.size = vs.length) (hZ : vs.length ≤ sizeLine) (O : Swo ltv) (C : Cmp1 prog w A keys.toList ltv)
    (h : ∀ (ps : List Keyed) h' tk c, (∀ x o, x ≠ kS → x ≠ a → s.heap.get? x = some o → h'.get? x = some o) → (∃ o, h'.get? kS = some o ∧ ∀ v, o.data ≠ .cell v) → h'.get? a = some (seqObj "list" (outOf b ps).toArray c) → Srtd (lt2 ltv) ps → Stb (lt2 ltv) ps (inOf b (keys.toList.zip vs)) → P (.done (.ret .none)) { s with heap := h', toks := tk }) :
    wpAny (model prog w) A (ksk_end a b vs.toArray e1 (.ref kS) keys) P E s := by
  have step : ∀ t : Sem PySem.Fin, wpAny (model prog w) A t P E s → wpAny (model prog w) A (if b = true then (do let _ ← rule "list.sort.reverse"; t) else t) P E s := by
    intro t ht
    split
    · exact wpAny_bind (wpAny_rule ht)
    · exact ht
  have hl2 : (inOf b (keys.toList.zip vs)).length = vs.length := by rw [inOf_len, List.length_zip, Array.length_toList, hlen, Nat.min_self]
  unfold ksk_end
  try dsimp only
  refine step _ ?_
  by_cases h2 : vs.toArray.size < 2
  · rw [if_pos h2, if_pos h2]
    refine wpAny_bind (wpAny_pure ?_)
    rw [StateT.run_pure]
    refine wpAny_bind (wpAny_pure ?_)
    try dsimp only
    refine ks_tail (st := SortSt.mk' general' (if b = true then (keys.zip vs.toArray).reverse else keys.zip vs.toArray) #[] 7 none) nk na hka hlen hZ (Stb.of_eq inOf_arr) ?_ rfl h
    show Srtd (lt2 ltv) (if b = true then (keys.zip vs.toArray).reverse else keys.zip vs.toArray).toList
    rw [inOf_arr]
    rw [List.size_toArray] at h2
    match hm : inOf b (keys.toList.zip vs), hl2 with
    | [], _ => exact List.Pairwise.nil
    | [p], _ => exact List.pairwise_singleton _ _
    | _ :: _ :: l, hl2 => rw [List.length_cons, List.length_cons] at hl2; omega
  · rw [if_neg h2, if_neg h2]
    rw [List.size_toArray] at h2
    have hk := C.1 (by rw [Array.length_toList, hlen]; omega)
    rw [Array.toArray_toList] at hk
    rw [hk]
    refine wpAny_bind (wpAny_pure ?_)
    refine wpAny_bind (wpAny_mono (wpS_sortO (P := fun p => p.1 ∈ keys.toList) (st0 := SortSt.mk' oneType' (if b = true then (keys.zip vs.toArray).reverse else keys.zip vs.toArray) #[] 7 none)
      (Q := fun _ st' => Srtd (lt2 ltv) (arrOf st').toList ∧ Stb (lt2 ltv) (arrOf st').toList (if b = true then (keys.zip vs.toArray).reverse else keys.zip vs.toArray).toList ∧ failedOf st' = none) (swo2 O) (C.2 s) rfl (fun p hm => ?_) rfl rfl fun st' a1 a2 a3 => ⟨a1, a2, a3⟩) ?_ fun _ _ e => e)
    · have hm : p ∈ (if b = true then (keys.zip vs.toArray).reverse else keys.zip vs.toArray).toList := hm
      rw [inOf_arr] at hm
      exact (List.of_mem_zip (inOf_mem.mp hm)).1
    rintro ⟨⟨⟩, st'⟩ s' ⟨rfl, hp1, hp2, hf⟩
    try dsimp only
    rw [inOf_arr] at hp2
    exact ks_tail nk na hka hlen hZ hp2 hp1 hf h
end
end LamK

set_option maxHeartbeats 4000000
namespace LamK
open PySem PyProof.Rows Srt SrtO L2
section
variable {X : Cx} {pb : List (Addr × Obj)} {σ : L2.St} {H : Hp} {s : Shared} {A : Around} {b : Bool} {vs : List Value} {ltv : Value → Value → Bool} {fv : Value} {Jn : Nat → Hp → List Value → Prop}
abbrev pins2 (pb : List (Addr × Obj)) (kS : Addr) (kA : Array Value) (e : Nat) (a : Addr) (e1 : Nat) : List (Addr × Obj) := pb ++ [(kS, seqObj "list" kA e), (a, seqObj "list" #[] e1)]
theorem fp_at {b : Addr} {H' : Hp} (f : FpOk X pb H b) (n : H' b = none) : FpOk X pb H' b := ⟨n, f.2⟩
/-- two records of ours are pinned too -/
theorem pin2 {kS a : Addr} {kA : Array Value} {e e1 : Nat} (I : Inv X pb σ H s) (fk : FpOk X pb H kS) (fa : FpOk X pb H a) (nk : s.heap.get? kS = some (seqObj "list" kA e)) (na : s.heap.get? a = some (seqObj "list" #[] e1)) : Inv X (pins2 pb kS kA e a e1) σ H s := I.pins_of fun p hp => by
  rcases List.mem_append.mp hp with hp | hp
  · exact I.pin p (List.mem_append_right _ hp)
  · rcases List.mem_cons.mp hp with rfl | hp
    · exact ⟨nk, fk.1, fk.2.1, fk.2.2.1, fun v z => by cases z⟩
    · rw [List.mem_singleton.mp hp]
      exact ⟨na, fa.1, fa.2.1, fa.2.2.1, fun v z => by cases z⟩
theorem unpin {own : List (Addr × Obj)} (I : Inv X (pb ++ own) σ H s) : Inv X pb σ H s := I.pins_of fun p hp => I.pin p (List.mem_append_right _ (List.mem_append_left _ hp))
theorem at_k {kS a : Addr} {kA : Array Value} {e e1 : Nat} (I : Inv X (pins2 pb kS kA e a e1) σ H s) : s.heap.get? kS = some (seqObj "list" kA e) ∧ H kS = none := let q := I.pin (kS, seqObj "list" kA e) (List.mem_append_right _ (List.mem_append_right _ List.mem_cons_self)); ⟨q.1, q.2.1⟩
theorem at_a {kS a : Addr} {kA : Array Value} {e e1 : Nat} (I : Inv X (pins2 pb kS kA e a e1) σ H s) : s.heap.get? a = some (seqObj "list" #[] e1) ∧ H a = none := let q := I.pin (a, seqObj "list" #[] e1) (List.mem_append_right _ (List.mem_append_right _ (List.mem_cons_of_mem _ (List.mem_singleton.mpr rfl)))); ⟨q.1, q.2.1⟩
theorem ks_rest {kS a : Addr} {e1 : Nat} {E : Value → Shared → Prop} {P : PySem.Fin → Shared → Prop} (I : Inv X pb σ H s) (fk : FpOk X pb H kS) (fa : FpOk X pb H a) (nk : s.heap.get? kS = some (seqObj "list" #[] 0)) (na : s.heap.get? a = some (seqObj "list" #[] e1)) (hka : kS ≠ a)
    (hZ : vs.length ≤ sizeLine) (O : Swo ltv) (j0 : Jn 0 H [])
    (turn : ∀ (i : Nat) (v : Value) (s' : Shared) (H' : Hp) (own : List (Addr × Obj)) (ks : List Value), vs[i]? = some v → Inv X (pb ++ own) σ H' s' → Jn i H' ks → wpAny (model X.prog X.w) A (call fv [v]) (fun k s'' => ∃ H'', Inv X (pb ++ own) σ H'' s'' ∧ Jn (i + 1) H'' (ks ++ [k])) (fun _ _ => False) s')
    (hC : ∀ H' keys, Jn vs.length H' keys → keys.length = vs.length → Cmp1 X.prog X.w A keys ltv)
    (h : ∀ (ps : List Keyed) (H' : Hp) (keys : List Value) (s' : Shared) c, Inv X pb σ H' s' → FpOk X pb H' a → Jn vs.length H' keys → keys.length = vs.length → s'.heap.get? a = some (seqObj "list" (outOf b ps).toArray c) → Srtd (lt2 ltv) ps → Stb (lt2 ltv) ps (inOf b (keys.zip vs)) → P (.done (.ret .none)) s') :
    wpAny (model X.prog X.w) A (ksk_rest a fv b vs.toArray e1 (.ref kS)) P E s := by
  unfold ksk_rest
  refine wpAny_bind (wpAny_rule ?_)
  first
    | rw [List.forIn_toArray]
    | (rw [← Array.forIn_toList]; simp only [List.toList_toArray])
    | rw [← Array.forIn_toList]
  refine wpAny_bind (ksk_fold (fun i s' => ∃ H' kA e, Inv X (pins2 pb kS kA e a e1) σ H' s' ∧ kA.size = i ∧ Jn i H' kA.toList) vs 0 s ⟨H, #[], 0, pin2 I fk fa nk na, rfl, j0⟩ ?step ?done)
  case step =>
    rintro j x s' hx ⟨H', kA, e, I', hz, hj⟩
    simp only [Nat.zero_add] at hz hj ⊢
    have hjl : j < vs.length := (List.getElem?_eq_some_iff.mp hx).1
    refine wpAny_bind (wpAny_attempt (wpAny_mono (turn j x s' H' _ kA.toList hx I' hj) (fun v s'' he => ?_) fun _ _ hF => hF.elim))
    obtain ⟨H2, I2, hj2⟩ := he
    try dsimp only
    have nk2 := at_k I2
    have na2 := at_a I2
    have s1 := Heap.SameBut.update s''.heap kS (Obj.mapSeq (·.push v))
    have hc2 := get?_update_seq nk2.1 (·.push v)
    have f2 := fp_at fk nk2.2
    have I3 : Inv X pb σ H2 { s'' with heap := s''.heap.update kS (Obj.mapSeq (·.push v)), toks := s''.toks } := (unpin I2).turned (it := kS) (fun b o hb e => (s1.2 b hb).trans e) f2.1 f2.2.1 f2.2.2.2.1 f2.2.2.2.2.1 f2.2.2.2.2.2
    refine wpAny_bind (listUpdate_at nk2.1 rfl ?_ (by rw [hz]; omega) (Nat.le_trans (Nat.le_of_eq (Array.size_push ..)) (by rw [hz]; omega)))
    refine wpAny_pure ⟨rfl, H2, kA.push v, _, pin2 I3 f2 (fp_at fa na2.2) hc2 ((s1.2 a hka.symm).trans na2.1), by rw [Array.size_push, hz], by rw [Array.toList_push]; exact hj2⟩
  case done =>
    rintro s' ⟨H', kA, e, I', hz, hj⟩
    simp only [Nat.zero_add] at hz hj
    have nk2 := at_k I'
    have na2 := at_a I'
    have hkl : kA.toList.length = vs.length := by rw [Array.length_toList]; exact hz
    try dsimp only
    refine wpAny_bind (listItems_at nk2.1 rfl ?_)
    refine ks_end nk2.1 na2.1 hka hz hZ O (hC H' _ hj hkl) fun ps h' tk c k1 _ k2 k3 k4 => ?_
    have f2 := fp_at fk nk2.2
    have g2 := fp_at fa na2.2
    have I3 : Inv X pb σ H' { s' with heap := h', toks := tk } := (unpin I').turnedL (ch := [kS, a]) (fun b o hb e => k1 b o (fun z => hb (by simp [z])) (fun z => hb (by simp [z])) e) fun b hb => by
      rcases List.mem_cons.mp hb with rfl | hb
      · exact f2
      · rw [List.mem_singleton.mp hb]; exact g2
    exact h ps H' kA.toList _ c I3 g2 hj hkl k2 k3 k4
/-- sorted(l, key=f, ..) -/
theorem ks_sorted {l : Addr} {kw : List (Str × Value)} {Q : VK} (I : Inv X pb σ H s) (hl : s.heap.IsList l vs.toArray) (hZ : vs.length ≤ sizeLine)
    (ha1 : argsOk "sorted" ⟨[.ref l], kw⟩) (ha2 : ∀ x, argsOk "list.sort" ⟨[.ref x], kw⟩) (ht : ∀ x, Builtin.«list.sort» ⟨[.ref x], kw⟩ = ksk_tree x fv b) (O : Swo ltv) (j0 : Jn 0 H [])
    (turn : ∀ (i : Nat) (v : Value) (s' : Shared) (H' : Hp) (own : List (Addr × Obj)) (ks : List Value), vs[i]? = some v → Inv X (pb ++ own) σ H' s' → Jn i H' ks → wpAny (model X.prog X.w) X.A.in1.in1 (call fv [v]) (fun k s'' => ∃ H'', Inv X (pb ++ own) σ H'' s'' ∧ Jn (i + 1) H'' (ks ++ [k])) (fun _ _ => False) s')
    (hC : ∀ H' keys, Jn vs.length H' keys → keys.length = vs.length → Cmp1 X.prog X.w X.A.in1.in1 keys ltv)
    (h : ∀ (ps : List Keyed) (H' : Hp) (keys : List Value) (a : Addr), H a = none → H' a = none → Jn vs.length H' keys → keys.length = vs.length → Srtd (lt2 ltv) ps → Stb (lt2 ltv) ps (inOf b (keys.zip vs)) → ∃ zs, Vals zs (outOf b ps) ∧ zs.length ≤ sizeLine ∧ Q (.ref a) (upd H' a (.lst zs))) :
    wpAny (model X.prog X.w) X.A (call (.builtin "sorted") [.ref l] kw) (EP X pb σ Q) X.xe s := by
  refine call_function_entry_kw kind_sorted plain_sorted entry_sorted ha1 ?_
  unfold Builtin.«sorted»
  refine wpAny_bind (m := checkCount "sorted" 1 1 _) (wpAny_pure ?_)
  refine wpAny_bind (collect_list hl ?_ hZ)
  refine wpAny_bind (wpAny_newList ?_ hZ)
  have hsz : ((s.heap.push (seqObj "list" #[] 0)).update s.heap.objs.size (Obj.mapSeq (· ++ vs.toArray))).objs.size = s.heap.objs.size + 1 := by
    rw [Heap.size_update, size_push']
  have hoL : (((s.heap.push (seqObj "list" #[] 0)).update s.heap.objs.size (Obj.mapSeq (· ++ vs.toArray))).push (seqObj "list" vs.toArray 0)).get? (s.heap.objs.size + 1) = some (seqObj "list" vs.toArray 0) := by
    rw [← hsz]; exact Heap.get?_push_size _ rfl
  have keep : ∀ b o, s.heap.get? b = some o → (((s.heap.push (seqObj "list" #[] 0)).update s.heap.objs.size (Obj.mapSeq (· ++ vs.toArray))).push (seqObj "list" vs.toArray 0)).get? b = some o := fun b o q => by
    have hlt : b < s.heap.objs.size := Heap.lt_size q
    rw [Heap.get?_push_ne _ _ _ (by rw [hsz]; exact Nat.ne_of_lt (Nat.lt_succ_of_lt hlt)), Heap.get?_update_ne _ _ _ _ (Nat.ne_of_lt hlt), Heap.get?_push_ne _ _ _ (Nat.ne_of_lt hlt)]
    exact q
  show wpAny _ _ _ _ _ { s with heap := ((s.heap.push (seqObj "list" #[] 0)).update s.heap.objs.size (Obj.mapSeq (· ++ vs.toArray))).push (seqObj "list" vs.toArray 0) }
  rw [hsz]
  refine wpAny_bind (wpAny_holding (wpAny_call_entry_kw slot_list_sort ⟨_, hoL, rfl⟩ entry_list_sort ?body (ha2 _)))
  case body =>
    have ht' := ht (s.heap.objs.size + 1)
    show wpAny (model X.prog X.w) X.A.in1.in1 (Builtin.«list.sort» ⟨[.ref (s.heap.objs.size + 1)], kw⟩) _ _ _
    rw [ht']
    have aN : H (s.heap.objs.size + 1) = none := I.hok.fresh (Nat.le_succ _)
    generalize hg : ((s.heap.push (seqObj "list" #[] 0)).update s.heap.objs.size (Obj.mapSeq (· ++ vs.toArray))).push (seqObj "list" vs.toArray 0) = g at hoL keep ⊢
    have hgs : g.objs.size = s.heap.objs.size + 2 := by rw [← hg, size_push', hsz]
    have I1 : Inv X pb σ H { s with heap := g, toks := s.toks } := I.kept keep
    generalize hA : s.heap.objs.size + 1 = a at hoL aN ⊢
    have fa : FpOk X pb H a := I.fpOk (by rw [← hA]; exact Nat.le_succ _) aN
    have s1 := Heap.SameBut.update g a (Obj.mapSeq fun _ => (#[] : Array Value))
    have ho1 := get?_update_seq hoL (fun _ => (#[] : Array Value))
    unfold ksk_tree
    refine wpAny_bind (listItems_at hoL rfl ?_)
    refine wpAny_bind (listUpdate_at hoL rfl ?_ (by rw [List.size_toArray]; exact hZ) (Nat.zero_le _))
    refine wpAny_bind (seqEpoch_at ho1 rfl ?_)
    refine wpAny_bind (wpAny_newTuple ?_ (by show vs.length ≤ _; exact hZ))
    refine wpAny_bind (wpAny_newList ?_ (Nat.zero_le _))
    refine wpAny_holding ?_
    have sz2 : ((g.update a (Obj.mapSeq fun _ => (#[] : Array Value))).push (seqObj "tuple" vs.toArray 0)).objs.size = s.heap.objs.size + 3 := by rw [size_push', Heap.size_update, hgs]
    have I2 : Inv X pb σ H { s with heap := g.update a (Obj.mapSeq fun _ => (#[] : Array Value)), toks := s.toks } := Inv.turned (s := { s with heap := g, toks := s.toks }) (it := a) I1 (fun b o hb e => (s1.2 b hb).trans e) fa.1 fa.2.1 fa.2.2.2.1 fa.2.2.2.2.1 fa.2.2.2.2.2
    have I3 : Inv X pb σ H { s with heap := ((g.update a (Obj.mapSeq fun _ => (#[] : Array Value))).push (seqObj "tuple" vs.toArray 0)).push (seqObj "list" #[] 0), toks := s.toks } := I2.kept fun b o e => Heap.get?_push_of_some _ (Heap.get?_push_of_some _ e)
    have kN : H ((g.update a (Obj.mapSeq fun _ => (#[] : Array Value))).push (seqObj "tuple" vs.toArray 0)).objs.size = none := I.hok.fresh (by rw [sz2]; omega)
    have fk : FpOk X pb H ((g.update a (Obj.mapSeq fun _ => (#[] : Array Value))).push (seqObj "tuple" vs.toArray 0)).objs.size := I.fpOk (by rw [sz2]; omega) kN
    have hka : ((g.update a (Obj.mapSeq fun _ => (#[] : Array Value))).push (seqObj "tuple" vs.toArray 0)).objs.size ≠ a := by rw [sz2, ← hA]; omega
    refine ks_rest (b := b) (ltv := ltv) (Jn := Jn) I3 fk fa (Heap.get?_push_size _ rfl) (Heap.get?_push_of_some _ (Heap.get?_push_of_some _ ho1)) hka hZ O j0 turn hC fun ps H' keys s' c J f j hkl q k1 k2 => ⟨_, rfl, ?_⟩
    refine wpAny_pure ⟨_, rfl, ?_⟩
    obtain ⟨zs, hv, hz, hq⟩ := h ps H' keys a aN f.1 j hkl k1 k2
    exact ⟨.ref a, upd H' a (.lst zs), J.take (h' := s'.heap) (t' := s'.toks) (fun _ _ _ e => e) f ⟨hz, _, c, hv, q⟩, rfl, hq⟩
end
end LamK

set_option maxHeartbeats 4000000
namespace LamK
open PySem PyProof.Rows L2 LamX
/-! ### a lambda of one parameter -/
structure LamS1 (sc scope : Scope) (p : Str) : Prop where
  kind : scope.kind = .function
  co : scope.isCoroutine = false
  gen : scope.isGenerator = false
  par : scope.names.lookup p = some .local
  own : ∀ y ∈ scope.names, y.2 ≠ .cell ∧ (y.2 = .local → y.1 = p)
  free : ∀ y ∈ scope.names, y.2 = .free → sc.names.lookup y.1 = some .cell ∨ sc.names.lookup y.1 = some .free
def lamS1B (sc scope : Scope) (p : Str) : Bool :=
  decide (scope.kind = .function) && !scope.isCoroutine && !scope.isGenerator && decide (scope.names.lookup p = some .local) && scope.names.all fun y => !decide (y.2 = .cell) && (!decide (y.2 = .local) || decide (y.1 = p)) && (!decide (y.2 = .free) || decide (sc.names.lookup y.1 = some .cell) || decide (sc.names.lookup y.1 = some .free))
theorem lamS1_by {sc scope : Scope} {p : Str} (h : lamS1B sc scope p = true) : LamS1 sc scope p := by
  unfold lamS1B at h
  simp only [Bool.and_eq_true, Bool.or_eq_true, Bool.not_eq_true', decide_eq_true_eq, decide_eq_false_iff_not, List.all_eq_true] at h
  obtain ⟨⟨⟨⟨h1, h2⟩, h3⟩, h5⟩, h4⟩ := h
  refine ⟨h1, h2, h3, h5, fun y hy => ⟨(h4 y hy).1.1, fun e => ?_⟩, fun y hy e => ?_⟩
  · rcases (h4 y hy).1.2 with z | z
    · exact absurd e z
    · exact z
  · rcases (h4 y hy).2 with (z | z) | z
    · exact absurd e z
    · exact .inl z
    · exact .inr z
theorem LamS1.has {X : Cx} {scope : Scope} {p : Str} (L : LamS1 X.env.scope scope p) (ok : X.Ok) : ∀ y ∈ scope.names, y.2 = .free → ∃ c, X.env.cells.lookup y.1 = some c := fun y hy e => by
  rcases L.free y hy e with k | k
  · exact ok.has _ (.inl k)
  · exact ok.has _ (.inr k)
/-- the maker's names, the parameter's own aside -/
def blank (p : Str) (N : List Str) (σ : L2.St) : L2.St := List.zipWith (fun n o => if n = p then none else o) N σ
theorem blank_at {p : Str} {N : List Str} {σ : L2.St} {i : Nat} {y : Str} {v : V} (h1 : N[i]? = some y) (h2 : (blank p N σ)[i]? = some (some v)) : y ≠ p ∧ σ[i]? = some (some v) := by
  unfold blank at h2
  rw [List.getElem?_zipWith, h1] at h2
  cases e : σ[i]? with
  | none => rw [e] at h2; cases h2
  | some o =>
    rw [e] at h2
    have h2 : some (if y = p then none else o) = some (some v) := h2
    by_cases hy : y = p
    · rw [if_pos hy] at h2; cases h2
    · rw [if_neg hy] at h2
      exact ⟨hy, by rw [Option.some.inj h2]⟩
/-- the context of the lambda's body, entered at s -/
def lamCx1 (X : Cx) (A : Around) (s : Shared) (H : Hp) (scope : Scope) (f c' : Addr) (p : Str) : Cx where
  prog := X.prog
  w := X.w
  K := X.K
  mg := X.mg
  base := X.base
  A := A.deeper (lamEnv X scope s.heap.objs.size f c')
  N := p :: X.N
  s_0 := s
  H_0 := H
  env := lamEnv X scope s.heap.objs.size f c'
  outer := X.stack
  stack := lamEnv X scope s.heap.objs.size f c' :: X.stack
  ex := []
  fn := fun _ => false
  calm := true
  pn := []
  xe := fun _ _ => False
section
variable {X : Cx} {pins : List (Addr × Obj)} {σ : L2.St} {H : Hp} {s : Shared}
theorem lam1_start {A : Around} {scope : Scope} {f c' : Addr} {p : Str} {v : V} {u : Value} {h₁ : Heap} {tk : Nat} (I : Inv X pins σ H s) (L : LamS1 X.env.scope scope p) (hfr : A.frames = some X.stack) (hd : A.handled = none) (rv : RelV v u)
    (hns : h₁.Ns s.heap.objs.size fun y => ([(p, u)] : List (Str × Value)).reverse.lookup y) (kp : ∀ b o, s.heap.get? b = some o → h₁.get? b = some o) :
    Inv (lamCx1 X A s H scope f c' p) [] (some v :: blank p X.N σ) H { s with heap := h₁, toks := tk } := by
  have e0 := I.env0
  have hfree := L.has I.ok
  have cm : ∀ {y c}, (cloFrom X.env.cells scope.names []).lookup y = some c → X.env.cells.lookup y = some c := fun {y c} e => by
    rcases cloFrom_mem (PySem.mem_of_lookup e) with hm | ⟨h1, h2⟩
    · cases hm
    · obtain ⟨c1, hc⟩ := hfree _ h1 rfl
      have hc : X.env.cells.lookup y = some c1 := hc
      have e2 : c = c1 := by
        rw [h2, hc] <;> rfl
      rw [e2]
      exact hc
  have look : ∀ {y}, scope.names.lookup y = some .free → ∃ c, (cloFrom X.env.cells scope.names []).lookup y = some c := fun {y} hl => by
    have hy : (y, NameKind.free) ∈ scope.names := PySem.mem_of_lookup hl
    exact mem_lookup (cloFrom_has (cells := X.env.cells) (acc := []) hy)
  have cellK : ∀ {c : Addr} {v : Option Value}, s.heap.IsCell c v → h₁.IsCell c v := fun {c v} ⟨o, ho, hd⟩ => ⟨_, kp _ _ ho, hd⟩
  have noA : ∀ b : Addr, b ∉ (lamCx1 X A s H scope f c' p).ex := fun b z => absurd (show b ∈ ([] : List Addr) from z) (by simp)
  refine ⟨⟨e0.mod, L.kind, rfl, rfl, Nat.le_refl _, fun y z c e1 e2 => I.ok.inj y z c (cm e1) (cm e2), fun y hy => ?_, fun y c z _ => ?_, fun _ => hd, Around.frames_deeper hfr, .inr ⟨rfl, rfl⟩, fun b z => absurd z (noA b), e0.bs, e0.bsz, fun b _ _ => noA b,
      fun b z => absurd z (noA b), e0.funs, e0.frf⟩,
    rfl, e0.bare, Un.kept kp, ⟨_, hns, fun i y w e1 e2 e3 => ?_⟩, fun y c e => ?_, e0.hok.fresh (Nat.le_refl _), fun y c e => ?_, fun q hq => absurd (show q ∈ ([] : List (Addr × Obj)) ++ [] from hq) (by simp), e0.hok.kept kp, ?_⟩
  · have hy : scope.names.lookup y = some .cell ∨ scope.names.lookup y = some .free := hy
    rcases hy with hy | hy
    · exact absurd rfl (L.own _ (PySem.mem_of_lookup hy)).1
    · exact look hy
  · have z : false = true := z
    cases z
  · cases i with
    | zero =>
      have e1 : p = y := Option.some.inj e1
      have e2 : v = w := Option.some.inj (Option.some.inj e2)
      subst e1 e2
      refine ⟨u, rv, .inl ⟨L.par, ?_⟩⟩
      show ([(p, u)] : List (Str × Value)).lookup p = some u
      simp [List.lookup]
    | succ i =>
      have e1 : X.N[i]? = some y := e1
      have e2 : (blank p X.N σ)[i]? = some (some w) := e2
      obtain ⟨ny, e2⟩ := blank_at e1 e2
      have e3 : Vis scope y := e3
      rcases e3 with k | k | k
      · exact absurd ((L.own _ (PySem.mem_of_lookup k)).2 rfl) ny
      · exact absurd rfl (L.own _ (PySem.mem_of_lookup k)).1
      · obtain ⟨m, hn, hl⟩ := I.loc
        have hvis : Vis X.env.scope y := (L.free _ (PySem.mem_of_lookup k) rfl).elim (fun k => .inr (.inl k)) (fun k => .inr (.inr k))
        obtain ⟨w', r, q⟩ := hl i y w e1 e2 hvis
        obtain ⟨c2, h2⟩ := look k
        refine ⟨w', r, .inr ⟨.inr k, c2, h2, ?_⟩⟩
        have c1 := cm h2
        rcases q with ⟨k', _⟩ | ⟨_, c3, e', z⟩
        · have k' : X.env.scope.names.lookup y = some .local := k'
          rcases L.free _ (PySem.mem_of_lookup k) rfl with k2 | k2 <;> rw [show X.env.scope.names.lookup y = _ from k2] at k' <;> cases k'
        · rw [c1] at e'
          cases e'
          exact cellK z
  · obtain ⟨w', z⟩ := I.cell y c (cm e)
    exact ⟨w', cellK z⟩
  · exact I.freeC y c (cm e)
  · show (some v :: blank p X.N σ).length = (p :: X.N).length
    unfold blank
    rw [List.length_cons, List.length_zipWith, I.len, Nat.min_self, List.length_cons]
/-- f(u), f a lambda of one parameter -/
theorem lam1_call {A : Around} {k : Nat} {params : Arguments} {body : Expr} {scope : Scope} {f c' : Addr} {pm ctv : Value} {p : Str} {v : V} {u : Value} {tb : TE} {Q : VK} (I : Inv X pins σ H s) (L : LamS1 X.env.scope scope p)
    (hf : s.heap.get? f = some (PySem.W.kla_obj "<lambda>" (X.env.qual ++ "<lambda>") params body scope (cloFrom X.env.cells scope.names []) pm c' ctv)) (hco : H c' = some (CodeO c' (X.env.qual ++ "<lambda>")))
    (hbind : bindArgs (PySem.W.kla_fn "<lambda>" (X.env.qual ++ "<lambda>") params body scope (cloFrom X.env.cells scope.names []) pm (.ref c') ctv) ⟨[u], []⟩ = pure [(p, u)])
    (hr : Room (k + 1) A) (hfr : A.frames = some X.stack) (rv : RelV v u) (hbody : PE (lamCx1 X A s H scope f c' p) body tb) (ht : tb (some v :: blank p X.N σ) H Q) :
    wpAny (model X.prog X.w) A (call (.ref f) [u]) (EP X pins σ Q) (fun _ _ => False) s := by
  obtain ⟨⟨oc, vs, t, hoc, hdc, hvc⟩, _, _⟩ := I.hok c' _ hco
  have rc : codeAny (model X.prog X.w) A (.call (.ref f) ⟨[u], []⟩) (fun r s' => match r with
      | .ok (.ret u) => CE X.stack X.prog X.w H s Q u s'
      | _ => False) s := by
    refine PySem.W.kla_callFunE hr.depth hf rfl L.co L.gen rfl ⟨c', oc, vs, t, rfl, hoc, hdc, hvc⟩ ?_
    rw [hbind]
    refine wpAny_pure (wpAny_newFunctionEnv (fun y hy => (L.own y hy).1) (fun y hy => ?_) (fun h₁ hns hsb => ⟨I.nolimit.fresh _ hsb, ?_⟩) L.kind)
    · rw [List.mem_singleton.mp hy]
      exact L.par
    show codeAny _ _ (.expr body (lamEnv X scope s.heap.objs.size f c')) _ _
    have kp : ∀ b o, s.heap.get? b = some o → h₁.get? b = some o := fun b o e => hsb.extBut b o (Nat.ne_of_lt (Heap.lt_size e)) (Heap.get?_push_of_some _ e)
    have J : Inv (lamCx1 X A s H scope f c' p) [] (some v :: blank p X.N σ) H { s with heap := h₁, toks := s.toks + ([(p, u)] : List (Str × Value)).length } := lam1_start I L hfr hr.hd rv hns kp
    refine PySem.W.kla_codeExpr (wpAny_mono (hbody.run [] _ _ H Q J ht) (fun v s' hq => ?_) fun e s' hq => hq.elim)
    obtain ⟨w', H', J', rv', q⟩ := hq
    exact ⟨w', H', J'.os, J'.bare, J'.base, J'.hok, rv', q⟩
  refine wpAny_call (codeAny_mono rc fun r s' hq => ?_)
  cases r with
  | error e => exact hq.elim
  | ok fl =>
    cases fl with
    | ret u => exact I.after hq
    | next => exact False.elim hq
    | brk => exact False.elim hq
    | cont => exact False.elim hq
end
end LamK

set_option maxHeartbeats 4000000
namespace LamK
variable [PD.TabC]
open PySem PyProof.Rows L2 LamX
/-- the function object of a lambda -/
def FnL (f : Addr) (q : Str) (params : Arguments) (body : Expr) (scope : Scope) (cl : List (Str × Addr)) (c' : Addr) : HO := .ext fun h => ∃ pm ctv : Value, h.get? f = some (PySem.W.kla_obj "<lambda>" q params body scope cl pm c' ctv)
/-- what a def that makes lambdas has -/
structure Mk (X : Cx) : Prop where
  ex : ∃ c P : Addr, TabB X.base X.mg c P ∧ X.env.code = .ref c ∧ (P, X.env.qual ++ "<lambda>") ∈ PD.TabC.T ∧ ∀ p ∈ PD.TabC.T, p.1 = P → p.2 = X.env.qual ++ "<lambda>"
section
variable {X : Cx}
def tMake (X : Cx) (params : Arguments) (body : Expr) (scope : Scope) : TE := fun _ H Q => Tabs PD.TabC.T H ∧ ∀ (f c' : Addr) (H1 : Hp), H f = none → PD.Ex H H1 → Tabs PD.TabC.T H1 → H1 f = some (FnL f (X.env.qual ++ "<lambda>") params body scope (cloFrom X.env.cells scope.names []) c') → H1 c' = some (CodeO c' (X.env.qual ++ "<lambda>")) → Q (.ref f) H1
theorem pe_lam {params : Arguments} {body : Expr} {scope : Scope} {pos : Pos} {p : Str} (M : Mk X) (L : LamS1 X.env.scope scope p) (hdef : defaultsOf params X.env = ([], [])) : PE X (.Lambda params body scope pos) (tMake X params body scope) := by
  obtain ⟨c, P, TB, code, mem, one⟩ := M.ex
  refine ⟨fun pins s σ H Q I ⟨T0, k⟩ => ?_⟩
  obtain ⟨ps, atP, trip, told⟩ := T0 _ mem
  have objP : s.heap.get? P = some { cls := .none, data := .fields ps } := I.hok P _ atP
  -- the end: the function object is known from now on
  have fin : ∀ (H1 : Hp) (g : Heap) (t : Nat) (c' : Addr) (pm ctv : Value), Inv X pins σ H1 { s with heap := g.push (PySem.W.kla_obj "<lambda>" (X.env.qual ++ "<lambda>") params body scope (cloFrom X.env.cells scope.names []) pm c' ctv), toks := t } →
      s.heap.objs.size ≤ g.objs.size → H1 g.objs.size = none → PD.Ex H H1 → Tabs PD.TabC.T H1 → H1 c' = some (CodeO c' (X.env.qual ++ "<lambda>")) → c' ≠ g.objs.size →
      EP X pins σ Q (.ref g.objs.size) { s with heap := g.push (PySem.W.kla_obj "<lambda>" (X.env.qual ++ "<lambda>") params body scope (cloFrom X.env.cells scope.names []) pm c' ctv), toks := t } := by
    intro H1 g t c' pm ctv J hsz hn x T1 hc hne
    have here : (g.push (PySem.W.kla_obj "<lambda>" (X.env.qual ++ "<lambda>") params body scope (cloFrom X.env.cells scope.names []) pm c' ctv)).get? g.objs.size = some (PySem.W.kla_obj "<lambda>" (X.env.qual ++ "<lambda>") params body scope (cloFrom X.env.cells scope.names []) pm c' ctv) := Heap.get?_push_size _ rfl
    refine ⟨.ref g.objs.size, upd H1 g.objs.size (FnL g.objs.size (X.env.qual ++ "<lambda>") params body scope (cloFrom X.env.cells scope.names []) c'),
      J.take (t' := t) (fun _ _ _ e => e) (I.fpOk hsz hn) ⟨⟨pm, ctv, here⟩, ⟨_, here⟩, fun h1 h2 ⟨a, b, e⟩ st => ⟨a, b, st _ e⟩⟩, rfl, k _ c' _ (I.hok.fresh hsz) (x.trans (PD.Ex.new hn)) (T1.ext fun b o e => ?_) upd_same ?_⟩
    · rw [upd_ne (ne_of_none e hn)]; exact e
    · rw [upd_ne hne]; exact hc
  refine PySem.W.kla_eval hdef ?_
  cases hit : codeAmong pos ps.toList with
  | none =>
    refine PySem.W.kla_makeFunction (mg := X.mg) (c := c) (P := P) (ps := ps) (closure_ok (L.has I.ok)) I.ok.glob (I.mod.glob.keeps I.bk) code (TB.code.keeps I.bk) objP trip hit TB.gP (TB.bm.keeps I.bk) fun c' ctv g tk kp ge lt rec tab => ?_
    obtain ⟨c2, oc, vs, t, e2, oc_at, ocd, ocn⟩ := rec
    cases e2
    have cN : H c' = none := I.hok.fresh ge
    have sz : s.heap.objs.size ≤ g.objs.size := Nat.le_trans ge (Nat.le_of_lt lt)
    have gN : H g.objs.size = none := I.hok.fresh sz
    have neP : g.objs.size ≠ P := Nat.ne_of_gt (Nat.lt_of_lt_of_le (Heap.lt_size objP) sz)
    have neC : g.objs.size ≠ c' := Nat.ne_of_gt lt
    have pc : P ≠ c' := ne_of_none atP cN
    have J := inv_table (q := X.env.qual ++ "<lambda>") (t' := tk) (more := #[rawInt pos.line, rawInt pos.col, .ref c']) (h' := g.push (PySem.W.kla_obj "<lambda>" (X.env.qual ++ "<lambda>") params body scope (cloFrom X.env.cells scope.names []) ((X.mg "__name__").getD .none) c' ctv)) I atP
      (fun b o hb e => Heap.get?_push_of_some _ (kp b o hb e)) (Heap.get?_push_of_some _ tab) ge ⟨oc, vs, t, Heap.get?_push_of_some _ oc_at, ocd, ocn⟩
    have up : ∀ b o, H b = some o → PD.NT o → upd (upd H P (.tbl (ps ++ #[rawInt pos.line, rawInt pos.col, .ref c']))) c' (CodeO c' (X.env.qual ++ "<lambda>")) b = some o := fun b o e n => by
      have nb : b ≠ P := fun z => by
        rw [z, atP] at e
        exact n ps (Option.some.inj e).symm
      rw [upd_ne (ne_of_none e cN), upd_ne nb]
      exact e
    have lst : (ps ++ #[rawInt pos.line, rawInt pos.col, .ref c']).toList = ps.toList ++ [rawInt pos.line, rawInt pos.col, .ref c'] := by simp
    refine fin _ g tk c' _ ctv J sz ?_ ⟨up, fun b hb => ?_⟩ (fun y hy => ?_) upd_same (Ne.symm neC)
    · rw [upd_ne neC, upd_ne neP]
      exact gN
    · by_cases z : b = c'
      · rw [z, upd_same]; exact fun w => nomatch w
      · rw [upd_ne z]
        by_cases z2 : b = P
        · rw [z2, upd_same]; exact fun w => nomatch w
        · rw [upd_ne z2]; exact hb
    · by_cases hb : y.1 = P
      · rw [one y hy hb, hb]
        refine ⟨_, by rw [upd_ne pc, upd_same], by rw [lst]; exact PySem.TriplesOk_snoc _ _ _ _ trip, fun p' cv hcv => ?_⟩
        rw [lst] at hcv
        rcases among_app _ trip hcv with z | z
        · obtain ⟨c0, e1, e2⟩ := told p' cv z
          exact ⟨c0, e1, up _ _ e2 codeO_ne⟩
        · exact ⟨c', z, upd_same⟩
      · obtain ⟨ps', a1, a2, a3⟩ := T0 y hy
        refine ⟨ps', by rw [upd_ne (ne_of_none a1 cN), upd_ne hb]; exact a1, a2, fun p' cv hcv => ?_⟩
        obtain ⟨c0, e1, e2⟩ := a3 p' cv hcv
        exact ⟨c0, e1, up _ _ e2 codeO_ne⟩
  | some cv =>
    obtain ⟨c', e, hco⟩ := told pos cv hit
    subst e
    refine PySem.W.kla_makeFunctionHit (mg := X.mg) (c := c) (P := P) (ps := ps) (closure_ok (L.has I.ok)) I.ok.glob (I.mod.glob.keeps I.bk) code (TB.code.keeps I.bk) objP trip hit (TB.bm.keeps I.bk) fun ctv g tk kp sz => ?_
    have J : Inv X pins σ H { s with heap := g.push (PySem.W.kla_obj "<lambda>" (X.env.qual ++ "<lambda>") params body scope (cloFrom X.env.cells scope.names []) ((X.mg "__name__").getD .none) c' ctv), toks := tk } := I.kept fun b o e => Heap.get?_push_of_some _ (kp b o e)
    exact fin H g tk c' _ ctv J sz (I.hok.fresh sz) (PD.Ex.refl H) T0 hco (ne_of_none hco (I.hok.fresh sz))
end
end LamK

set_option maxHeartbeats 4000000
/-! Rows sorted by keys that are texts or numbers, told by data; the names of a lambda. -/
namespace LamK
variable [PD.TabC]
open PySem PyProof.Rows L2 LamX SrtO Srt PD
def keyS : PyData → Str
  | .str z => z
  | _ => Str.empty
def keyI : PyData → Int
  | .int i => i
  | _ => 0
def ltL (a b : List Nat) : Bool := decide (a < b)
theorem swo_L : Swo ltL := ⟨fun x y h => decide_eq_false (LW.lt_as (of_decide_eq_true h)), fun x y z h k => decide_eq_false (LW.le_tr (of_decide_eq_false h) (of_decide_eq_false k))⟩
def ltZ (a b : Int) : Bool := decide (a < b)
theorem swo_Z : Swo ltZ := ⟨fun x y h => decide_eq_false (by have := of_decide_eq_true (p := x < y) h; omega), fun x y z h k => decide_eq_false (by have := of_decide_eq_false (p := y < x) h; have := of_decide_eq_false (p := z < y) k; omega)⟩
theorem swo_pull {α β : Type} {lt : β → β → Bool} (O : Swo lt) (f : α → β) : Swo fun x y => lt (f x) (f y) := ⟨fun x y => O.asym _ _, fun x y z => O.tr _ _ _⟩
abbrev ltKS (a b : PyData) : Bool := ltL (keyS a).cps.toList (keyS b).cps.toList
abbrev ltKI (a b : PyData) : Bool := ltZ (keyI a) (keyI b)
abbrev ltVS (v u : Value) : Bool := ltL (strOf v).cps.toList (strOf u).cps.toList
/-- keys that compare: texts, numbers -/
inductive KeyK : (PyData → Prop) → (PyData → PyData → Bool) → (Value → Value → Bool) → Prop
  | str : KeyK (fun d => ∃ z, d = .str z) ltKS ltVS
  | int : KeyK (fun d => ∃ i, d = .int i) ltKI ltIv
def KRel (u : Value) (d : PyData) : Prop := (∃ z t, u = .str z t ∧ d = .str z) ∨ ∃ i t, u = .int i t ∧ d = .int i
theorem krel_of {K : PySem.W.Frag} {F : Hp} {v : V} {u : Value} {d : PyData} {G : PyData → Prop} {ltd : PyData → PyData → Bool} {ltv : Value → Value → Bool} (k : KeyK G ltd ltv) (g : G d) (i : Is K F v d) (r : RelV v u) : KRel u d := by
  cases k with
  | str =>
    obtain ⟨z, rfl⟩ := g
    rw [i.str_eq] at r
    obtain ⟨t, e⟩ := r
    exact .inl ⟨z, t, e, rfl⟩
  | int =>
    obtain ⟨z, rfl⟩ := g
    rw [i.int_eq] at r
    obtain ⟨t, e⟩ := r
    exact .inr ⟨z, t, e, rfl⟩
theorem krel_lt {G : PyData → Prop} {ltd : PyData → PyData → Bool} {ltv : Value → Value → Bool} (k : KeyK G ltd ltv) {u v : Value} {d e : PyData} (g : G d) (h : G e) (r : KRel u d) (q : KRel v e) : ltd d e = ltv u v := by
  cases k with
  | str =>
    obtain ⟨z, rfl⟩ := g
    obtain ⟨y, rfl⟩ := h
    rcases r with ⟨z1, t, rfl, e⟩ | ⟨_, _, _, e⟩
    · cases e
      rcases q with ⟨y1, t2, rfl, e⟩ | ⟨_, _, _, e⟩
      · cases e; rfl
      · cases e
    · cases e
  | int =>
    obtain ⟨z, rfl⟩ := g
    obtain ⟨y, rfl⟩ := h
    rcases r with ⟨_, _, _, e⟩ | ⟨z1, t, rfl, e⟩
    · cases e
    · cases e
      rcases q with ⟨_, _, _, e⟩ | ⟨y1, t2, rfl, e⟩
      · cases e
      · cases e; rfl
theorem KeyK.swo {G : PyData → Prop} {ltd : PyData → PyData → Bool} {ltv : Value → Value → Bool} (k : KeyK G ltd ltv) : Swo ltv := by
  cases k with
  | str => exact swo_pull swo_L fun v => (strOf v).cps.toList
  | int => exact swo_int
theorem all_strs {key : PyData → PyData} : ∀ {ks : List Value} {xs : List PyData}, Paired KRel ks (xs.map key) → (∀ x ∈ xs, ∃ z, key x = .str z) → ∀ v ∈ ks, ∃ x t, v = Value.str x t
  | [], _, _, _, v, h => absurd h (by simp)
  | _ :: _, [], h, _, _, _ => nomatch h
  | k :: ks, x :: xs, .cons r t, g, v, h => by
    rcases List.mem_cons.mp h with e | h
    · obtain ⟨z, e2⟩ := g x List.mem_cons_self
      rw [e2] at r
      rcases r with ⟨z1, t1, e3, _⟩ | ⟨_, _, _, e4⟩
      · exact ⟨z1, t1, e.trans e3⟩
      · cases e4
    · exact all_strs t (fun y hy => g y (List.mem_cons_of_mem _ hy)) v h
theorem all_ints {key : PyData → PyData} : ∀ {ks : List Value} {xs : List PyData}, Paired KRel ks (xs.map key) → (∀ x ∈ xs, ∃ z, key x = .int z) → ∀ v ∈ ks, ∃ x t, v = Value.int x t
  | [], _, _, _, v, h => absurd h (by simp)
  | _ :: _, [], h, _, _, _ => nomatch h
  | k :: ks, x :: xs, .cons r t, g, v, h => by
    rcases List.mem_cons.mp h with e | h
    · obtain ⟨z, e2⟩ := g x List.mem_cons_self
      rw [e2] at r
      rcases r with ⟨_, _, _, e4⟩ | ⟨z1, t1, e3, _⟩
      · cases e4
      · exact ⟨z1, t1, e.trans e3⟩
    · exact all_ints t (fun y hy => g y (List.mem_cons_of_mem _ hy)) v h
theorem cmp1_of {prog : Program} {w : World} {A : Around} {G : PyData → Prop} {ltd : PyData → PyData → Bool} {ltv : Value → Value → Bool} (k : KeyK G ltd ltv) {key : PyData → PyData} {ks : List Value} {xs : List PyData} (h : Paired KRel ks (xs.map key)) (g : ∀ x ∈ xs, G (key x)) : Cmp1 prog w A ks ltv := by
  cases k with
  | str =>
    have hs := strsAre_map ks (all_strs h g)
    refine ⟨fun h2 => ?_, fun s p q hp hq => ?_⟩
    · match ks, h2, hs with
      | v1 :: v2 :: rest, _, hs => exact keyKind_strs hs
      | [], h, _ => exact absurd h (by decide)
      | [v], h, _ => exact absurd h (by simp)
    · obtain ⟨a, t, e⟩ := all_strs h g _ hp
      obtain ⟨b, u, e'⟩ := all_strs h g _ hq
      show wpAny (model prog w) A (keyLt' oneType' p.1 q.1) (fun r s' => s' = s ∧ r = ltVS p.1 q.1) (fun _ _ => False) s
      rw [e, e', keyLt'_oneType]
      exact oneLt_str ⟨rfl, rfl⟩
  | int =>
    have hs := ints_iv (all_ints h g)
    refine ⟨fun h2 => ?_, fun s => int_cmp hs⟩
    match ks, h2, hs with
    | v1 :: v2 :: rest, _, hs => exact keyKind_ints hs
    | [], h, _ => exact absurd h (by decide)
    | [v], h, _ => exact absurd h (by simp)
/-- sorted(xs, key=.., reverse=b) -/
def sortK (ltd : PyData → PyData → Bool) (key : PyData → PyData) (b : Bool) (xs : List PyData) : List PyData :=
  if b = true then (isort (fun x y => ltd (key x) (key y)) xs.reverse).reverse else isort (fun x y => ltd (key x) (key y)) xs
theorem Stb.symm {α : Type} {lt : α → α → Bool} {l m : List α} (s : Stb lt l m) : Stb lt m l := ⟨s.perm.symm, fun x => (s.cls x).symm⟩
abbrev Row := Value × Value × V × PyData
def Row.kv (r : Row) : Keyed := (r.1, r.2.1)
def Row.val (r : Row) : Value := r.2.1
def Row.v (r : Row) : V := r.2.2.1
def Row.dat (r : Row) : PyData := r.2.2.2
structure RowOk (K : PySem.W.Frag) (F : Hp) (key : PyData → PyData) (r : Row) : Prop where
  k : KRel r.1 (key r.dat)
  v : RelV r.v r.val
  d : Is K F r.v r.dat
theorem rows_of {K : PySem.W.Frag} {F : Hp} {key : PyData → PyData} : ∀ {ks us : List Value} {vs : List V} {xs : List PyData}, Paired KRel ks (xs.map key) → Vals vs us → IsAll K F vs xs → ∃ T : List Row, (∀ r ∈ T, RowOk K F key r) ∧ T.map Row.kv = ks.zip us ∧ T.map Row.dat = xs := by
  intro ks us vs xs a b c
  induction b generalizing ks xs with
  | nil =>
    cases c
    cases a
    exact ⟨[], fun r h => absurd h (by simp), rfl, rfl⟩
  | @cons v0 u0 vs0 us0 b b1 ih =>
    match xs, c with
    | x0 :: xs0, .cons c c1 =>
    match ks, a with
    | k0 :: ks0, .cons a a1 =>
    obtain ⟨T, h1, h2, h3⟩ := ih a1 c1
    refine ⟨(k0, u0, v0, x0) :: T, fun r hr => ?_, by rw [List.map_cons, h2]; rfl, by rw [List.map_cons, h3]; rfl⟩
    rcases List.mem_cons.mp hr with e | hr
    · rw [e]; exact ⟨a, b, c⟩
    · exact h1 r hr
theorem rows_vals {K : PySem.W.Frag} {F : Hp} {key : PyData → PyData} : ∀ {T : List Row}, (∀ r ∈ T, RowOk K F key r) → Vals (T.map Row.v) (T.map Row.val) ∧ IsAll K F (T.map Row.v) (T.map Row.dat)
  | [], _ => ⟨.nil, .nil⟩
  | r :: T, h => by
    have q := rows_vals (T := T) fun x hx => h x (List.mem_cons_of_mem _ hx)
    have p := h r List.mem_cons_self
    exact ⟨.cons p.v q.1, .cons p.d q.2⟩
theorem out_rows {K : PySem.W.Frag} {F : Hp} {key : PyData → PyData} {G : PyData → Prop} {ltd : PyData → PyData → Bool} {ltv : Value → Value → Bool} (kk : KeyK G ltd ltv) {T : List Row} (hT : ∀ r ∈ T, RowOk K F key r) (hG : ∀ r ∈ T, G (key r.dat)) {b : Bool} {ps : List Keyed}
    (h1 : Srtd (lt2 ltv) ps) (h2 : Stb (lt2 ltv) ps (inOf b (T.map Row.kv))) : ∃ zs, Vals zs (outOf b ps) ∧ IsAll K F zs (sortK ltd key b (T.map Row.dat)) := by
  have O := swo2 kk.swo
  have go : ∀ T0 : List Row, (∀ r ∈ T0, r ∈ T) → ps = isort (lt2 ltv) (T0.map Row.kv) → ∃ U : List Row, (∀ r ∈ U, RowOk K F key r) ∧ ps.map (·.2) = U.map Row.val ∧ U.map Row.dat = isort (fun x y => ltd (key x) (key y)) (T0.map Row.dat) := fun T0 hm e => by
    refine ⟨isort (fun r q : Row => ltv r.1 q.1) T0, fun r hr => hT r (hm r ((isort_perm T0).mem_iff.mp hr)), ?_, ?_⟩
    · rw [e, ← isort_map (lt := fun r q : Row => ltv r.1 q.1) (lu := lt2 ltv) Row.kv fun x _ y _ => rfl, List.map_map]
      rfl
    · refine isort_map (lt := fun r q : Row => ltv r.1 q.1) Row.dat fun x hx y hy => ?_
      exact krel_lt kk (hG y (hm y hy)) (hG x (hm x hx)) (hT y (hm y hy)).k (hT x (hm x hx)).k
  have ep : ps = isort (lt2 ltv) (inOf b (T.map Row.kv)) := srt_one O h1 (isort_srtd O _) (h2.trans (Stb.symm (isort_stb O _)))
  cases b with
  | true =>
    have ei : inOf true (T.map Row.kv) = T.reverse.map Row.kv := by unfold inOf; rw [if_pos rfl, List.map_reverse]
    rw [ei] at ep
    obtain ⟨U, k1, k2, k3⟩ := go T.reverse (fun r hr => List.mem_reverse.mp hr) ep
    obtain ⟨q1, q2⟩ := rows_vals (T := U.reverse) fun r hr => k1 r (List.mem_reverse.mp hr)
    refine ⟨U.reverse.map Row.v, ?_, ?_⟩
    · unfold outOf
      rw [if_pos rfl, k2, ← List.map_reverse]
      exact q1
    · unfold sortK
      rw [if_pos rfl, ← List.map_reverse, ← k3, ← List.map_reverse]
      exact q2
  | false =>
    obtain ⟨U, k1, k2, k3⟩ := go T (fun r hr => hr) ep
    obtain ⟨q1, q2⟩ := rows_vals k1
    refine ⟨U.map Row.v, ?_, ?_⟩
    · unfold outOf
      rw [if_neg Bool.false_ne_true, k2]
      exact q1
    · unfold sortK
      rw [if_neg Bool.false_ne_true, ← k3]
      exact q2
/-! the names that a lambda sees -/
def blankS (p : Str) (N : List Str) (ρ : List Sl) : List Sl := List.zipWith (fun n s => if n = p then .un else s) N ρ
theorem blankS_at {p : Str} {N : List Str} {ρ : List Sl} {j : Nat} {s : Sl} (h : (blankS p N ρ)[j]? = some s) : ∃ n s', N[j]? = some n ∧ ρ[j]? = some s' ∧ s = if n = p then .un else s' := by
  unfold blankS at h
  rw [List.getElem?_zipWith] at h
  cases e : N[j]? with
  | none => rw [e] at h; cases h
  | some n =>
    cases e2 : ρ[j]? with
    | none => rw [e, e2] at h; cases h
    | some s' =>
      rw [e, e2] at h
      exact ⟨n, s', rfl, rfl, (Option.some.inj h).symm⟩
theorem en_lam {K : PySem.W.Frag} {B F H : Hp} {σ : L2.St} {ρ : List Sl} {p : Str} {N : List Str} (E : En K B F H σ ρ) {v : V} {d : PyData} (i : Is K F v d) : En K B F H (some v :: blank p N σ) (.sh d :: blankS p N ρ) := by
  have fpm : ∀ {n : Str} {s' : Sl} {a : Addr}, a ∈ (if n = p then Sl.un else s').fp → a ∈ s'.fp := fun {n s' a} h => by
    by_cases q : n = p
    · rw [if_pos q] at h; exact nomatch h
    · rw [if_neg q] at h; exact h
  refine ⟨E.i, E.b, fun j s e => ?_, fun a b s t x ea eb ha hb => ?_, E.t⟩
  · cases j with
    | zero => cases e; exact ⟨some v, rfl, i⟩
    | succ j =>
      obtain ⟨n, s', e1, e2, e3⟩ := blankS_at (show (blankS p N ρ)[j]? = some s from e)
      obtain ⟨o, e4, h⟩ := E.s j s' e2
      refine ⟨if n = p then none else o, ?_, ?_⟩
      · show (blank p N σ)[j]? = _
        unfold blank
        rw [List.getElem?_zipWith, e1, e4]
      · rw [e3]
        by_cases q : n = p
        · rw [if_pos q, if_pos q]; trivial
        · rw [if_neg q, if_neg q]; exact h
  · cases a with
    | zero => cases ea; exact nomatch ha
    | succ a =>
      cases b with
      | zero => cases eb; exact nomatch hb
      | succ b =>
        obtain ⟨n, s', e1, e2, e3⟩ := blankS_at (show (blankS p N ρ)[a]? = some s from ea)
        obtain ⟨m, t', f1, f2, f3⟩ := blankS_at (show (blankS p N ρ)[b]? = some t from eb)
        rw [e3] at ha
        rw [f3] at hb
        rw [E.d a b s' t' x e2 f2 (fpm ha) (fpm hb)]
end LamK

set_option maxHeartbeats 4000000
/-! sorted(e, key=lambda p: body) of data, reverse=True or not. -/
namespace LamK
variable [PD.TabC]
open PySem PyProof.Rows L2 LamX SrtO Srt PD
theorem pr_snoc {α β : Type} {R : α → β → Prop} {x : α} {y : β} (r : R x y) : ∀ {xs : List α} {ys : List β}, Paired R xs ys → Paired R (xs ++ [x]) (ys ++ [y])
  | _, _, .nil => .cons r .nil
  | _, _, .cons h t => .cons h (pr_snoc r t)
theorem fnl_nt {f : Addr} {q : Str} {params : Arguments} {body : Expr} {scope : Scope} {cl : List (Str × Addr)} {c' : Addr} : NT (FnL f q params body scope cl c') := fun ps z => by
  unfold FnL at z
  cases z
theorem code_nt {c : Addr} {q : Str} : NT (CodeO c q) := codeO_ne
/-- what the lambda's body says of d -/
def Says (X : Cx) (k : Nat) (scope : Scope) (p : Str) (body : Expr) (ρ : List Sl) (d d' : PyData) : Prop := ∀ (A : Around) (s : Shared) (H : Hp) (f c' : Addr), Room (k + 1) A → ED (lamCx1 X A s H scope f c' p) noW noX body (.sh d :: blankS p X.N ρ) d'
section
variable {X : Cx} {W : WX} {ex : Addr → Prop} {e : Expr} {ρ : List Sl} {xs : List PyData}
theorem sortK_run {pb : List (Addr × Obj)} {σ : L2.St} {H F B : Hp} {s : Shared} {l f c' : Addr} {vs : List V} {kw : List (Str × Value)} {params : Arguments} {body : Expr} {scope : Scope} {p : Str} {k : Nat} {b : Bool} {Q : VK} {G : PyData → Prop} {ltd : PyData → PyData → Bool} {ltv : Value → Value → Bool} {key : PyData → PyData}
    (I : Inv X pb σ H s) (E : En X.K B F H σ ρ) (hs : SqL X.K H l vs) (ia : IsAll X.K F vs xs) (L : LamS1 X.env.scope scope p)
    (hf : H f = some (FnL f (X.env.qual ++ "<lambda>") params body scope (cloFrom X.env.cells scope.names []) c')) (hco : H c' = some (CodeO c' (X.env.qual ++ "<lambda>")))
    (hbind : ∀ pm ctv u, bindArgs (PySem.W.kla_fn "<lambda>" (X.env.qual ++ "<lambda>") params body scope (cloFrom X.env.cells scope.names []) pm (.ref c') ctv) ⟨[u], []⟩ = pure [(p, u)])
    (hr : Room (k + 3) X.A) (says : ∀ x ∈ xs, Says X k scope p body ρ x (key x)) (kk : KeyK G ltd ltv) (g : ∀ x ∈ xs, G (key x))
    (ha1 : argsOk "sorted" ⟨[.ref l], kw⟩) (ha2 : ∀ x, argsOk "list.sort" ⟨[.ref x], kw⟩) (ht : ∀ x, Builtin.«list.sort» ⟨[.ref x], kw⟩ = ksk_tree x (.ref f) b)
    (q : ∀ zs r F' H', Ext F H F' H' → H r = none → H' r = none → IsAll X.K F' zs (sortK ltd key b xs) → Q (.ref r) (upd H' r (.lst zs))) : wpAny (model X.prog X.w) X.A (call (.builtin "sorted") [.ref l] kw) (EP X pb σ Q) X.xe s := by
  obtain ⟨us, rv, hl, hz⟩ := I.list hs
  have lv := rv.length
  refine ks_sorted (vs := us) (ltv := ltv) (Jn := fun i H' ks => ∃ F', Ext F H F' H' ∧ Paired KRel ks ((xs.take i).map key)) I hl.isList (by rw [← lv]; exact hz) ha1 ha2 ht kk.swo ⟨F, Ext.refl E.i, .nil⟩ ?turn ?cmp ?fin
  case turn =>
    rintro i u s' H' own ks hu I' ⟨F', x, pk⟩
    have hi : i < vs.length := by rw [lv]; exact (List.getElem?_eq_some_iff.mp hu).1
    obtain ⟨v, hv⟩ : ∃ v, vs[i]? = some v := ⟨_, List.getElem?_eq_getElem hi⟩
    obtain ⟨u2, hu2, r⟩ := rv.get hv
    rw [hu] at hu2
    cases hu2
    obtain ⟨d, hd, id⟩ := ia.get' hv
    have md : d ∈ xs := List.mem_of_getElem? hd
    have f' := x.h.k _ _ hf fnl_nt
    have c2 := x.h.k _ _ hco code_nt
    obtain ⟨⟨pm, ctv, hob⟩, _, _⟩ := I'.hok f _ f'
    have E' := en_lam (p := p) (N := X.N) (E.ext x) (id.mono x.f)
    refine wpAny_mono (lam1_call (tb := WE (lamCx1 X X.A.in1.in1 s' H' scope f c' p) body) (k := k + 0) (Q := fun v2 H2 => ∃ F2, Ext F' H' F2 H2 ∧ Is X.K F2 v2 (key d)) I' L hob c2 (hbind pm ctv u) (hr.in1.in1) I.ok.frames r pe_w ?_) ?_ fun _ _ z => z
    · exact says d md X.A.in1.in1 s' H' f c' hr.in1.in1 B F' H' _ _ E' xcN fun v2 F2 H2 x2 i2 => ⟨F2, x2, i2⟩
    · rintro k2 s2 ⟨v2, H2, I2, r2, F2, x2, i2⟩
      refine ⟨H2, I2, F2, x.trans x2, ?_⟩
      rw [List.take_add_one, hd, List.map_append]
      exact pr_snoc (krel_of kk (g d md) i2 r2) pk
  case cmp =>
    rintro H' keys ⟨F', x, pk⟩ hkl
    rw [List.take_of_length_le (by rw [← ia.len, lv]; exact Nat.le_refl _)] at pk
    exact cmp1_of kk pk g
  case fin =>
    rintro ps H' keys a ha ha2 ⟨F', x, pk⟩ hkl h1 h2
    rw [List.take_of_length_le (by rw [← ia.len, lv]; exact Nat.le_refl _)] at pk
    obtain ⟨T, t1, t2, t3⟩ := rows_of pk rv (ia.mono x.f)
    rw [← t2] at h2
    have hg : ∀ r ∈ T, G (key r.dat) := fun r hr => g _ (by rw [← t3]; exact List.mem_map_of_mem hr)
    obtain ⟨zs, z1, z2⟩ := out_rows kk t1 hg h1 h2
    rw [t3] at z2
    refine ⟨zs, z1, ?_, q zs a F' H' x ha ha2 z2⟩
    have hlen : zs.length = xs.length := by
      rw [z2.len]
      unfold sortK
      split
      · rw [List.length_reverse, (isort_perm _).length_eq, List.length_reverse]
      · rw [(isort_perm _).length_eq]
    rw [hlen, ← ia.len]
    exact hz
/-- a built-in function called with keywords; its rule may look at the names -/
theorem pe_callKw {x : Str} {p pos : Pos} {es : List Expr} {kws : List Keyword} {t tk : TA} {id : String} {ks : List Str} {r : List V → List V → L2.St → Hp → VK → Prop}
    (hc : ∀ (pins : List (Addr × Obj)) (s : Shared) (σ : L2.St) (H : Hp) (xs zs : List V) (us ws : List Value) (Q : VK), Inv X pins σ H s → Vals xs us → Vals zs ws → r xs zs σ H Q → wpAny (model X.prog X.w) X.A (call (.builtin id) us (ks.zip ws)) (EP X pins σ Q) X.xe s)
    (hg : Gl X x) (hm : X.mg x = none) (hv : bootBuiltins x = some (.builtin id)) (ha : PA X (e :: es) t) (hk : PK X kws tk) (hn : x ≠ "__name__" := by decide) (hdb : (x == ("__debug__" : Str)) = false := by decide)
    (he : backTo pos (starEach (e :: es) X.env) = (false, eval e X.env) :: backTo pos (starEach es X.env) := by rfl) (hpl : (backTo pos (starEach (e :: es) X.env)).any (·.1) = false := by rfl)
    (hall : (backToKw pos (keywordEach kws X.env)).all (·.1.isSome) = true := by rfl) (hnone : (backToKw pos (keywordEach kws X.env)).any (·.1.isNone) = false := by rfl) (hks : (backToKw pos (keywordEach kws X.env)).filterMap (·.1) = ks := by rfl) :
    PE X (.Call (.Name x p) (e :: es) kws pos) (fun σ H Q => t σ H fun vs H1 => tk σ H1 fun zs H2 => r vs zs σ H2 Q) := by
  refine ⟨fun pins s σ H Q I h => ?_⟩
  refine wpAny_Call_Name_kw (ld_blt I hg hm hv ?_ hn hdb)
  refine PyProof.Rows.callWith_kw (thn (ha.run pos pins s σ H _ I h) fun us s1 ⟨vs, H1, I1, r1, q1⟩ => thn (hk.run pos pins s1 σ H1 _ I1 q1) fun ws s2 ⟨zs, H2, I2, r2, q2⟩ => ?_) he hpl hall hnone
  rw [hks]
  exact hc pins s2 σ H2 vs zs us ws Q I2 r1 r2 q2
/-- what sorted(.., key=a lambda) asks -/
structure KeyOk (X : Cx) (ρ : List Sl) (scope : Scope) (params : Arguments) (p : Str) (body : Expr) (k : Nat) (key : PyData → PyData) (xs : List PyData) : Prop where
  mkx : Mk X
  l : LamS1 X.env.scope scope p
  df : defaultsOf params X.env = ([], [])
  bd : ∀ cl pm c' ctv u, bindArgs (PySem.W.kla_fn "<lambda>" (X.env.qual ++ "<lambda>") params body scope cl pm (.ref c') ctv) ⟨[u], []⟩ = pure [(p, u)]
  hr : Room (k + 3) X.A
  says : ∀ x ∈ xs, Says X k scope p body ρ x (key x)
def rKey (X : Cx) (ρ : List Sl) (xs : List PyData) (l2 : List V) (ltd : PyData → PyData → Bool) (key : PyData → PyData) (b : Bool) (params : Arguments) (body : Expr) (scope : Scope) : List V → List V → L2.St → Hp → VK → Prop := fun vs zs σ H Q =>
  ∃ (B F : Hp) (l f c' : Addr) (us : List V), vs = [.ref l] ∧ zs = .ref f :: l2 ∧ En X.K B F H σ ρ ∧ SqL X.K H l us ∧ IsAll X.K F us xs ∧ H f = some (FnL f (X.env.qual ++ "<lambda>") params body scope (cloFrom X.env.cells scope.names []) c') ∧ H c' = some (CodeO c' (X.env.qual ++ "<lambda>")) ∧
    ∀ zs r F' H', Ext F H F' H' → H r = none → H' r = none → IsAll X.K F' zs (sortK ltd key b xs) → Q (.ref r) (upd H' r (.lst zs))
theorem el_key {params : Arguments} {body : Expr} {scope : Scope} {p : Str} {k : Nat} {b : Bool} {G : PyData → Prop} {ltd : PyData → PyData → Bool} {ltv : Value → Value → Bool} {key : PyData → PyData} {pn pos lpos kpos : Pos} {kws : List Keyword} {tk : TA} {l2 : List V} {ks : List Str} {ws2 : List Value}
    (O : KeyOk X ρ scope params p body k key xs) (kk : KeyK G ltd ltv) (g : ∀ x ∈ xs, G (key x)) (ha : EB X W ex e ρ xs) (hg : Gl X ("sorted" : Str)) (hm : X.mg ("sorted" : Str) = none)
    (hk : PK X kws tk) (htk : ∀ σ H (Q : List V → Hp → Prop), tk σ H Q ↔ True ∧ Q l2 H) (hw : ∀ ws, Vals l2 ws → ws = ws2) (hs : starEach [e] X.env = [(false, eval e X.env)] := by rfl)
    (he : backTo pos (starEach [e] X.env) = (false, eval e X.env) :: backTo pos (starEach [] X.env) := by rfl) (hpl : (backTo pos (starEach [e] X.env)).any (·.1) = false := by rfl)
    (hall : (backToKw pos (keywordEach (⟨some "key", .Lambda params body scope lpos, kpos⟩ :: kws) X.env)).all (·.1.isSome) = true := by rfl) (hnone : (backToKw pos (keywordEach (⟨some "key", .Lambda params body scope lpos, kpos⟩ :: kws) X.env)).any (·.1.isNone) = false := by rfl)
    (hks : (backToKw pos (keywordEach (⟨some "key", .Lambda params body scope lpos, kpos⟩ :: kws) X.env)).filterMap (·.1) = ks := by rfl)
    (ha1 : ∀ l f, argsOk "sorted" ⟨[.ref l], ks.zip (.ref f :: ws2)⟩) (ha2 : ∀ x f, argsOk "list.sort" ⟨[.ref x], ks.zip (.ref f :: ws2)⟩) (ht : ∀ x f, Builtin.«list.sort» ⟨[.ref x], ks.zip (.ref f :: ws2)⟩ = ksk_tree x (.ref f) b) :
    EL X W ex (.Call (.Name "sorted" pn) [e] (⟨some "key", .Lambda params body scope lpos, kpos⟩ :: kws) pos) ρ (sortK ltd key b xs) := fun B F H σ Q E c q =>
  w_e (pe_callKw (r := rKey X ρ xs l2 ltd key b params body scope) (ks := ks) (fun pins s σ H vs zs us ws Q I r rz h => by
      obtain ⟨B, F, l, f, c', vs2, rfl, rfl, E, hs, ia, hf, hc, q⟩ := h
      obtain rfl := Vals.ref1 r
      cases rz with
      | cons r1 rz =>
      obtain rfl := r1
      obtain rfl := hw _ rz
      exact sortK_run I E hs ia O.l hf hc (fun pm ctv u => O.bd _ pm c' ctv u) O.hr O.says kk g (ha1 _ _) (fun x => ha2 x _) (fun x => ht x _) q)
    hg hm (by decide +kernel) (pa_cons pe_w pa_nil hs) (pk_cons (pe_lam O.mkx O.l O.df) hk) (by decide) (by decide) he hpl hall hnone hks) (by
    refine ha B F H σ _ E c fun l vs F1 H1 x1 h1 i1 => ?_
    have E1 := E.ext x1
    refine ⟨E1.t, fun f c' H2 hf x2 T2 k1 k2 => ?_⟩
    have x3 : Ext F1 H1 F1 H2 := ⟨Ex.refl F1, x2, x1.i.trans x2, fun _ _ => rfl, fun _ => T2⟩
    refine (htk _ _ _).mpr ⟨trivial, B, F1, l, f, c', vs, rfl, rfl, E1.ext x3, x2.sql h1, i1, k1, k2, fun zs r F' H' x4 n1 n2 ia => ?_⟩
    have x5 := Ext.kept (o := .lst zs) x4.i n2
    exact q r zs F' _ (((x1.trans x3).trans x4).trans x5) (x1.h.back (x2.back n1)) (x4.i.back n2) upd_same ia)
/-- sorted(e, key=lambda p: body) -/
theorem el_sortKey {params : Arguments} {body : Expr} {scope : Scope} {p : Str} {k : Nat} {G : PyData → Prop} {ltd : PyData → PyData → Bool} {ltv : Value → Value → Bool} {key : PyData → PyData} {pn pos lpos kpos : Pos}
    (O : KeyOk X ρ scope params p body k key xs) (kk : KeyK G ltd ltv) (g : ∀ x ∈ xs, G (key x)) (ha : EB X W ex e ρ xs) (hg : Gl X ("sorted" : Str)) (hm : X.mg ("sorted" : Str) = none) (hs : starEach [e] X.env = [(false, eval e X.env)] := by rfl)
    (he : backTo pos (starEach [e] X.env) = (false, eval e X.env) :: backTo pos (starEach [] X.env) := by rfl) (hpl : (backTo pos (starEach [e] X.env)).any (·.1) = false := by rfl) :
    EL X W ex (.Call (.Name "sorted" pn) [e] [⟨some "key", .Lambda params body scope lpos, kpos⟩] pos) ρ (sortK ltd key false xs) :=
  el_key (l2 := []) (ws2 := []) (tk := tNil) (ks := [Str.ofString "key"]) O kk g ha hg hm pk_nil (fun σ H Q => ⟨fun h => ⟨trivial, h⟩, fun h => h.2⟩) (fun ws h => by cases h; rfl) hs he hpl (by rfl) (by rfl) (by rfl) (fun l f => ksk_s1 _ _) (fun x f => ksk_l1 _ _) (fun x f => ksk_t1 _ _)
/-- sorted(e, key=lambda p: body, reverse=True) -/
theorem el_sortKeyR {params : Arguments} {body : Expr} {scope : Scope} {p : Str} {k : Nat} {G : PyData → Prop} {ltd : PyData → PyData → Bool} {ltv : Value → Value → Bool} {key : PyData → PyData} {pn pos lpos kpos kpos2 cpos : Pos} {m : Nat}
    (O : KeyOk X ρ scope params p body k key xs) (kk : KeyK G ltd ltv) (g : ∀ x ∈ xs, G (key x)) (ha : EB X W ex e ρ xs) (hg : Gl X ("sorted" : Str)) (hm : X.mg ("sorted" : Str) = none) (hs : starEach [e] X.env = [(false, eval e X.env)] := by rfl)
    (he : backTo pos (starEach [e] X.env) = (false, eval e X.env) :: backTo pos (starEach [] X.env) := by rfl) (hpl : (backTo pos (starEach [e] X.env)).any (·.1) = false := by rfl) :
    EL X W ex (.Call (.Name "sorted" pn) [e] [⟨some "key", .Lambda params body scope lpos, kpos⟩, ⟨some "reverse", .Constant (.bool true) m cpos, kpos2⟩] pos) ρ (sortK ltd key true xs) :=
  el_key (l2 := [.bl true]) (ws2 := [.bool true]) (ks := [Str.ofString "key", Str.ofString "reverse"]) O kk g ha hg hm (pk_cons pe_bl pk_nil) (fun σ H Q => ⟨fun h => ⟨trivial, h⟩, fun h => h.2⟩) (fun ws h => by
    cases h with
    | cons a b =>
    cases b
    rw [show _ = Value.bool true from a]) hs he hpl (by rfl) (by rfl) (by rfl) (fun l f => ksk_s2 _ _ _) (fun x f => ksk_l2 _ _ _) (fun x f => ksk_t2 _ _ _)
end
end LamK

set_option maxHeartbeats 4000000
/-! Data of one's own, with all the lists in it: told, lent for reading, handed over. -/
namespace PD
open PySem PySem.Spec PyProof.Rows L2
variable [PD.TabC]
/-- what never changes -/
def tp : Option HO → Option HO
  | some (.tup xs) => some (.tup xs)
  | some (.frz o u) => some (.frz o u)
  | _ => none
/-- the lists at the places fp, all else what never changes -/
def jn (F H : Hp) (fp : List Addr) : Hp := fun a => if a ∈ fp then H a else tp (F a)
/-- told for good -/
def jf (F H : Hp) (fp : List Addr) : Hp := fun a => if a ∈ fp then H a else F a
/-- no more told -/
def un (F : Hp) (fp : List Addr) : Hp := fun a => if a ∈ fp then none else F a
def Lsts (H : Hp) (fp : List Addr) : Prop := ∀ a ∈ fp, ∃ vs, H a = some (.lst vs)
/-- data of one's own: each list in it stands at one's own places -/
def nP (K : PySem.W.Frag) (d : PyData) : OP := fun v fp F H => Is K (jn F H fp) v d ∧ Lsts H fp
theorem tp_some {o : Option HO} {u : HO} (h : tp o = some u) : o = some u ∧ NT u ∧ ∀ xs, u ≠ .lst xs := by
  match o, h with
  | some (.tup xs), h => cases h; exact ⟨rfl, fun _ z => (nomatch z), fun _ z => nomatch z⟩
  | some (.frz o u), h => cases h; exact ⟨rfl, fun _ z => (nomatch z), fun _ z => nomatch z⟩
theorem tp_of {o o2 : Option HO} {u : HO} (h : tp o = some u) (g : o2 = some u) : tp o2 = some u := by
  match o, h with
  | some (.tup xs), h => cases h; rw [g]; rfl
  | some (.frz o u), h => cases h; rw [g]; rfl
section
variable {K : PySem.W.Frag} {B F F' H H' : Hp} {fp fq : List Addr}
theorem Ex.of2 {H H' : Hp} (e : ∀ a o, H a = some o → H' a = some o) : Ex H H' := .of e
/-- what is one's own goes on when other things are made -/
theorem jn_grow (l : Lsts H fp) (xf : Ex F F') (xh : ∀ a ∈ fp, H' a = H a) (nf : ∀ a ∈ fq, F' a = none) : Ex (jn F H fp) (jn F' H' (fp ++ fq)) := .of fun a o e => by
  unfold jn at e ⊢
  by_cases m : a ∈ fp
  · rw [if_pos m] at e
    rw [if_pos (List.mem_append_left _ m), xh a m]
    exact e
  · rw [if_neg m] at e
    obtain ⟨e1, n1, _⟩ := tp_some e
    have e2 := xf.k a o e1 n1
    have m2 : a ∉ fp ++ fq := fun q => by
      rcases List.mem_append.mp q with q | q
      · exact m q
      · rw [nf a q] at e2; cases e2
    rw [if_neg m2]
    exact tp_of e e2
theorem jn_stay (xf : Ex F F') (xh : ∀ a ∈ fp, H' a = H a) : Ex (jn F H fp) (jn F' H' fp) := .of fun a o e => by
  unfold jn at e ⊢
  by_cases m : a ∈ fp
  · rw [if_pos m] at e ⊢
    rw [xh a m]
    exact e
  · rw [if_neg m] at e ⊢
    obtain ⟨e1, n1, _⟩ := tp_some e
    exact tp_of e (xf.k a o e1 n1)
theorem nP_st {d : PyData} : Stab (nP K d) := fun v fp F H F' H' ⟨i, l⟩ x y => ⟨i.mono (jn_stay x y), fun a ha => by rw [y a ha]; exact l a ha⟩
theorem jn_jf : Ex (jn F H fp) (jf F H fp) := .of fun a o e => by
  unfold jn at e
  unfold jf
  by_cases m : a ∈ fp
  · rw [if_pos m] at e ⊢; exact e
  · rw [if_neg m] at e ⊢; exact (tp_some e).1
theorem jn_H (i : Ex F H) : Ex (jn F H fp) H := .of fun a o e => by
  unfold jn at e
  by_cases m : a ∈ fp
  · rw [if_pos m] at e; exact e
  · rw [if_neg m] at e
    obtain ⟨e1, n1, _⟩ := tp_some e
    exact i.k a o e1 n1
theorem ex_jf (nf : ∀ a ∈ fp, F a = none) (l : Lsts H fp) : Ex F (jf F H fp) := ⟨fun a o e n => by
  unfold jf
  rw [if_neg (fun m => by rw [nf a m] at e; cases e)]
  exact e, fun a h => by
  unfold jf
  rw [if_neg (fun m => h (nf a m))]
  exact h⟩
theorem jf_ex (i : Ex F H) : Ex (jf F H fp) H := ⟨fun a o e n => by
  unfold jf at e
  by_cases m : a ∈ fp
  · rw [if_pos m] at e; exact e
  · rw [if_neg m] at e; exact i.k a o e n, fun a h => by
  unfold jf at h
  by_cases m : a ∈ fp
  · rw [if_pos m] at h; exact h
  · rw [if_neg m] at h; exact i.d a h⟩
/-- one's own is told: what goes on from there goes on without it too -/
theorem un_ext {F1 H1 : Hp} (x : Ext (jf F H fp) H F1 H1) (nf : ∀ a ∈ fp, F a = none) : Ext F H (un F1 fp) H1 := by
  have go : ∀ {a : Addr}, a ∉ fp → jf F H fp a = F a ∧ un F1 fp a = F1 a := fun {a} m => by
    unfold jf un
    exact ⟨if_neg m, if_neg m⟩
  refine ⟨⟨fun a o e n => ?_, fun a h => ?_⟩, x.h, ⟨fun a o e n => ?_, fun a h => ?_⟩, fun a h => ?_, x.t⟩
  · have m : a ∉ fp := fun m => by rw [nf a m] at e; cases e
    rw [(go m).2]
    exact x.f.k a o ((go m).1.trans e) n
  · have m : a ∉ fp := fun m => h (nf a m)
    rw [(go m).2]
    exact x.f.d a (by rw [(go m).1]; exact h)
  · have m : a ∉ fp := fun m => by unfold un at e; rw [if_pos m] at e; cases e
    rw [(go m).2] at e
    exact x.i.k a o e n
  · have m : a ∉ fp := fun m => h (by unfold un; exact if_pos m)
    rw [(go m).2] at h
    exact x.i.d a h
  · by_cases m : a ∈ fp
    · rw [nf a m]; unfold un; exact if_pos m
    · rw [(go m).2, x.n a h, (go m).1]
theorem un_tp {F1 : Hp} {H1 : Hp} (i : Ex F1 H1) (l : Lsts H1 fp) (a : Addr) : tp (un F1 fp a) = tp (F1 a) := by
  unfold un
  by_cases m : a ∈ fp
  · rw [if_pos m]
    cases e : tp (F1 a) with
    | none => rfl
    | some u =>
      obtain ⟨e1, n1, n2⟩ := tp_some e
      obtain ⟨vs, e2⟩ := l a m
      rw [i.k a u e1 n1] at e2
      cases e2
      exact absurd rfl (n2 vs)
  · rw [if_neg m]
theorem un_jn {F1 H1 : Hp} (i : Ex F1 H1) (l : Lsts H1 fp) : jn (un F1 fp) H1 fq = jn F1 H1 fq := funext fun a => by
  unfold jn
  by_cases m : a ∈ fq
  · rw [if_pos m, if_pos m]
  · rw [if_neg m, if_neg m, un_tp i l]
theorem Lsts.up (l : Lsts H fp) (x : Ex H H') : Lsts H' fp := fun a ha => let ⟨vs, e⟩ := l a ha; ⟨vs, x.g e⟩
theorem un_new {F1 H1 : Hp} (n : New H F1 H1 fq) : New H (un F1 fp) H1 fq := fun a ha => ⟨(n a ha).1, by
  unfold un
  by_cases m : a ∈ fp
  · rw [if_pos m]
  · rw [if_neg m]; exact (n a ha).2.1, (n a ha).2.2⟩
/-- a slot of one's own is lent: read as data -/
theorem En.lend {σ : L2.St} {ρ : List Sl} (E : En K B F H σ ρ) {i : Nat} {d : PyData} (hi : ρ[i]? = some (PD.og fp (nP K d))) :
    (∀ a ∈ fp, F a = none) ∧ Lsts H fp ∧ En K B (jf F H fp) H σ (ρ.set i (.sh d)) := by
  obtain ⟨v, e1, ⟨p1, p2⟩, q⟩ := E.og hi
  have nf : ∀ a ∈ fp, F a = none := fun a ha => (q a ha).1
  have xf := ex_jf (H := H) nf p2
  refine ⟨nf, p2, jf_ex E.i, E.b, fun j t e => ?_, fun x y t w b ea eb ha hb => ?_, E.t⟩
  · rcases set_at e with ⟨rfl, _, rfl⟩ | ⟨z, e⟩
    · exact ⟨_, e1, p1.mono jn_jf⟩
    · obtain ⟨o2, e2, h2⟩ := E.s j t e
      refine ⟨o2, e2, h2.frz xf fun b hb => ?_⟩
      unfold jf
      exact if_neg fun w => z (E.d i j _ t b hi e w hb)
  · have back : ∀ (z : Nat) (s' : Sl), (ρ.set i (.sh d))[z]? = some s' → b ∈ s'.fp → ρ[z]? = some s' := fun z s' e m => by
      rcases set_at e with ⟨rfl, _, rfl⟩ | ⟨_, e⟩
      · exact nomatch m
      · exact e
    exact E.d x y t w b (back x t ea ha) (back y w eb hb) ha hb
end
section
variable {X : Cx} {W : WX} {ex : Addr → Prop} {e e1 e2 e3 a b o : Expr} {es : List Expr} {ρ as : List Sl} {d d' x y : PyData} {ds xs ys : List PyData} {pos p p0 p1 p2 p3 p4 apos spos tpos : Pos} {T : De} {P : OP} {n m : Str} {i j : Nat} {fp : List Addr}
theorem Xc.lend {B F H : Hp} {σ : L2.St} (c : Xc W ex F H σ) (nf : ∀ a ∈ fp, F a = none) : Xc W ex (jf F H fp) H σ := fun C F1 H1 e x => c C (un F1 fp) H1 e (un_ext x nf)
/-- read what is one's own: a plain answer -/
theorem ED.lend (hi : ρ[i]? = some (og fp (nP X.K d))) (h : ED X W ex e (ρ.set i (.sh d)) d') (hb : basicD d' = true) : ED X W ex e ρ d' := fun B F H σ Q E c q => by
  obtain ⟨nf, l, E2⟩ := E.lend hi
  exact h B _ H σ Q E2 (c.lend (B := B) nf) fun v F1 H1 x iv => q v _ H1 (un_ext x nf) (iv.basic hb)
theorem ET.lend {k : Bool} (hi : ρ[i]? = some (og fp (nP X.K d))) (h : ET X W ex e (ρ.set i (.sh d)) k) : ET X W ex e ρ k := fun B F H σ Q E c q => by
  obtain ⟨nf, l, E2⟩ := E.lend hi
  exact h B _ H σ Q E2 (c.lend (B := B) nf) fun F1 H1 x => q _ H1 (un_ext x nf)
/-- .. something of one's own again -/
theorem EOw.lend (hi : ρ[i]? = some (og fp (nP X.K d))) (h : EOw X W ex e (ρ.set i (.sh d)) (nP X.K d')) : EOw X W ex e ρ (nP X.K d') := fun B F H σ Q E c q => by
  obtain ⟨nf, l, E2⟩ := E.lend hi
  exact h B _ H σ Q E2 (c.lend (B := B) nf) fun v fq F1 H1 x n1 ⟨p1, p2⟩ => q v fq _ H1 (un_ext x nf) (un_new n1) ⟨by rw [un_jn x.i (l.up x.h)]; exact p1, p2⟩
theorem EX.lend (hi : ρ[i]? = some (og fp (nP X.K d))) (h : EX X W ex e (ρ.set i (.sh d))) : EX X W ex e ρ := fun B F H σ Q E c => by
  obtain ⟨nf, l, E2⟩ := E.lend hi
  exact h B _ H σ Q E2 (c.lend (B := B) nf)
/-- data without a list is one's own -/
def noList : PyData → Bool
  | .list _ => false
  | .tuple ds => goL ds
  | _ => true
where goL : List PyData → Bool
  | [] => true
  | d :: r => noList d && goL r
mutual
theorem Is.nol {K : PySem.W.Frag} {F H : Hp} : ∀ {v : V} {d : PyData}, noList d = true → Is K F v d → Is K (jn F H []) v d
  | _, _, _, .non => .non
  | _, _, _, .bl b => .bl b
  | _, _, _, .int n => .int n
  | _, _, _, .str x => .str x
  | _, _, h, .lst _ _ => nomatch h
  | _, _, h, .tup ht ha => .tup (by unfold jn; rw [if_neg (by simp), ht]; rfl) (IsAll.nol h ha)
theorem IsAll.nol {K : PySem.W.Frag} {F H : Hp} : ∀ {vs : List V} {ds : List PyData}, noList.goL ds = true → IsAll K F vs ds → IsAll K (jn F H []) vs ds
  | _, _, _, .nil => .nil
  | _, _, h, .cons i a => by
    unfold noList.goL at h
    rw [Bool.and_eq_true] at h
    exact .cons (Is.nol h.1 i) (IsAll.nol h.2 a)
end
theorem ED.own (h : ED X W ex e ρ d) (hb : noList d = true) : EOw X W ex e ρ (nP X.K d) := fun B F H σ Q E c q => h B F H σ _ E c fun v F1 H1 x1 i1 => q v [] F1 H1 x1 (fun a ha => nomatch ha) ⟨i1.nol hb, fun a ha => nomatch ha⟩
theorem EL.own (h : EL X W ex e ρ ds) (hb : noList.goL ds = true) : EOw X W ex e ρ (nP X.K (.list ds)) := fun B F H σ Q E c q => h B F H σ _ E c fun r vs F1 H1 x1 h0 f0 h1 i1 => q (.ref r) [r] F1 H1 x1 (fun a ha => by
    rw [List.mem_singleton.mp ha]; exact ⟨h0, f0, .of h1⟩) ⟨.lst (by unfold jn; rw [if_pos (List.mem_singleton.mpr rfl)]; exact h1) ((i1.nol (H := H1) hb).mono (jn_grow (fp := []) (fun a ha => nomatch ha) (Ex.refl F1) (fun a ha => nomatch ha) fun a ha => by rw [List.mem_singleton.mp ha]; exact f0)), fun a ha => by
    rw [List.mem_singleton.mp ha]; exact ⟨_, h1⟩⟩
/-- a change of one's own is such -/
theorem cP_nP {K : PySem.W.Frag} {z : Str} {v : V} {F H : Hp} (hx : noList.goL xs = true) (hy : noList.goL ys = true) (nf : ∀ a ∈ fp, F a = none) (h : cP K z xs ys v fp F H) : nP K (.tuple [.str z, .list xs, .list ys]) v fp F H := by
  obtain ⟨a, l1, l2, v1, v2, rfl, rfl, ne, ht, h1, i1, h2, i2⟩ := h
  have m1 : l1 ∈ [l1, l2] := List.mem_cons_self
  have m2 : l2 ∈ [l1, l2] := List.mem_cons_of_mem _ (List.mem_singleton.mpr rfl)
  have g : Ex (jn F H []) (jn F H [l1, l2]) := jn_grow (fp := []) (fun a ha => nomatch ha) (Ex.refl F) (fun a ha => nomatch ha) nf
  have at1 : ∀ l ∈ [l1, l2], jn F H [l1, l2] l = H l := fun l hl => by unfold jn; rw [if_pos hl]
  have tt : Is K (jn F H []) (.ref a) (.tuple [.str z]) → True := fun _ => trivial
  refine ⟨.tup ?_ (.cons (.str z) (.cons (.lst ((at1 l1 m1).trans h1) ((i1.nol (H := H) hx).mono g)) (.cons (.lst ((at1 l2 m2).trans h2) ((i2.nol (H := H) hy).mono g)) .nil))), fun b hb => ?_⟩
  · exact g.g (by unfold jn; rw [if_neg (by simp), ht]; rfl)
  · rcases List.mem_cons.mp hb with rfl | hb
    · exact ⟨_, h1⟩
    · rw [List.mem_singleton.mp hb]; exact ⟨_, h2⟩
theorem EOw.chg {z : Str} (h : EOw X W ex e ρ (cP X.K z xs ys)) (hx : noList.goL xs = true) (hy : noList.goL ys = true) : EOw X W ex e ρ (nP X.K (.tuple [.str z, .list xs, .list ys])) := fun B F H σ Q E c q => h B F H σ _ E c fun v fp F1 H1 x1 n1 p1 => q v fp F1 H1 x1 n1 (cP_nP hx hy (fun a ha => (n1 a ha).2.1) p1)
/-- what is one's own stands still from here on -/
theorem EOw.dt (h : EOw X W ex e ρ (nP X.K d)) : ED X W ex e ρ d := fun B F H σ Q E c q => h B F H σ _ E c fun v fp F1 H1 x1 n1 ⟨p1, p2⟩ => by
  have nf : ∀ a ∈ fp, F1 a = none := fun a ha => (n1 a ha).2.1
  refine q v (jf F1 H1 fp) H1 ⟨x1.f.trans (ex_jf nf p2), x1.h, jf_ex x1.i, fun a ha => ?_, x1.t⟩ (p1.mono jn_jf)
  unfold jf
  rw [if_neg fun m => ha (n1 a m).1]
  exact x1.n a ha
/-- (a, e): a plain, e one's own -/
theorem eo_tup2 {kk : Nat} (h1 : ED X W ex e1 ρ x) (hb : noList x = true) (h2 : EOw X W ex e2 ρ (nP X.K y)) (s1 : starEach [e1, e2] X.env = (false, eval e1 X.env) :: starEach [e2] X.env := by rfl) (s2 : starEach [e2] X.env = [(false, eval e2 X.env)] := by rfl) :
    EOw X W ex (.Tuple [e1, e2] kk pos) ρ (nP X.K (.tuple [x, y])) := fun B F H σ Q E c q =>
  w_e (pe_tup (pa_cons pe_w (pa_cons pe_w pa_nil s2) s1)) (h1 B F H σ _ E c fun v F1 H1 x1 i1 => h2 B F1 H1 σ _ (E.ext x1) (c.ext x1) fun u fp F2 H2 x2 n2 ⟨p1, p2⟩ => by
    refine ⟨by show 2 ≤ sizeLine; decide, fun t ht => ?_⟩
    have x4 := Ext.made (o := .tup [v, u]) x2.i ht
    have nt : ∀ a ∈ fp, a ≠ t := fun a ha z => by
      obtain ⟨vs, e⟩ := p2 a ha
      rw [z, ht] at e; cases e
    have g0 : Ex (jn F2 H2 fp) (jn (upd F2 t (.tup [v, u])) (upd H2 t (.tup [v, u])) fp) := jn_stay x4.f fun a ha => upd_ne (nt a ha)
    have g1 : Ex (jn F1 H1 []) (jn (upd F2 t (.tup [v, u])) (upd H2 t (.tup [v, u])) fp) := jn_grow (fp := []) (fun a ha => nomatch ha) (x2.f.trans x4.f) (fun a ha => nomatch ha) fun a ha => by rw [upd_ne (nt a ha)]; exact (n2 a ha).2.1
    refine q _ fp _ _ ((x1.trans x2).trans x4) (fun a ha => ⟨x1.h.back (n2 a ha).1, by rw [upd_ne (nt a ha)]; exact (n2 a ha).2.1, ?_⟩) ⟨.tup ?_ (.cons ((i1.nol (H := H1) hb).mono g1) (.cons (p1.mono g0) .nil)), fun a ha => ?_⟩
    · obtain ⟨vs, e⟩ := p2 a ha
      exact .of ((upd_ne (nt a ha)).trans e)
    · unfold jn
      rw [if_neg fun m => nt t m rfl, upd_same]; rfl
    · obtain ⟨vs, e⟩ := p2 a ha
      exact ⟨vs, (upd_ne (nt a ha)).trans e⟩)
/-- a, b = e: a text, a thing of one's own -/
theorem sd_asgN {kk : Nat} {z : Str} (hc : X.calm = true) (nd : X.N.Nodup) (hN : X.N[i]? = some n) (hl : Loc X.env.scope n) (hfn : X.fn n = true ∨ X.env.scope.names.lookup n = some .local) (hN2 : X.N[j]? = some m) (hl2 : Loc X.env.scope m) (hfn2 : X.fn m = true ∨ X.env.scope.names.lookup m = some .local)
    (h : EOw X W (fun C => T.ex C ρ) e ρ (nP X.K (.tuple [.str z, d]))) (q : ∀ fp, T.nx ((ρ.set i (.sh (.str z))).set j (og fp (nP X.K d))))
    (g1 : (assignEach [.Name n p1, .Name m p2] X.env).map (·.2) = assign (.Name n p1) X.env :: (assignEach [.Name m p2] X.env).map (·.2) := by rfl) (g2 : (assignEach [.Name m p2] X.env).map (·.2) = assign (.Name m p2) X.env :: (assignEach [] X.env).map (·.2) := by rfl)
    (g3 : (assignEach [.Name n p1, .Name m p2] X.env).length = 2 := by rfl) (g4 : (assignEach [.Name n p1, .Name m p2] X.env).findIdx? (·.1) = none := by rfl)
    (h1 : swapsWithSole [.Tuple [.Name n p1, .Name m p2] kk tpos] e pos.line X.env = pure false := by rfl) (h2 : swappedStores [.Tuple [.Name n p1, .Name m p2] kk tpos] e X.env = pure none := by rfl) (h3 : (assignEach [.Tuple [.Name n p1, .Name m p2] kk tpos] X.env).map (·.2) = [assign (.Tuple [.Name n p1, .Name m p2] kk tpos) X.env] := by rfl) :
    SD X W (.Assign [.Tuple [.Name n p1, .Name m p2] kk tpos] e pos) ρ T := fun F0 H0 F H σ D s l =>
  w_s (ps_asg pe_w (pg_tup hc (pgs_cons (pg_name nd hN hl hfn) (pgs_cons (pg_name nd hN2 hl2 hfn2) pgs_nil g2) g1) g3 g4) h1 h2 h3) (h H0 F H σ _ s.e (l.xc s) fun v fp F1 H1 x1 n1 ⟨pi, pl⟩ => by
    have s1 := s.go x1
    cases pi with
    | tup ht ia =>
    cases ia with
    | cons i1 ia =>
    cases ia with
    | cons i2 ia =>
    cases ia
    rename_i a0 v1 v2
    have ev := i1.str_eq
    subst ev
    refine ⟨_, _, rfl, SqT.of ((jn_H x1.i).g ht), rfl, .str z, _, rfl, _, _, rfl, rfl, ?_⟩
    have E1 := s1.e.set (i := i) (v := .str z) (s := .sh (.str z)) (.str z) rfl
    refine l.nx _ _ F1 H1 (q fp) ⟨s1.x, E1.set_ (o := some _) (og_ok nP_st ⟨i2, pl⟩ fun a ha => ⟨(n1 a ha).2.1, s.e.b.back (n1 a ha).1, (n1 a ha).2.2⟩) fun k t b ek hb htt => ?_⟩
    rcases set_at ek with ⟨_, _, rfl⟩ | ⟨_, ek⟩
    · exact nomatch htt
    · obtain ⟨o, _, h2⟩ := s.e.s k t ek
      exact absurd (n1 b hb).1 (h2.held htt).2.2.ne)
end
end PD

set_option maxHeartbeats 4000000
/-! New lists of things of one's own; things handed over for good. -/
namespace PD
open PySem PySem.Spec PyProof.Rows L2
variable [PD.TabC]
section
variable {K : PySem.W.Frag} {B F F' H H' F1 H1 : Hp} {fp fq : List Addr}
theorem jn_sub (xf : Ex F F') (xh : ∀ a ∈ fp, H' a = H a) (sub : ∀ a ∈ fp, a ∈ fq) (nf : ∀ a ∈ fq, F' a = none) : Ex (jn F H fp) (jn F' H' fq) := .of fun a o e => by
  unfold jn at e ⊢
  by_cases m : a ∈ fp
  · rw [if_pos m] at e
    rw [if_pos (sub a m), xh a m]
    exact e
  · rw [if_neg m] at e
    obtain ⟨e1, n1, _⟩ := tp_some e
    have e2 := xf.k a o e1 n1
    rw [if_neg fun q => by rw [nf a q] at e2; cases e2]
    exact tp_of e e2
/-- what is made so far: at D; its items' places -/
def CmO (K : PySem.W.Frag) (F1 H1 : Hp) (D : Addr) (out : List PyData) (H : Hp) : Prop := ∃ F acc fps, Ext F1 H1 F H ∧ F D = none ∧ H D = some (.lst acc) ∧ IsAll K (jn F H fps) acc out ∧ New H1 F H fps ∧ Lsts H fps ∧ D ∉ fps
theorem cmo_turn {te : TE} {B F1 H1 H' : Hp} {D : Addr} {σ2 : L2.St} {ρ2 : List Sl} {out : List PyData} {r : PyData}
    (he : ∀ F H (Q : VK), En K B F H σ2 ρ2 → (∀ v fp F' H', Ext F H F' H' → New H F' H' fp → nP K r v fp F' H' → Q v H') → te σ2 H Q)
    (hE : ∀ F H, Ext F1 H1 F H → En K B F H σ2 ρ2) (hD : H1 D = none) (hz : out.length < 100000) (c : CmO K F1 H1 D out H') :
    te σ2 H' fun y H4 => ∃ acc, H4 D = some (.lst acc) ∧ acc.length < sizeLine ∧ CmO K F1 H1 D (out ++ [r]) (upd H4 D (.lst (acc ++ [y]))) := by
  obtain ⟨F, acc, fps, x, hf, hh, ia, nw, ls, nD⟩ := c
  refine he F H' _ (hE F H' x) fun v fp F3 H3 x3 n3 ⟨p3, l3⟩ => ?_
  have nd0 : H' D ≠ none := by rw [hh]; exact fun q => nomatch q
  have hf3 : F3 D = none := (x3.n D nd0).trans hf
  have x13 := x.trans x3
  have up : ∀ a ∈ fps, a ≠ D ∧ H3 a = H' a := fun a ha => ⟨fun z => nD (z ▸ ha), by
    obtain ⟨vs, e⟩ := ls a ha
    rw [e]; exact x3.h.g e⟩
  have dn : ∀ a ∈ fp, a ≠ D := fun a ha z => nd0 (z ▸ (n3 a ha).1)
  have fz : ∀ a ∈ fps, F3 a = none := fun a ha => by
    obtain ⟨vs, e⟩ := ls a ha
    exact (x3.n a (by rw [e]; exact fun q => nomatch q)).trans (nw a ha).2.1
  have nfa : ∀ a ∈ fps ++ fp, F3 a = none := fun a ha => by
    rcases List.mem_append.mp ha with ha | ha
    · exact fz a ha
    · exact (n3 a ha).2.1
  refine ⟨acc, x3.h.g hh, Nat.lt_of_lt_of_le (by rw [ia.len]; exact hz) (by decide), F3, acc ++ [v], fps ++ fp, ⟨x13.f, x13.h.mut hD, x13.i.mut hf3, x13.n, x13.t.mut (x3.h.g hh)⟩, hf3, upd_same, ?_, fun a ha => ?_, fun a ha => ?_, fun m => ?_⟩
  · refine (ia.mono (jn_sub x3.f (fun a ha => ?_) (fun a ha => List.mem_append_left _ ha) nfa)).append (.cons (p3.mono (jn_sub (Ex.refl F3) (fun a ha => upd_ne (dn a ha)) (fun a ha => List.mem_append_right _ ha) nfa)) .nil)
    rw [upd_ne (up a ha).1]; exact (up a ha).2
  · rcases List.mem_append.mp ha with ha | ha
    · obtain ⟨vs, e⟩ := ls a ha
      exact ⟨(nw a ha).1, fz a ha, .of ((upd_ne (up a ha).1).trans ((up a ha).2.trans e))⟩
    · obtain ⟨vs, e⟩ := l3 a ha
      exact ⟨x.h.back (n3 a ha).1, (n3 a ha).2.1, .of ((upd_ne (dn a ha)).trans e)⟩
  · rcases List.mem_append.mp ha with ha | ha
    · obtain ⟨vs, e⟩ := ls a ha
      exact ⟨vs, (upd_ne (up a ha).1).trans ((up a ha).2.trans e)⟩
    · obtain ⟨vs, e⟩ := l3 a ha
      exact ⟨vs, (upd_ne (dn a ha)).trans e⟩
  · rcases List.mem_append.mp m with m | m
    · exact nD m
    · exact dn D m rfl
end
section
variable {X : Cx} {W : WX} {ex : Addr → Prop} {e e1 e2 e3 a b o elt iter : Expr} {es : List Expr} {st : Stmt} {sts : List Stmt} {ρ as : List Sl} {d d' x y : PyData} {ds xs ys : List PyData} {pos p p0 p1 p2 p3 p4 apos spos tpos : Pos} {T : De} {P : OP} {n m : Str} {i j : Nat} {fp : List Addr} {scope : Scope}
/-- [elt for n in xs], each item of one's own -/
theorem lcO_over {α : Type} (L : LcOk X scope [] n j iter) (xs : List α) (q : α → PyData) (g : α → PyData) (h : EP' X W ex iter ρ (xs.map q)) (hz : xs.length ≤ 50000)
    (hG : ∀ x ∈ xs, Blk X scope fun Y => EOw Y noW noX elt ((ρ.set j .un).set j (.sh (q x))) (nP X.K (g x)))
    {B F H : Hp} {σ : L2.St} (E : En X.K B F H σ ρ) (c : Xc W ex F H σ) {Q : VK} (k : ∀ v fp F' H', Ext F H F' H' → New H F' H' fp → nP X.K (.list (xs.map g)) v fp F' H' → Q v H') :
    tLc (iList X.K (WE X iter)) (gName j) (WTB X scope []) (WEB X scope elt) [j] σ H Q := by
  refine h B F H σ _ E c fun r vs F1 H1 x1 hr i1 => ?_
  have E1 := E.ext x1
  have hsq : ∀ H', Ex H1 H' → SqL X.K H' r vs := fun H' y => by
    rcases hr with hr | hr
    · exact (E1.b.trans y).sql hr
    · exact (x1.i.trans y).sql hr
  refine ⟨r, rfl, ⟨vs, hsq H1 (Ex.refl H1)⟩, fun D hD => lc_list (xs := vs) (fun i H' => CmO X.K F1 H1 D ((xs.take i).map g) H') ⟨F1, [], [], Ext.kept x1.i hD, x1.i.back hD, upd_same, .nil, fun a ha => (nomatch ha), fun a ha => (nomatch ha), fun z => nomatch z⟩ (fun i H' _ ⟨F', acc, fps, y, _⟩ => hsq H' y.h) ?_ ?_⟩
  · intro i v H' hi hc
    obtain ⟨d', hd, id'⟩ := i1.get' hi
    rw [List.getElem?_map] at hd
    cases hx : xs[i]? with
    | none => rw [hx] at hd; cases hd
    | some x =>
      rw [hx] at hd
      cases hd
      have hm : x ∈ xs := List.mem_of_getElem? hx
      refine ⟨wipe1, fun s0 H00 C0 cl0 fp0 => ?_⟩
      refine iteT (B := CmO X.K F1 H1 D ((xs.take (i + 1)).map g) H') ?_
      have e9 : (xs.take (i + 1)).map g = (xs.take i).map g ++ [g x] := by rw [List.take_add_one, hx, List.map_append]; rfl
      rw [e9]
      refine cmo_turn (K := X.K) (te := WEB X scope elt) (B := B) (ρ2 := (ρ.set j .un).set j (.sh (q x))) (fun F H Q E2 k2 s H0 C cl fp => hG x hm s H0 C cl fp B F H _ Q E2 xcN k2) (fun F H x3 => ((E1.ext x3).wipe j).set (s := .sh (q x)) (id'.mono x3.f) rfl) hD ?_ hc
      rw [List.length_map, List.length_take]
      omega
  · rintro H' ⟨F', acc, fps, y, f0, h0, ia, nw, ls, nD⟩
    rw [i1.len, List.length_map, List.take_length] at ia
    have nfa : ∀ a ∈ D :: fps, F' a = none := fun a ha => by
      rcases List.mem_cons.mp ha with rfl | ha
      · exact f0
      · exact (nw a ha).2.1
    refine k (.ref D) (D :: fps) F' H' (x1.trans y) (fun a ha => ?_) ⟨.lst (by unfold jn; rw [if_pos List.mem_cons_self]; exact h0) (ia.mono (jn_sub (Ex.refl F') (fun _ _ => rfl) (fun a ha => List.mem_cons_of_mem _ ha) nfa)), fun a ha => ?_⟩
    · rcases List.mem_cons.mp ha with rfl | ha
      · exact ⟨x1.h.back hD, f0, .of h0⟩
      · exact ⟨x1.h.back (nw a ha).1, (nw a ha).2⟩
    · rcases List.mem_cons.mp ha with rfl | ha
      · exact ⟨acc, h0⟩
      · exact ls a ha
theorem eo_lc {α : Type} (L : LcOk X scope [] n j iter) (xs : List α) (q : α → PyData) (g : α → PyData) (h : EP' X W ex iter ρ (xs.map q)) (hz : xs.length ≤ 50000)
    (hG : ∀ x ∈ xs, Blk X scope fun Y => EOw Y noW noX elt ((ρ.set j .un).set j (.sh (q x))) (nP X.K (g x))) :
    EOw X W ex (.ListComp elt [⟨.Name n tpos, iter, [], 0⟩] scope pos) ρ (nP X.K (.list (xs.map g))) := fun B F H σ Q E c k =>
  w_e (pe_lc (own := [(n, j)]) L.calm L.nd (pi_list pe_w) L.blk (lc_tgt L) (fun _ _ _ _ _ => pts_wb L.one) (fun _ _ _ _ _ => pe_wb) L.fset) (lcO_over L xs q g h hz hG E c k)
/-- y = [..], each item of one's own -/
theorem sd_lcO {α : Type} {i : Nat} {y : Str} (L : LcOk X scope [] n j iter) (hy : X.N[i]? = some y) (hyl : X.env.scope.names.lookup y = some .local) (xs : List α) (q : α → PyData) (g : α → PyData) (h : EP' X W (fun C => T.ex C ρ) iter ρ (xs.map q)) (hz : xs.length ≤ 50000)
    (hG : ∀ x ∈ xs, Blk X scope fun Y => EOw Y noW noX elt ((ρ.set j .un).set j (.sh (q x))) (nP X.K (g x)))
    (hsw : swapsWith (.ListComp elt [⟨.Name n tpos, iter, [], 0⟩] scope pos) (some (.Name y p)) spos.line X.env = pure true) (k : ∀ fp, T.nx (ρ.set i (og fp (nP X.K (.list (xs.map g)))))) :
    SD X W (.Assign [.Name y p] (.ListComp elt [⟨.Name n tpos, iter, [], 0⟩] scope pos) spos) ρ T := fun F0 H0 F H σ D s l =>
  w_s (ps_setLc (own := [(n, j)]) L.calm L.nd hy hyl hsw (pi_list pe_w) L.blk (lc_tgt L) (fun _ _ _ _ _ => pts_wb L.one) (fun _ _ _ _ _ => pe_wb) L.fset)
    (lcO_over (Q := fun v H' => D.nx (σ.set i (some v)) H') L xs q g h hz hG s.e (l.xc s) fun v fp F1 H1 x1 n1 p1 => l.nx _ _ F1 H1 (k fp) ⟨s.x.trans x1, s.e.newOg x1 nP_st p1 n1⟩)
/-! a list of one's own, of things of one's own -/
def nL (K : PySem.W.Frag) (ds : List PyData) : OP := fun v fp F H => ∃ l rest vs, v = .ref l ∧ fp = l :: rest ∧ l ∉ rest ∧ H l = some (.lst vs) ∧ IsAll K (jn F H rest) vs ds ∧ Lsts H rest
theorem nL_st {K : PySem.W.Frag} : Stab (nL K ds) := fun v fp F H F' H' ⟨l, rest, vs, e, ef, nr, hh, ia, ls⟩ x y => by
  subst ef
  exact ⟨l, rest, vs, e, rfl, nr, (y l List.mem_cons_self).trans hh, ia.mono (jn_stay x fun a ha => y a (List.mem_cons_of_mem _ ha)), fun a ha => by rw [y a (List.mem_cons_of_mem _ ha)]; exact ls a ha⟩
theorem nL_nP {K : PySem.W.Frag} {v : V} {F H : Hp} (nf : ∀ a ∈ fp, F a = none) (h : nL K ds v fp F H) : nP K (.list ds) v fp F H := by
  obtain ⟨l, rest, vs, rfl, rfl, nr, hh, ia, ls⟩ := h
  refine ⟨.lst (by unfold jn; rw [if_pos List.mem_cons_self]; exact hh) (ia.mono (jn_sub (Ex.refl F) (fun _ _ => rfl) (fun a ha => List.mem_cons_of_mem _ ha) nf)), fun a ha => ?_⟩
  rcases List.mem_cons.mp ha with rfl | ha
  · exact ⟨_, hh⟩
  · exact ls a ha
theorem EL.nl (h : EL X W ex e ρ []) : EOw X W ex e ρ (nL X.K []) := fun B F H σ Q E c q => h B F H σ _ E c fun r vs F1 H1 x1 h0 f0 h1 i1 => q (.ref r) [r] F1 H1 x1 (fun a ha => by
    rw [List.mem_singleton.mp ha]; exact ⟨h0, f0, .of h1⟩) ⟨r, [], vs, rfl, rfl, by simp, h1, by cases i1; exact .nil, fun a ha => nomatch ha⟩
/-- x.append(e), e of one's own -/
theorem sd_appW (hN : X.N[i]? = some n) (hv : Vis X.env.scope n) (hi : ρ[i]? = some (og fp (nL X.K ds))) (h : EOw X W (fun C => T.ex C ρ) e ρ (nP X.K d)) (hz : ds.length < 100000) (q : ∀ fq, T.nx (ρ.set i (og fq (nL X.K (ds ++ [d])))))
    (hd : (n == ("__debug__" : Str)) = false := by decide) (hcd : (n == ("__classdict__" : Str)) = false := by decide) (hs : starEach [e] X.env = [(false, eval e X.env)] := by rfl) (hb : attributeBase (.Name n p2) "append" X.env (eval (.Name n p2) X.env) = eval (.Name n p2) X.env := by rfl)
    (ha : (((backTo p (starEach [e] X.env)).all (fun x => !x.1) && (backToKw p (keywordEach [] X.env)).all (fun x => x.1.isSome)) && decide (([e].length + ([] : List Keyword).length + if ([] : List Keyword).isEmpty = true then 0 else 1) < 30)) = true := by rfl)
    (hl : (apos.endLine == p.line) = true := by rfl) (hz2 : (backTo p (starEach [] X.env)).any (·.1) = false := by rfl)
    (hw : swapsWith (.Call (.Attribute (.Name n p2) "append" apos) [e] [] p) none pos.line X.env = pure false := by rfl) : SD X W (.Expr (.Call (.Attribute (.Name n p2) "append" apos) [e] [] p) pos) ρ T := fun F0 H0 F H σ D s l => by
  obtain ⟨v, e1, ⟨l0, rest, vs, rfl, ef, nr, hh, ia, ls⟩, hq⟩ := s.e.og hi
  subst ef
  refine w_s (ps_expr (pe_bm PySem.F.plainAttrs_list PySem.F.slot_list_append PySem.F.type_list_append mt_append (pe_var hN hv hd hcd) (pa_cons pe_w pa_nil hs) hb ha hl hs hz2) hw) ⟨_, e1, .inl ⟨rfl, vs, SqL.of hh⟩, ?_⟩
  refine h H0 F H σ _ s.e (l.xc s) fun u fq F1 H1 x1 n1 ⟨p1, l1⟩ => ?_
  have hh1 := x1.h.g hh
  have s1 := s.go x1
  have m0 : l0 ∈ l0 :: rest := List.mem_cons_self
  have q0 := hq l0 m0
  refine ⟨l0, vs, u, rfl, rfl, hh1, Nat.lt_of_lt_of_le (by rw [ia.len]; exact hz) (by decide), ?_⟩
  have nw : ∀ a ∈ fq, a ≠ l0 := fun a ha z => by
    have := (n1 a ha).1
    rw [z, hh] at this; cases this
  have up : ∀ a ∈ rest, a ≠ l0 ∧ H1 a = H a := fun a ha => ⟨fun z => nr (z ▸ ha), by
    obtain ⟨ws, e⟩ := ls a ha
    rw [e]; exact x1.h.g e⟩
  have fz : ∀ a ∈ l0 :: rest, F1 a = none := fun a ha => (x1.n a (hq a ha).2.2.ne).trans (hq a ha).1
  have nfa : ∀ a ∈ rest ++ fq, F1 a = none := fun a ha => by
    rcases List.mem_append.mp ha with ha | ha
    · exact fz a (List.mem_cons_of_mem _ ha)
    · exact (n1 a ha).2.1
  have hu : ∀ a ∈ l0 :: (rest ++ fq), F1 a = none ∧ H0 a = none ∧ Std (upd H1 l0 (.lst (vs ++ [u]))) a := fun a ha => by
    rcases List.mem_cons.mp ha with rfl | ha
    · exact ⟨fz _ m0, q0.2.1, .of upd_same⟩
    · rcases List.mem_append.mp ha with ha | ha
      · obtain ⟨ws, e⟩ := ls a ha
        exact ⟨fz a (List.mem_cons_of_mem _ ha), (hq a (List.mem_cons_of_mem _ ha)).2.1, .of ((upd_ne (up a ha).1).trans ((up a ha).2.trans e))⟩
      · obtain ⟨ws, e⟩ := l1 a ha
        exact ⟨(n1 a ha).2.1, s.e.b.back (n1 a ha).1, .of ((upd_ne (nw a ha)).trans e)⟩
  have pn : nL X.K (ds ++ [d]) (.ref l0) (l0 :: (rest ++ fq)) F1 (upd H1 l0 (.lst (vs ++ [u]))) := by
    refine ⟨l0, rest ++ fq, vs ++ [u], rfl, rfl, fun m => ?_, upd_same, (ia.mono (jn_sub x1.f (fun a ha => ?_) (fun a ha => List.mem_append_left _ ha) nfa)).append (.cons (p1.mono (jn_sub (Ex.refl F1) (fun a ha => upd_ne (nw a ha)) (fun a ha => List.mem_append_right _ ha) nfa)) .nil), fun a ha => ?_⟩
    · rcases List.mem_append.mp m with m | m
      · exact nr m
      · exact nw l0 m rfl
    · rw [upd_ne (up a ha).1]; exact (up a ha).2
    · rcases List.mem_append.mp ha with ha | ha
      · obtain ⟨ws, e⟩ := ls a ha
        exact ⟨ws, (upd_ne (up a ha).1).trans ((up a ha).2.trans e)⟩
      · obtain ⟨ws, e⟩ := l1 a ha
        exact ⟨ws, (upd_ne (nw a ha)).trans e⟩
  -- the others stand as they stood
  have E2 : En X.K H0 F1 (upd H1 l0 (.lst (vs ++ [u]))) σ (ρ.set i (og (l0 :: (rest ++ fq)) (nL X.K (ds ++ [d])))) := by
    refine ⟨s1.e.i.mut (fz _ m0), s1.e.b.mut q0.2.1, fun k t ek => ?_, fun a1 a2 t1 t2 b ea eb hb1 hb2 => ?_, s1.e.t.ups (Tb.poke (.of hh1))⟩
    · rcases set_at ek with ⟨rfl, _, rfl⟩ | ⟨z, ek⟩
      · exact ⟨_, e1, og_ok nL_st pn hu⟩
      · obtain ⟨o2, e2, h2⟩ := s1.e.s k t ek
        refine ⟨o2, e2, h2.mut fun b hb => upd_ne fun w => ?_⟩
        rw [w] at hb
        exact z (s.e.d i k _ t l0 hi ek m0 hb)
    · have other : ∀ (k : Nat) (t : Sl), i ≠ k → ρ[k]? = some t → b ∈ t.fp → b ∈ l0 :: (rest ++ fq) → False := fun k t z ek hb hm => by
        have hb' : b ∉ l0 :: rest := fun w => z (s.e.d i k _ t b hi ek w hb)
        rcases List.mem_cons.mp hm with rfl | hm
        · exact hb' m0
        · rcases List.mem_append.mp hm with hm | hm
          · exact hb' (List.mem_cons_of_mem _ hm)
          · obtain ⟨o, _, h2⟩ := s.e.s k t ek
            exact absurd (n1 b hm).1 (h2.held hb).2.2.ne
      rcases set_at ea with ⟨rfl, _, rfl⟩ | ⟨z1, ea⟩
      · rcases set_at eb with ⟨rfl, _, _⟩ | ⟨z2, eb⟩
        · rfl
        · exact (other a2 t2 z2 eb hb2 hb1).elim
      · rcases set_at eb with ⟨rfl, _, rfl⟩ | ⟨z2, eb⟩
        · exact (other a1 t1 z1 ea hb1 hb2).elim
        · exact s.e.d a1 a2 t1 t2 b ea eb hb1 hb2
  exact l.nx _ σ F1 _ (q _) ⟨⟨s1.x.f, s1.x.h.mut q0.2.1, E2.i, s1.x.n, s1.x.t.trans (Tb.poke (.of hh1))⟩, E2⟩
/-- return x, a list of one's own of things of one's own -/
theorem sd_retN (hN : X.N[i]? = some n) (hv : Vis X.env.scope n) (hi : ρ[i]? = some (og fp (nL X.K ds))) (q : ∀ v fp F H, nP X.K (.list ds) v fp F H → T.ro v fp F H) (hd : (n == ("__debug__" : Str)) = false := by decide) (hcd : (n == ("__classdict__" : Str)) = false := by decide) :
    SD X W (.Return (some (.Name n p)) pos) ρ T := fun F0 H0 F H σ D s l => by
  obtain ⟨v, e1, p1, h1⟩ := s.e.og hi
  exact w_s (ps_ret (pe_var hN hv hd hcd)) ⟨_, e1, l.ro v fp F H (q _ _ _ _ (nL_nP (fun a ha => (h1 a ha).1) p1)) s.x fun a ha => ⟨(h1 a ha).2.1, (h1 a ha).1, (h1 a ha).2.2⟩⟩
end
end PD

set_option maxHeartbeats 4000000
/-! Things handed over for good; what is one's own is changed. -/
namespace PD
open PySem PySem.Spec PyProof.Rows L2
variable [PD.TabC]
section
variable {K : PySem.W.Frag} {B F F' H H' F1 H1 : Hp} {fp fq fp1 fp2 : List Addr} {σ : L2.St} {ρ : List Sl} {i1 i2 j : Nat}
theorem jn_lst {l : Addr} {xs : List V} (h : jn F H fp l = some (.lst xs)) : l ∈ fp ∧ H l = some (.lst xs) := by
  unfold jn at h
  by_cases m : l ∈ fp
  · rw [if_pos m] at h; exact ⟨m, h⟩
  · rw [if_neg m] at h
    exact absurd rfl ((tp_some h).2.2 xs)
theorem jn_tup {a : Addr} {xs : List V} (ls : Lsts H fp) (h : jn F H fp a = some (.tup xs)) : F a = some (.tup xs) := by
  have nm : ∀ {u : HO}, (∀ vs, u ≠ .lst vs) → jn F H fp a = some u → F a = some u := fun {u} nu e => by
    unfold jn at e
    by_cases m : a ∈ fp
    · rw [if_pos m] at e
      obtain ⟨vs, e2⟩ := ls a m
      rw [e2] at e
      exact absurd (Option.some.inj e).symm (nu vs)
    · rw [if_neg m] at e; exact (tp_some e).1
  exact nm (fun _ z => nomatch z) h
/-- lists of one's own, by their lengths alone -/
def mP (S : Addr → Prop) (n : Nat) : OP := fun v fp F H => (∃ l, v = .ref l ∧ l ∈ fp) ∧ ∀ a ∈ fp, ∃ vs, H a = some (.lst vs) ∧ (S a → vs.length ≤ n)
theorem mP_st {S : Addr → Prop} {n : Nat} : Stab (mP S n) := fun v fp F H F' H' ⟨a, b⟩ x y => ⟨a, fun c hc => by rw [y c hc]; exact b c hc⟩
theorem mP_less {S : Addr → Prop} {n : Nat} {v : V} (h : mP S n v fp F H) : mP S (n + 1) v fp F H := ⟨h.1, fun a ha => let ⟨vs, e, q⟩ := h.2 a ha; ⟨vs, e, fun s => Nat.le_succ_of_le (q s)⟩⟩
def rm (ρ : List Sl) (i1 i2 j : Nat) (fp1 fp2 : List Addr) (S : Addr → Prop) (n : Nat) : List Sl := ((ρ.set i1 (og fp1 (mP S n))).set i2 (og fp2 (mP S n))).set j .un
theorem rm_1 {S : Addr → Prop} {n : Nat} (h1 : i1 < ρ.length) (h12 : i1 ≠ i2) (h1j : i1 ≠ j) : (rm ρ i1 i2 j fp1 fp2 S n)[i1]? = some (og fp1 (mP S n)) := by
  unfold rm
  rw [List.getElem?_set_ne (Ne.symm h1j), List.getElem?_set_ne (Ne.symm h12), List.getElem?_set_self h1]
theorem rm_2 {S : Addr → Prop} {n : Nat} (h2 : i2 < ρ.length) (h2j : i2 ≠ j) : (rm ρ i1 i2 j fp1 fp2 S n)[i2]? = some (og fp2 (mP S n)) := by
  unfold rm
  rw [List.getElem?_set_ne (Ne.symm h2j), List.getElem?_set_self (by rw [List.length_set]; exact h2)]
theorem rm_up {S : Addr → Prop} {n m : Nat} (h12 : i1 ≠ i2) (h1j : i1 ≠ j) (h2j : i2 ≠ j) : ((rm ρ i1 i2 j fp1 fp2 S n).set i1 (og fp1 (mP S m))).set i2 (og fp2 (mP S m)) = rm ρ i1 i2 j fp1 fp2 S m := by
  unfold rm
  rw [List.set_comm _ _ (Ne.symm h1j), List.set_comm _ _ (Ne.symm h12), List.set_set, List.set_comm _ _ (Ne.symm h2j), List.set_set]
theorem rm_up2 {S : Addr → Prop} {n m : Nat} (h12 : i1 ≠ i2) (h1j : i1 ≠ j) (h2j : i2 ≠ j) : ((rm ρ i1 i2 j fp1 fp2 S n).set i2 (og fp2 (mP S m))).set i1 (og fp1 (mP S m)) = rm ρ i1 i2 j fp1 fp2 S m := by
  rw [List.set_comm _ _ (Ne.symm h12), rm_up h12 h1j h2j]
theorem og_less {P P' : OP} (h : ∀ v F' H', P v fp F' H' → P' v fp F' H') (o : Option V) (k : SlOk K B F H o (og fp P)) : SlOk K B F H o (og fp P') := by
  cases o with
  | none => exact k.elim
  | some v => exact ⟨fun F' H' x y => h v F' H' (k.1 F' H' x y), k.2⟩
theorem rm_poke {S : Addr → Prop} {n : Nat} (E : En K B F H σ (rm ρ i1 i2 j fp1 fp2 S n)) (h1 : i1 < ρ.length) (h2 : i2 < ρ.length) (h12 : i1 ≠ i2) (h1j : i1 ≠ j) (h2j : i2 ≠ j) {l : Addr} (hl : l ∈ fp1 ∨ l ∈ fp2) (sl : S l) :
    (∃ vs, H l = some (.lst vs) ∧ vs.length ≤ n) ∧ B l = none ∧ F l = none ∧ ∀ ws : List V, ws.length ≤ n + 1 → En K B F (upd H l (.lst ws)) σ (rm ρ i1 i2 j fp1 fp2 S (n + 1)) := by
  have one : ∀ (i : Nat) (fp : List Addr), (rm ρ i1 i2 j fp1 fp2 S n)[i]? = some (og fp (mP S n)) → l ∈ fp → (∃ vs, H l = some (.lst vs) ∧ vs.length ≤ n) ∧ B l = none ∧ F l = none ∧ ∀ ws : List V, ws.length ≤ n + 1 → En K B F (upd H l (.lst ws)) σ ((rm ρ i1 i2 j fp1 fp2 S n).set i (og fp (mP S (n + 1)))) := by
    intro i fp hi hm
    obtain ⟨v, e1, ⟨p1, p2⟩, q⟩ := E.og hi
    obtain ⟨vs, e2, e3⟩ := p2 l hm
    refine ⟨⟨vs, e2, e3 sl⟩, (q l hm).2.1, (q l hm).1, fun ws hw => E.poke hi hm (.lst ws) (fun v' ev => ?_) fun a ha => ha⟩
    rw [e1] at ev
    cases ev
    refine og_ok mP_st ⟨p1, fun a ha => ?_⟩ fun a ha => ⟨(q a ha).1, (q a ha).2.1, ?_⟩
    · by_cases z : a = l
      · subst z; exact ⟨ws, upd_same, fun _ => hw⟩
      · obtain ⟨us, a1, a2⟩ := p2 a ha
        exact ⟨us, (upd_ne z).trans a1, fun s => Nat.le_succ_of_le (a2 s)⟩
    · by_cases z : a = l
      · subst z; exact .of upd_same
      · obtain ⟨us, a1, a2⟩ := p2 a ha
        exact .of ((upd_ne z).trans a1)
  rcases hl with hl | hl
  · obtain ⟨a, b, c, k⟩ := one i1 fp1 (rm_1 h1 h12 h1j) hl
    refine ⟨a, b, c, fun ws hw => ?_⟩
    have q := (k ws hw).less (i := i2) (s0 := og fp2 (mP S n)) (s := og fp2 (mP S (n + 1))) (by rw [List.getElem?_set_ne h12]; exact rm_2 h2 h2j) (og_less fun v F' H' => mP_less) (fun a h => h)
    rw [rm_up h12 h1j h2j] at q
    exact q
  · obtain ⟨a, b, c, k⟩ := one i2 fp2 (rm_2 h2 h2j) hl
    refine ⟨a, b, c, fun ws hw => ?_⟩
    have q := (k ws hw).less (i := i1) (s0 := og fp1 (mP S n)) (s := og fp1 (mP S (n + 1))) (by rw [List.getElem?_set_ne (Ne.symm h12)]; exact rm_1 h1 h12 h1j) (og_less fun v F' H' => mP_less) (fun a h => h)
    rw [rm_up2 h12 h1j h2j] at q
    exact q
/-- a change in one's own data: its lists are one's own -/
def ElC (K : PySem.W.Frag) (F : Hp) (S M : Addr → Prop) (u : V) : Prop := ∃ a z l1 l2, u = .ref a ∧ SqT K F a [.str z, .ref l1, .ref l2] ∧ S l1 ∧ M l1 ∧ S l2 ∧ M l2
theorem elc_of {d : PyData} {u : V} {xs ys : List PyData} {z : Str} {S : Addr → Prop} (ls : Lsts H fp) (i : Is K (jn F H fp) u d) (e : d = .tuple [.str z, .list xs, .list ys]) (hS : ∀ a, a ∈ fp → (∃ vs, H a = some (.lst vs) ∧ vs.length ≤ 1000) → S a) (hx : xs.length ≤ 1000) (hy : ys.length ≤ 1000) : ElC K F S (· ∈ fp) u := by
  subst e
  cases i with
  | tup ht ia =>
  cases ia with
  | cons j1 ia =>
  cases ia with
  | cons j2 ia =>
  cases ia with
  | cons j3 ia =>
  cases ia
  have := j1.str_eq
  subst this
  cases j2 with
  | lst h2 a2 =>
  cases j3 with
  | lst h3 a3 =>
  obtain ⟨m2, e2⟩ := jn_lst h2
  obtain ⟨m3, e3⟩ := jn_lst h3
  exact ⟨_, z, _, _, rfl, SqT.of (jn_tup ls ht), hS _ m2 ⟨_, e2, by rw [a2.len]; exact hx⟩, m2, hS _ m3 ⟨_, e3, by rw [a3.len]; exact hy⟩, m3⟩
end
end PD

set_option maxHeartbeats 4000000
namespace PD
open PySem PySem.Spec PyProof.Rows L2
variable [PD.TabC]
section
variable {X : Cx} {W : WX} {ex : Addr → Prop} {e e1 e2 e3 a b o elt iter : Expr} {es : List Expr} {st : Stmt} {sts : List Stmt} {ρ as : List Sl} {d d' x y : PyData} {ds xs ys : List PyData} {pos p p0 p1 p2 p3 p4 p5 p6 p7 apos spos tpos apos2 : Pos} {T : De} {P : OP} {n m c n1 n2 : Str} {i j i1 i2 : Nat} {fp fp1 fp2 : List Addr}
/-- for c in x + y: c[1].clear(); c[2].append(e) -/
theorem sd_forMut {ds1 ds2 : List PyData} {c1 c2 : Nat} {q0 q2 q3 q4 q5 q6 q7 q8 : Pos} (hp : PassesOwn (model X.prog X.w) X.A X.env X.xe) (hc : X.calm = true) (nd : X.N.Nodup) (hN : X.N[j]? = some c) (hlc : Loc X.env.scope c) (hfn : X.fn c = true ∨ X.env.scope.names.lookup c = some .local)
    (hN1 : X.N[i1]? = some n1) (hv1 : Vis X.env.scope n1) (hi1 : ρ[i1]? = some (og fp1 (nP X.K (.list ds1)))) (hN2 : X.N[i2]? = some n2) (hv2 : Vis X.env.scope n2) (hi2 : ρ[i2]? = some (og fp2 (nP X.K (.list ds2)))) (hj : j < ρ.length) (h12 : i1 ≠ i2) (h1j : i1 ≠ j) (h2j : i2 ≠ j)
    (hC : ∀ d ∈ ds1 ++ ds2, ∃ z xs ys, d = .tuple [.str z, .list xs, .list ys] ∧ xs.length ≤ 1000 ∧ ys.length ≤ 1000) (hz : ds1.length + ds2.length ≤ 50000) (he : ∀ ρ', ED X noW noX e ρ' d)
    (q : ∀ S k, T.nx (rm ρ i1 i2 j fp1 fp2 S k))
    (d1 : (n1 == ("__debug__" : Str)) = false := by decide) (d2 : (n1 == ("__classdict__" : Str)) = false := by decide) (d3 : (n2 == ("__debug__" : Str)) = false := by decide) (d4 : (n2 == ("__classdict__" : Str)) = false := by decide) (d5 : (c == ("__debug__" : Str)) = false := by decide) (d6 : (c == ("__classdict__" : Str)) = false := by decide)
    (hs : starEach [e] X.env = [(false, eval e X.env)] := by rfl)
    (hb1 : attributeBase (.Subscript (.Name c p2) (.Constant (.int 1) c1 p3) p4) "clear" X.env (eval (.Subscript (.Name c p2) (.Constant (.int 1) c1 p3) p4) X.env) = eval (.Subscript (.Name c p2) (.Constant (.int 1) c1 p3) p4) X.env := by rfl)
    (hl1 : (apos.endLine == p.line) = true := by rfl) (hw1 : swapsWith (.Call (.Attribute (.Subscript (.Name c p2) (.Constant (.int 1) c1 p3) p4) "clear" apos) [] [] p) none p5.line X.env = pure false := by rfl)
    (hb2 : attributeBase (.Subscript (.Name c q2) (.Constant (.int 2) c2 q3) q4) "append" X.env (eval (.Subscript (.Name c q2) (.Constant (.int 2) c2 q3) q4) X.env) = eval (.Subscript (.Name c q2) (.Constant (.int 2) c2 q3) q4) X.env := by rfl)
    (ha2 : (((backTo q0 (starEach [e] X.env)).all (fun x => !x.1) && (backToKw q0 (keywordEach [] X.env)).all (fun x => x.1.isSome)) && decide (([e].length + ([] : List Keyword).length + if ([] : List Keyword).isEmpty = true then 0 else 1) < 30)) = true := by rfl) (hz2 : (backTo q0 (starEach [] X.env)).any (·.1) = false := by rfl)
    (hl2 : (apos2.endLine == q0.line) = true := by rfl) (hw2 : swapsWith (.Call (.Attribute (.Subscript (.Name c q2) (.Constant (.int 2) c2 q3) q4) "append" apos2) [e] [] q0) none q5.line X.env = pure false := by rfl)
    (hpl1 : PlainIx (.Constant (.int 1) c1 p3) := by exact fun _ _ => rfl) (hpl2 : PlainIx (.Constant (.int 2) c2 q3) := by exact fun _ _ => rfl)
    (hf : ∀ x, foldedSetIterable (.BinOp (.Name n1 q6) .Add (.Name n2 q7) q8) X.env x = pure x := by intro _; rfl) :
    SD X W (.For (.Name c tpos) (.BinOp (.Name n1 q6) .Add (.Name n2 q7) q8) [.Expr (.Call (.Attribute (.Subscript (.Name c p2) (.Constant (.int 1) c1 p3) p4) "clear" apos) [] [] p) p5, .Expr (.Call (.Attribute (.Subscript (.Name c q2) (.Constant (.int 2) c2 q3) q4) "append" apos2) [e] [] q0) q5] [] pos) ρ T := fun F0 H0 F H σ D s l => by
  have L1 := (List.getElem?_eq_some_iff.mp hi1).1
  have L2 := (List.getElem?_eq_some_iff.mp hi2).1
  obtain ⟨u1, e1, ⟨pi1, ls1⟩, k1⟩ := s.e.og hi1
  obtain ⟨u2, e2, ⟨pi2, ls2⟩, k2⟩ := s.e.og hi2
  have g : ∀ {ds : List PyData} {fp : List Addr} {u : V}, Is X.K (jn F H fp) u (.list ds) → Lsts H fp → (∀ d ∈ ds, ∃ z xs ys, d = .tuple [.str z, .list xs, .list ys] ∧ xs.length ≤ 1000 ∧ ys.length ≤ 1000) →
      ∃ l0 vs, u = .ref l0 ∧ l0 ∈ fp ∧ H l0 = some (.lst vs) ∧ vs.length = ds.length ∧ ∀ v ∈ vs, ElC X.K F (fun a => ∃ vs, H a = some (.lst vs) ∧ vs.length ≤ 1000) (· ∈ fp) v := by
    intro ds fp u pi ls hC
    cases pi with
    | lst h ia =>
    obtain ⟨m0, h0⟩ := jn_lst h
    refine ⟨_, _, rfl, m0, h0, ia.len, fun v hv => ?_⟩
    obtain ⟨k, hk⟩ := List.getElem?_of_mem hv
    obtain ⟨d0, hd, id⟩ := ia.get' hk
    obtain ⟨z, xs, ys, e, b1, b2⟩ := hC d0 (List.mem_of_getElem? hd)
    exact elc_of ls id e (fun a _ h => h) b1 b2
  obtain ⟨l1, vs1, rfl, m1, h1, len1, el1⟩ := g pi1 ls1 fun d hd => hC d (List.mem_append_left _ hd)
  obtain ⟨l2, vs2, rfl, m2, h2, len2, el2⟩ := g pi2 ls2 fun d hd => hC d (List.mem_append_right _ hd)
  generalize hS : (fun a => ∃ vs, H a = some (.lst vs) ∧ vs.length ≤ 1000) = S at el1 el2
  have el : ∀ v ∈ vs1 ++ vs2, ∃ a z m1 m2, v = V.ref a ∧ SqT X.K F a [.str z, .ref m1, .ref m2] ∧ S m1 ∧ (m1 ∈ fp1 ∨ m1 ∈ fp2) ∧ S m2 ∧ (m2 ∈ fp1 ∨ m2 ∈ fp2) := fun v hv => by
    rcases List.mem_append.mp hv with hv | hv
    · obtain ⟨a, z, m1, m2, q1, q2, q3, q4, q5, q6⟩ := el1 v hv
      exact ⟨a, z, m1, m2, q1, q2, q3, .inl q4, q5, .inl q6⟩
    · obtain ⟨a, z, m1, m2, q1, q2, q3, q4, q5, q6⟩ := el2 v hv
      exact ⟨a, z, m1, m2, q1, q2, q3, .inr q4, q5, .inr q6⟩
  -- the slots at the start
  have mk : ∀ {fp : List Addr} {l0 : Addr}, l0 ∈ fp → Lsts H fp → ∀ F' H', Ex F F' → (∀ a ∈ fp, H' a = H a) → mP S 1000 (.ref l0) fp F' H' := fun {fp l0} m ls F' H' _ y => ⟨⟨l0, rfl, m⟩, fun a ha => by
    obtain ⟨vs, e⟩ := ls a ha
    refine ⟨vs, (y a ha).trans e, fun sa => ?_⟩
    rw [← hS] at sa
    obtain ⟨us, e', q⟩ := sa
    rw [e] at e'
    cases e'
    exact q⟩
  have E1 : En X.K H0 F H σ (ρ.set i1 (og fp1 (mP S 1000))) := by
    refine ⟨s.e.i, s.e.b, fun k t ek => ?_, fun x y t w b ea eb ha hb => ?_, s.e.t⟩
    · rcases set_at ek with ⟨rfl, _, rfl⟩ | ⟨_, ek⟩
      · exact ⟨_, e1, mk m1 ls1, k1⟩
      · exact s.e.s k t ek
    · have back : ∀ (z : Nat) (s' : Sl), (ρ.set i1 (og fp1 (mP S 1000)))[z]? = some s' → b ∈ s'.fp → ∃ s2, ρ[z]? = some s2 ∧ b ∈ s2.fp := fun z s' e m => by
        rcases set_at e with ⟨rfl, _, rfl⟩ | ⟨_, e⟩
        · exact ⟨_, hi1, m⟩
        · exact ⟨s', e, m⟩
      obtain ⟨s1, z1, w1⟩ := back x t ea ha
      obtain ⟨s2, z2, w2⟩ := back y w eb hb
      exact s.e.d x y s1 s2 b z1 z2 w1 w2
  have hi2' : (ρ.set i1 (og fp1 (mP S 1000)))[i2]? = some (og fp2 (nP X.K (.list ds2))) := by rw [List.getElem?_set_ne h12]; exact hi2
  have E2 : En X.K H0 F H σ ((ρ.set i1 (og fp1 (mP S 1000))).set i2 (og fp2 (mP S 1000))) := by
    refine ⟨E1.i, E1.b, fun k t ek => ?_, fun x y t w b ea eb ha hb => ?_, E1.t⟩
    · rcases set_at ek with ⟨rfl, _, rfl⟩ | ⟨_, ek⟩
      · exact ⟨_, e2, mk m2 ls2, k2⟩
      · exact E1.s k t ek
    · have back : ∀ (z : Nat) (s' : Sl), ((ρ.set i1 (og fp1 (mP S 1000))).set i2 (og fp2 (mP S 1000)))[z]? = some s' → b ∈ s'.fp → ∃ s2, (ρ.set i1 (og fp1 (mP S 1000)))[z]? = some s2 ∧ b ∈ s2.fp := fun z s' e m => by
        rcases set_at e with ⟨rfl, _, rfl⟩ | ⟨_, e⟩
        · exact ⟨_, hi2', m⟩
        · exact ⟨s', e, m⟩
      obtain ⟨s1, z1, w1⟩ := back x t ea ha
      obtain ⟨s2, z2, w2⟩ := back y w eb hb
      exact E1.d x y s1 s2 b z1 z2 w1 w2
  obtain ⟨oj, ej, _⟩ := s.e.s j _ (List.getElem?_eq_getElem hj)
  have E3 : En X.K H0 F H σ (rm ρ i1 i2 j fp1 fp2 S 1000) := by
    have hjj : ((ρ.set i1 (og fp1 (mP S 1000))).set i2 (og fp2 (mP S 1000)))[j]? = some ρ[j] := by
      rw [List.getElem?_set_ne h2j, List.getElem?_set_ne h1j]; exact List.getElem?_eq_getElem hj
    exact E2.less hjj (fun o _ => by cases o <;> trivial) (fun a m => nomatch m)
  refine w_s (ps_for hp hc (pi_list (pe_op op_cat (pe_var hN1 hv1 d1 d2) (pe_var hN2 hv2 d3 d4))) (pg_name nd hN hlc hfn) (pss_cons (ps_expr (pe_bm0 PySem.F.plainAttrs_list PySem.F.slot_list_clear PySem.F.type_list_clear mt_clear (pe_ix ix_tup (pe_var hN (vis_of hlc) d5 d6) pe_int hpl1) hb1 hl1) hw1)
    (pss_one (ps_expr (pe_bm PySem.F.plainAttrs_list PySem.F.slot_list_append PySem.F.type_list_append mt_append (pe_ix ix_tup (pe_var hN (vis_of hlc) d5 d6) pe_int hpl2) (pa_cons pe_w pa_nil hs) hb2 ha2 hl2 hs hz2) hw2))) hf) ⟨_, e1, _, e2, l1, l2, vs1, vs2, rfl, rfl, h1, h2, ?_, fun r hr => ?_⟩
  · rw [len1, len2]; exact Nat.le_trans hz (by decide)
  have x1 := Ext.kept (o := .lst (vs1 ++ vs2)) s.e.i hr
  have nr : ∀ a, a ∈ fp1 ∨ a ∈ fp2 → a ≠ r := fun a ha z => by
    rcases ha with ha | ha
    · exact (k1 a ha).2.2.ne (z ▸ hr)
    · exact (k2 a ha).2.2.ne (z ▸ hr)
  refine ⟨r, rfl, ⟨_, SqL.of upd_same⟩, for_list (xs := vs1 ++ vs2) (fun i σ' H' => ∃ F', Ex F F' ∧ S2 X.K F0 H0 F' H' σ' (rm ρ i1 i2 j fp1 fp2 S (1000 + 2 * i)) ∧ H' r = some (.lst (vs1 ++ vs2))) ⟨F, Ex.refl F, ⟨s.x.trans x1, E3.ext x1⟩, upd_same⟩ (fun i σ' H' _ ⟨F', _, _, hh⟩ => SqL.of hh) ?_ ?_⟩
  · rintro i v σ' H' hi ⟨F', xf, s', hh⟩
    have hil : i < (vs1 ++ vs2).length := (List.getElem?_eq_some_iff.mp hi).1
    rw [List.length_append, len1, len2] at hil
    obtain ⟨a0, z0, y1, y2, rfl, ht, S1, M1, S2', M2⟩ := el v (List.mem_of_getElem? hi)
    have hrj : (rm ρ i1 i2 j fp1 fp2 S (1000 + 2 * i))[j]? = some .un := by
      unfold rm
      exact List.getElem?_set_self (by rw [List.length_set, List.length_set]; exact hj)
    obtain ⟨o9, e9, _⟩ := s'.e.s j _ hrj
    have jl := (List.getElem?_eq_some_iff.mp e9).1
    have Ev : En X.K H0 F' H' (σ'.set j (some (.ref a0))) (rm ρ i1 i2 j fp1 fp2 S (1000 + 2 * i)) := by
      have q := s'.e.set_ (i := j) (o := some (.ref a0)) (s := .un) trivial fun k t a _ m _ => nomatch m
      unfold rm at q ⊢
      rw [List.set_set] at q
      exact q
    have ev : (σ'.set j (some (V.ref a0)))[j]? = some (some (V.ref a0)) := List.getElem?_set_self jl
    obtain ⟨⟨w1, a1, a2⟩, a3, a4, a5⟩ := rm_poke Ev L1 L2 h12 h1j h2j M1 S1
    have sA := s2_poke ⟨s'.x, Ev⟩ a1 a3 (a5 [] (Nat.zero_le _))
    obtain ⟨⟨w2, b1, b2⟩, b3, b4, b5⟩ := rm_poke sA.e L1 L2 h12 h1j h2j M2 S2'
    refine ⟨_, ev, a0, _, 1, .ref y1, rfl, rfl, (xf.trans s'.e.i).sqt ht, atI_nat (j := 1) rfl, .inl ⟨rfl, w1, SqL.of a1⟩, y1, w1, rfl, rfl, a1, ?_⟩
    refine ⟨_, ev, a0, _, 2, .ref y2, rfl, rfl, (xf.trans sA.e.i).sqt ht, atI_nat (j := 2) rfl, .inl ⟨rfl, w2, SqL.of b1⟩, ?_⟩
    refine he _ H0 F' _ _ _ sA.e xcN fun v3 F3 H3 x3 i3 => ?_
    have sB := sA.go x3
    obtain ⟨⟨w3, f1, f2⟩, f3, f4, f5⟩ := rm_poke sB.e L1 L2 h12 h1j h2j M2 S2'
    refine ⟨y2, w3, v3, rfl, rfl, f1, Nat.lt_of_le_of_lt f2 (Nat.lt_of_lt_of_le (show 1000 + 2 * i + 1 < 200000 by omega) (by decide)), ?_⟩
    refine ⟨F3, xf.trans x3.f, s2_poke sB f1 f3 (f5 _ (by rw [List.length_append, List.length_singleton]; omega)), ?_⟩
    rw [upd_ne (Ne.symm (nr y2 M2))]
    exact x3.h.g ((upd_ne (Ne.symm (nr y1 M1))).trans hh)
  · rintro σ' H' ⟨F', xf, s', hh⟩
    exact l.nx _ σ' F' H' (q S _) s'
/-- x.clear() -/
theorem sd_mClr {S : Addr → Prop} {k : Nat} (hN : X.N[i]? = some n) (hv : Vis X.env.scope n) (hi : ρ[i]? = some (og fp (mP S k))) (q : T.nx (ρ.set i (og fp (mP S k))))
    (hd : (n == ("__debug__" : Str)) = false := by decide) (hcd : (n == ("__classdict__" : Str)) = false := by decide) (hb : attributeBase (.Name n p2) "clear" X.env (eval (.Name n p2) X.env) = eval (.Name n p2) X.env := by rfl)
    (hl : (apos.endLine == p.line) = true := by rfl) (hw : swapsWith (.Call (.Attribute (.Name n p2) "clear" apos) [] [] p) none pos.line X.env = pure false := by rfl) : SD X W (.Expr (.Call (.Attribute (.Name n p2) "clear" apos) [] [] p) pos) ρ T := fun F0 H0 F H σ D s l => by
  obtain ⟨v, e1, ⟨⟨l0, rfl, m0⟩, p2'⟩, h1⟩ := s.e.og hi
  obtain ⟨vs, hh, _⟩ := p2' l0 m0
  refine w_s (ps_expr (pe_bm0 PySem.F.plainAttrs_list PySem.F.slot_list_clear PySem.F.type_list_clear mt_clear (pe_var hN hv hd hcd) hb hl) hw) ⟨_, e1, .inl ⟨rfl, vs, SqL.of hh⟩, l0, vs, rfl, rfl, hh, ?_⟩
  refine l.nx _ σ F _ q (s2_poke s hh (h1 l0 m0).2.1 (s.e.poke hi m0 (.lst []) (fun v' ev' => ?_) fun a ha => ha))
  rw [e1] at ev'
  cases ev'
  have up : ∀ a ∈ fp, ∃ vs, upd H l0 (.lst []) a = some (.lst vs) ∧ (S a → vs.length ≤ k) := fun a ha => by
    by_cases z : a = l0
    · subst z; exact ⟨[], upd_same, fun _ => Nat.zero_le _⟩
    · rw [upd_ne z]; exact p2' a ha
  exact og_ok mP_st ⟨⟨l0, rfl, m0⟩, up⟩ fun a ha => ⟨(h1 a ha).1, (h1 a ha).2.1, let ⟨vs, e, _⟩ := up a ha; .of e⟩
end
end PD

set_option maxHeartbeats 4000000
/-! A def that is handed things for good. -/
namespace PD
open PySem PySem.Spec PyProof.Rows L2
variable [PD.TabC]
def spG (K : PySem.W.Frag) (N : List Str) (n : Nat) (R : List Sl → DOut → Prop) : Sp := fun vs H Q E => ∃ F B ρ o, vs.length = n ∧ En K B F H (L2.start N vs) ρ ∧ R ρ o ∧ Got K F B Q E o
structure CalG (P : Program) (w : World) (K : PySem.W.Frag) (mg : Str → Option Value) (base : Heap) (k : Nat) (x : Str) (N : List Str) (n : Nat) (R : List Sl → DOut → Prop) : Prop where
  ex : ∃ (f : Addr) (fd : FuncData) (ps : List Str), FnOk P w K mg base (L2N.CX P w) k f fd ps (spG K N n R) ∧ mg x = some (.ref f) ∧ PySem.W.keepIn K (.ref f) = true ∧ Binds K fd ps []
section
variable {P : Program} {w : World} {K : PySem.W.Frag} {mg : Str → Option Value} {base : Heap}
theorem fnG {x qual : Str} {st : Stmt} {f : Addr} {fd : FuncData} {N ps : List Str} {k : Nat} {R : List Sl → DOut → Prop} (F : Fun K x qual st f fd) (S : FnScope N ps (defScope st))
    (hbody : ∀ (cdv : Value) (A : Around) (outer : List PySem.Env) (s : Shared) (H : Hp) (E : XK) (ρ : List Sl) (o : DOut), Room k (A.deeper (envOfC qual (defScope st) s.heap.objs.size f cdv)) → R ρ o →
      SDs (cxOf (L2N.CX P w) P w K mg base N qual (defScope st) f cdv A outer s H E) (fun c d _ H' => E c d H') (defBody st) ρ (deOf o)) : FnOk P w K mg base (L2N.CX P w) (k + 1) f fd ps (spG K N ps.length R) := by
  obtain ⟨oc, od, kV, doc, pm, an, cdv, ct, osl, rfl, lk, hcd⟩ := F.ex
  refine fn_of lk hcd S (fun vs H Q E ⟨F, B, ρ, o, h, _⟩ => h) fun A outer s H vs Q E hr ⟨F0, B, ρ, o, hl, E0, hR, g⟩ => ?_
  refine ⟨WSs _ (defBody st), pss_w, ?_⟩
  exact hbody cdv A outer s H E ρ o hr hR F0 B F0 H (L2.start N vs) _ ⟨⟨Ex.refl F0, E0.b, E0.i, fun _ _ => rfl, fun _ => E0.t⟩, E0⟩ (lk_of (N := N) g)
theorem calG_of {h : Heap} {x : Str} {st : Stmt} {k n : Nat} {N : List Str} {R : List Sl → DOut → Prop} (X : K.In h) (G : h.Ns mainGlobals mg) (ps : List Str) (D : DefK K x st) (hb : BindK x st ps)
    (ok : ∀ (f : Addr) (fd : FuncData), Fun K x x st f fd → FnOk P w K mg base (L2N.CX P w) k f fd ps (spG K N n R)) : CalG P w K mg base k x N n R := by
  obtain ⟨f, oc, od, kV, doc, pm, an, cdv, ct, osl, a, l, c, kk⟩ := D
  have F := fun_mk l c kk
  exact ⟨f, _, ps, ok f _ F, PySem.W.mg_of X G a, kk, F.binds hb⟩
end
theorem tabs_un {H : Hp} {fps : List Addr} (h : ∀ a ∈ fps, Std H a) (t : LamX.Tabs TabC.T H) : LamX.Tabs TabC.T (un H fps) := fun x hx => by
  obtain ⟨ps', z1, z2, hc1⟩ := t x hx
  have nm : ∀ {a : Addr} {o : HO}, H a = some o → (¬ NT o ∨ ¬ NX o) → a ∉ fps := fun {a o} e q m => by
    obtain ⟨u, e2, n1, n2⟩ := h a m
    rw [e] at e2
    cases e2
    rcases q with q | q
    · exact q n1
    · exact q n2
  refine ⟨ps', by unfold un; rw [if_neg (nm z1 (.inl fun n => n _ rfl))]; exact z1, z2, fun pos cv hc => ?_⟩
  obtain ⟨c, e1, e2⟩ := hc1 pos cv hc
  exact ⟨c, e1, by unfold un; rw [if_neg (nm e2 (.inr fun n => n _ rfl))]; exact e2⟩
section
variable {X : Cx} {W : WX} {ρ : List Sl} {d : PyData} {pos p p1 p2 p3 pos2 : Pos} {T : De} {P1 P2 : OP} {x n1 n2 n3 : Str} {i1 i2 i3 k : Nat} {fp1 fp2 : List Addr} {N : List Str} {R : List Sl → DOut → Prop}
/-- return f(a, b, c): a and b one's own, handed over for good -/
theorem sd_retGive {d3 : PyData} (C : CalG X.prog X.w X.K X.mg X.base k x N 3 R) (hr : Room k X.A) (hg : Gl X x) (tk : L2N.Takes X W) (hN1 : X.N[i1]? = some n1) (hv1 : Vis X.env.scope n1) (hi1 : ρ[i1]? = some (og fp1 P1)) (hN2 : X.N[i2]? = some n2) (hv2 : Vis X.env.scope n2) (hi2 : ρ[i2]? = some (og fp2 P2))
    (hN3 : X.N[i3]? = some n3) (hv3 : Vis X.env.scope n3) (hi3 : ρ[i3]? = some (.sh d3)) (h12 : i1 ≠ i2) (hR : R ([og fp1 P1, og fp2 P2, .sh d3] ++ List.replicate (N.length - 3) .un) (.val d)) (hl : 3 ≤ N.length) (q : T.rt d)
    (d1 : (n1 == ("__debug__" : Str)) = false := by decide) (d2 : (n1 == ("__classdict__" : Str)) = false := by decide) (d3' : (n2 == ("__debug__" : Str)) = false := by decide) (d4 : (n2 == ("__classdict__" : Str)) = false := by decide) (d5 : (n3 == ("__debug__" : Str)) = false := by decide) (d6 : (n3 == ("__classdict__" : Str)) = false := by decide)
    (s1 : starEach [.Name n1 p1, .Name n2 p2, .Name n3 p3] X.env = (false, eval (.Name n1 p1) X.env) :: starEach [.Name n2 p2, .Name n3 p3] X.env := by rfl) (s2 : starEach [.Name n2 p2, .Name n3 p3] X.env = (false, eval (.Name n2 p2) X.env) :: starEach [.Name n3 p3] X.env := by rfl) (s3 : starEach [.Name n3 p3] X.env = [(false, eval (.Name n3 p3) X.env)] := by rfl)
    (hdb : (x == ("__debug__" : Str)) = false := by decide) (hpl : (backTo pos2 (starEach [.Name n2 p2, .Name n3 p3] X.env)).any (·.1) = false := by rfl) :
    SD X W (.Return (some (.Call (.Name x p) [.Name n1 p1, .Name n2 p2, .Name n3 p3] [] pos2)) pos) ρ T := fun F0 H0 F H σ D s l => by
  obtain ⟨f, fd, ps, Fn, hm, hk, hb⟩ := C.ex
  obtain ⟨u1, e1, _, k1⟩ := s.e.og hi1
  obtain ⟨u2, e2, _, k2⟩ := s.e.og hi2
  obtain ⟨o3, e3, k3⟩ := s.e.s i3 _ hi3
  obtain ⟨o1', e1', g1⟩ := s.e.s i1 _ hi1
  obtain ⟨o2', e2', g2⟩ := s.e.s i2 _ hi2
  rw [e1] at e1'
  cases e1'
  rw [e2] at e2'
  cases e2'
  cases o3 with
  | none => exact k3.elim
  | some u3 =>
  have st : ∀ a ∈ fp1 ++ fp2, Std H a := fun a ha => by
    rcases List.mem_append.mp ha with ha | ha
    · exact (k1 a ha).2.2
    · exact (k2 a ha).2.2
  have h0 : ∀ a, H0 a ≠ none → a ∉ fp1 ++ fp2 := fun a ha m => by
    rcases List.mem_append.mp m with m | m
    · exact ha (k1 a m).2.1
    · exact ha (k2 a m).2.1
  have ub : ∀ {a : Addr}, a ∉ fp1 ++ fp2 → un H (fp1 ++ fp2) a = H a := fun {a} m => by unfold un; exact if_neg m
  have bi : ∀ a ∈ fp1 ++ fp2, un H (fp1 ++ fp2) a = none := fun a m => by unfold un; exact if_pos m
  have slg : ∀ {fp : List Addr} {P : OP} {u : V}, SlOk X.K H0 F H (some u) (og fp P) → (∀ a ∈ fp, a ∈ fp1 ++ fp2) → SlOk X.K (un H (fp1 ++ fp2)) F H (some u) (og fp P) := fun {fp P u} g m => ⟨g.1, fun a ha => ⟨(g.2 a ha).1, bi a (m a ha), (g.2 a ha).2.2⟩⟩
  have E0 : En X.K (un H (fp1 ++ fp2)) F H (L2.start N [u1, u2, u3]) ([og fp1 P1, og fp2 P2, .sh d3] ++ List.replicate (N.length - 3) .un) := by
    refine ⟨s.e.i, ⟨fun a o e _ => ?_, fun a h z => h ?_⟩, fun j t e => ?_, fun a b t r y ea eb ha hb => ?_, s.e.t⟩
    · by_cases m : a ∈ fp1 ++ fp2
      · rw [bi a m] at e; cases e
      · rw [ub m] at e; exact e
    · by_cases m : a ∈ fp1 ++ fp2
      · exact bi a m
      · rw [ub m]; exact z
    · unfold L2.start
      match j, e with
      | 0, e => cases e; exact ⟨some u1, rfl, slg g1 fun a ha => List.mem_append_left _ ha⟩
      | 1, e => cases e; exact ⟨some u2, rfl, slg g2 fun a ha => List.mem_append_right _ ha⟩
      | 2, e => cases e; exact ⟨some u3, rfl, k3⟩
      | j + 3, e =>
        have e : (List.replicate (N.length - 3) Sl.un)[j]? = some t := e
        rw [List.getElem?_replicate] at e
        split at e
        · cases e
          refine ⟨none, ?_, trivial⟩
          show (List.replicate (N.length - 3) (none : Option V))[j]? = some none
          rw [List.getElem?_replicate, if_pos (by assumption)]
        · cases e
    · have rep : ∀ {j : Nat} {t : Sl}, ([og fp1 P1, og fp2 P2, Sl.sh d3] ++ List.replicate (N.length - 3) Sl.un)[j]? = some t → y ∈ t.fp → (j = 0 ∧ y ∈ fp1) ∨ (j = 1 ∧ y ∈ fp2) := fun {j t} e m => by
        match j, e with
        | 0, e => cases e; exact .inl ⟨rfl, m⟩
        | 1, e => cases e; exact .inr ⟨rfl, m⟩
        | 2, e => cases e; exact nomatch m
        | j + 3, e =>
          have e : (List.replicate (N.length - 3) Sl.un)[j]? = some t := e
          rw [List.getElem?_replicate] at e
          split at e
          · cases e; exact nomatch m
          · cases e
      have dj : y ∈ fp1 → y ∈ fp2 → False := fun z1 z2 => h12 (s.e.d i1 i2 _ _ y hi1 hi2 z1 z2)
      rcases rep ea ha with ⟨z1, y1⟩ | ⟨z1, y1⟩ <;> rcases rep eb hb with ⟨z2, y2⟩ | ⟨z2, y2⟩
      · rw [z1, z2]
      · exact (dj y1 y2).elim
      · exact (dj y2 y1).elim
      · rw [z1, z2]
  refine w_s (ps_ret (pe_callS Fn hr hg hm hk hb (fun σ => L2N.passAt tk σ) (pa_cons (pe_var hN1 hv1 d1 d2) (pa_cons (pe_var hN2 hv2 d3' d4) (pa_cons (pe_var hN3 hv3 d5 d6) pa_nil s3) s2) s1) hdb s1 hpl)) ⟨_, e1, _, e2, _, e3, F, un H (fp1 ++ fp2), _, .val d, rfl, E0, hR, fun v F1 H1 x1 i1 => ?_⟩
  refine l.rt d v F1 H1 q ⟨s.x.f.trans x1.f, ⟨fun a o e n => ?_, fun a h => ?_⟩, x1.i, fun a h => ?_, fun _ => x1.t (tabs_un st s.e.t)⟩ i1
  · have m := h0 a (by rw [e]; exact fun z => nomatch z)
    exact x1.h.k a o ((ub m).trans (s.e.b.k a o e n)) n
  · have m := h0 a h
    exact x1.h.d a (by rw [ub m]; exact s.e.b.d a h)
  · have m := h0 a h
    exact (x1.n a (by rw [ub m]; exact s.e.b.d a h)).trans (s.x.n a h)
end
end PD

set_option maxHeartbeats 4000000
/-! max(a list, default=..); sorted(texts, reverse=True). -/
namespace MaxD
open PySem PySem.Spec PyProof.Rows
abbrev two (x y : Value) (c : Nat) : Obj := { cls := .type "list", dict := none, data := .seq #[x, y] c, slots := #[] }
abbrev lp (I S : Addr) (kw : List (Str × Value)) : Code := .builtin "max.loop" ⟨[.ref I, .none, .ref S], kw⟩
theorem nm : (toString "max" ++ toString ".loop" : String) = "max.loop" := by decide
section
variable {prog : Program} {w : World} {A : Around} {R : Result → Shared → Prop} {I S : Addr} {fp wr : List Addr} {n : Nat} {P : Nat → Value → Prop} {St : Nat → Heap → Prop} {kw : List (Str × Value)}
theorem go (W : Walks prog w A.in1 I fp wr n P St) (bt : Nat → Nat → Bool) (C : CmpOf prog w A.in1 .Gt P bt) (hS : S ∉ fp) : ∀ (k j : Nat) (s : Shared) (x : Value) (c : Nat), n - (j + 1) = k → j + 1 ≤ n → St (j + 1) s.heap → P (argBest bt j) x → s.heap.get? S = some (two x x c) →
    (∀ v g t, P (argBest bt (n - 1)) v → (∀ b o, b ∉ wr → b ≠ S → s.heap.get? b = some o → g.get? b = some o) → R (.ok (.ret v)) { s with heap := g, toks := t }) → codeAny (model prog w) A (lp I S kw) R s := by
  have nS : S ∉ wr := fun h => hS (W.sub _ h)
  intro k
  induction k with
  | zero =>
    intro j s x c hk hj st hp hs r
    have e : j + 1 = n := by omega
    refine codeAny_builtin PySem.F.entry_max_loop ?_
    rw [Around.under_plainId PySem.F.plain_max_loop _]
    show wpAny _ A.in1 (Bind.bind (seqItems? (.ref S)) _) _ _ s
    refine wpAny_bind (wpAny_seqItems hs rfl ?_)
    show wpAny _ A.in1 (Bind.bind (tryCatch (pyNext (.ref I)) _) _) _ _ s
    refine wpAny_bind (wpAny_tryCatch (W.done s _ _ (e ▸ st) fun g t keep => ?_))
    have hs2 := keep S _ nS hs
    show wpAny _ A.in1 (Bind.bind (updateSeq S (fun _ => #[])) _) _ _ _
    refine wpAny_bind ?_
    refine wpAny_updateSeq hs2 rfl (wpAny_bind (wpAny_letGo (wpAny_pure ?_)))
    exact r x _ t (by rw [← e]; exact hp) fun b o b1 b2 q => (Heap.get?_update_other _ _ (Ne.symm b2)).trans (keep b o b1 q)
  | succ k ih =>
    intro j s x c hk hj st hp hs r
    have lt : j + 1 < n := by omega
    refine codeAny_builtin PySem.F.entry_max_loop ?_
    rw [Around.under_plainId PySem.F.plain_max_loop _]
    show wpAny _ A.in1 (Bind.bind (seqItems? (.ref S)) _) _ _ s
    refine wpAny_bind (wpAny_seqItems hs rfl ?_)
    show wpAny _ A.in1 (Bind.bind (tryCatch (pyNext (.ref I)) _) _) _ _ s
    refine wpAny_bind (wpAny_tryCatch (W.item (j + 1) s _ _ lt st fun v g t pv st2 keep => ?_))
    have hs2 := keep S _ nS hs
    show wpAny _ A.in1 (Bind.bind (tryCatch (holding [v, v] (Bind.bind (richCompare .Gt v x) _)) _) _) _ _ _
    refine wpAny_bind (wpAny_tryCatch (wpAny_holding (wpAny_bind (C (j + 1) (argBest bt j) v x _ _ _ pv hp ?_))))
    refine wpAny_bind (wpAny_holding (wpAny_truthy_bool ?_))
    refine wpAny_bind (wpAny_letGo (wpAny_pure ?_))
    cases hb : bt (j + 1) (argBest bt j) with
    | true =>
      simp only [if_true]
      refine wpAny_bind ?_
      refine wpAny_updateSeq hs2 rfl (wpAny_bind (wpAny_letGo ?_))
      rw [nm]
      refine wpAny_pure ⟨plainId_quiet PySem.F.plain_max_loop _, ih (j + 1) _ v _ (by omega) lt (W.frame _ _ _ st2 fun b m o q => (Heap.get?_update_other _ _ (fun z : S = b => hS (z ▸ m))).trans q) (by simp only [argBest, hb, if_true]; exact pv) (Heap.get?_update_self _ hs2 rfl) fun v2 g2 t2 p2 keep2 => ?_⟩
      exact r v2 g2 t2 p2 fun b o b1 b2 q => keep2 b o b1 b2 ((Heap.get?_update_other _ _ (Ne.symm b2)).trans (keep b o b1 q))
    | false =>
      simp only [Bool.false_eq_true, if_false]
      refine wpAny_bind (wpAny_letGo ?_)
      rw [nm]
      refine wpAny_pure ⟨plainId_quiet PySem.F.plain_max_loop _, ih (j + 1) _ x c (by omega) lt st2 (by simp only [argBest, hb, Bool.false_eq_true, if_false]; exact hp) hs2 fun v2 g2 t2 p2 keep2 => ?_⟩
      exact r v2 g2 t2 p2 fun b o b1 b2 q => keep2 b o b1 b2 (keep b o b1 q)
theorem go1 (W : Walks prog w A.in1 I fp wr n P St) (bt : Nat → Nat → Bool) (C : CmpOf prog w A.in1 .Gt P bt) (hS : S ∉ fp) (pos : 0 < n) {s : Shared} {c : Nat} (st : St 0 s.heap) (hs : s.heap.get? S = some { cls := .type "list", dict := none, data := .seq #[] c, slots := #[] })
    (r : ∀ v g t, P (argBest bt (n - 1)) v → (∀ b o, b ∉ wr → b ≠ S → s.heap.get? b = some o → g.get? b = some o) → R (.ok (.ret v)) { s with heap := g, toks := t }) : codeAny (model prog w) A (lp I S kw) R s := by
  have nS : S ∉ wr := fun h => hS (W.sub _ h)
  refine codeAny_builtin PySem.F.entry_max_loop ?_
  rw [Around.under_plainId PySem.F.plain_max_loop _]
  show wpAny _ A.in1 (Bind.bind (seqItems? (.ref S)) _) _ _ s
  refine wpAny_bind (wpAny_seqItems hs rfl ?_)
  show wpAny _ A.in1 (Bind.bind (tryCatch (pyNext (.ref I)) _) _) _ _ s
  refine wpAny_bind (wpAny_tryCatch (W.item 0 s _ _ pos st fun v g t pv st2 keep => ?_))
  have hs2 := keep S _ nS hs
  show wpAny _ A.in1 (Bind.bind (updateSeq S (fun _ => #[v, v])) _) _ _ _
  refine wpAny_bind ?_
  refine wpAny_updateSeq hs2 rfl ?_
  rw [nm]
  refine wpAny_pure ⟨plainId_quiet PySem.F.plain_max_loop _, go W bt C hS _ 0 _ v _ rfl pos (W.frame _ _ _ st2 fun b m o q => (Heap.get?_update_other _ _ (fun z : S = b => hS (z ▸ m))).trans q) pv (Heap.get?_update_self _ hs2 rfl) fun v2 g2 t2 p2 keep2 => ?_⟩
  exact r v2 g2 t2 p2 fun b o b1 b2 q => keep2 b o b1 b2 ((Heap.get?_update_other _ _ (Ne.symm b2)).trans (keep b o b1 q))
theorem go0 (W : Walks prog w A.in1 I fp wr 0 P St) (hS : S ∉ fp) {s : Shared} {c : Nat} {k0 : Str} {d : Value} (st : St 0 s.heap) (hs : s.heap.get? S = some { cls := .type "list", dict := none, data := .seq #[] c, slots := #[] })
    (r : ∀ g t, (∀ b o, b ∉ wr → s.heap.get? b = some o → g.get? b = some o) → R (.ok (.ret d)) { s with heap := g, toks := t }) : codeAny (model prog w) A (lp I S [(k0, d)]) R s := by
  refine codeAny_builtin PySem.F.entry_max_loop ?_
  rw [Around.under_plainId PySem.F.plain_max_loop _]
  show wpAny _ A.in1 (Bind.bind (seqItems? (.ref S)) _) _ _ s
  refine wpAny_bind (wpAny_seqItems hs rfl ?_)
  show wpAny _ A.in1 (Bind.bind (tryCatch (pyNext (.ref I)) _) _) _ _ s
  refine wpAny_bind (wpAny_tryCatch (W.done s _ _ st fun g t keep => ?_))
  refine wpAny_bind (wpAny_rule ?_)
  exact wpAny_pure (r g t keep)
end
section
variable {prog : Program} {w : World} {A : Around} {E : Value → Shared → Prop} {s : Shared} {l : Addr} {d : Value} {Q : Value → Shared → Prop} {xs : Array (Int × Tok)}
theorem args_md (a d : Value) : argsOk "max" ⟨[a], [(Str.ofString "default", d)]⟩ := by unfold argsOk; kernel_rfl
/-- a built-in that hands on, called with keywords -/
theorem call_on {id : String} {b : Builtin} {args : List Value} {kw : List (Str × Value)} (k0 : builtinKind id = none) (p0 : plainId id = true) (e0 : entryFor table id = some b) (a0 : argsOk id ⟨args, kw⟩)
    (h : wpAny (model prog w) A.in1 (b ⟨args, kw⟩) (fun fin s' => match fin with
      | .done f => (match (Except.ok f : Result) with
        | .ok (.ret v) => Q v s'
        | .ok _ => False
        | .error e => E e s')
      | .again c => c.quiet = true ∧ codeAny (model prog w) A c (fun r s2 => match r with
        | .ok (.ret v) => Q v s2
        | .ok _ => False
        | .error e => E e s2) s') E s) : wpAny (model prog w) A (call (.builtin id) args kw) Q E s := by
  refine wpAny_call (codeAny_call_builtin p0 e0 ?_)
  simp only [checkBuiltinCall, k0]
  cases q : Manifest.signature? id with
  | none => exact wpAny_pure h
  | some sg =>
    simp only [argsOk, q] at a0
    simp only [show Bind.checkArgs id sg ⟨args, kw⟩ = pure () from a0]
    exact wpAny_pure h
/-- max(a list of ints, default=d) -/
theorem call_md (hh : A.handled = none) (hl : s.heap.IsList l (intItems xs)) (h0 : xs.size = 0 → ∀ g t, (∀ b o, s.heap.get? b = some o → g.get? b = some o) → Q d { s with heap := g, toks := t })
    (h1 : 0 < xs.size → ∀ v g t, (intItems xs)[argBest (fun i j => decide (numAt xs i > numAt xs j)) (xs.size - 1)]? = some v → (∀ b o, s.heap.get? b = some o → g.get? b = some o) → Q v { s with heap := g, toks := t }) :
    wpAny (model prog w) A (call (.builtin "max") [.ref l] [(Str.ofString "default", d)]) Q E s := by
  refine call_on PySem.F.kind_max PySem.F.plain_max PySem.F.entry_max (args_md _ _) ?_
  show wpAny _ A.in1 (Bind.bind (Builtin.Builtins.bindParams "max" ["key", "default"] 0 ⟨[], [(Str.ofString "default", d)]⟩) _) _ _ s
  refine wpAny_bind (wpAny_of_eq (show Builtin.Builtins.bindParams "max" ["key", "default"] 0 ⟨[], [(Str.ofString "default", d)]⟩ = pure [none, some d] from by first | rfl | kernel_rfl) ?_)
  refine wpAny_bind (wpAny_pure ?_)
  refine wpAny_bind (iter_intList hl fun s2 e st hfp ne => ?_)
  subst e
  refine wpAny_bind (wpAny_newObj_type ?_)
  have W := Walks.list (prog := prog) (w := w) (A := A.in1) hh s.heap.objs.size l ne (intItems xs)
  have nS : (s.heap.push { cls := .type "list_iterator", data := .fields #[.ref l, .int 0 0] }).objs.size ∉ [s.heap.objs.size, l] := fun hm => Nat.lt_irrefl _ (hfp _ hm)
  have hsz : (intItems xs).size = xs.size := by simp [intItems]
  have hS : (s.heap.push { cls := .type "list_iterator", data := .fields #[.ref l, .int 0 0] }).objs.size = s.heap.objs.size + 1 := Heap.size_push ..
  have ext : ∀ {g : Heap}, (∀ b o, b ∉ [s.heap.objs.size] → b ≠ s.heap.objs.size + 1 → ((s.heap.push { cls := .type "list_iterator", data := .fields #[.ref l, .int 0 0] }).push { cls := .type "list", data := .seq #[] 0 }).get? b = some o → g.get? b = some o) → ∀ b o, s.heap.get? b = some o → g.get? b = some o := fun {g} keep b o q =>
    keep b o (fun m => by rw [List.mem_singleton.mp m] at q; exact absurd (Heap.lt_size q) (Nat.lt_irrefl _)) (Nat.ne_of_lt (Nat.lt_succ_of_lt (Heap.lt_size q))) (Heap.get?_push_of_some _ (Heap.get?_push_of_some _ q))
  rw [nm]
  refine wpAny_pure ⟨plainId_quiet PySem.F.plain_max_loop _, ?_⟩
  by_cases hz : xs.size = 0
  · have W0 := W
    rw [hsz, hz] at W0
    refine go0 (s := { s with heap := (s.heap.push { cls := .type "list_iterator", data := .fields #[.ref l, .int 0 0] }).push { cls := .type "list", data := .seq #[] 0 } }) W0 nS (W.frame _ _ _ st fun b _ o e => Heap.get?_push_of_some _ e) (Heap.get?_push_size _ rfl) fun g t keep => ?_
    exact h0 hz g t (ext fun b o m _ q => keep b o m q)
  · have pos : 0 < xs.size := Nat.pos_of_ne_zero hz
    refine go1 (s := { s with heap := (s.heap.push { cls := .type "list_iterator", data := .fields #[.ref l, .int 0 0] }).push { cls := .type "list", data := .seq #[] 0 } }) W _ (CmpOf.ints_gt (numAt xs) (fun _ _ => intItems_at)) nS (by rw [hsz]; exact pos) (W.frame _ _ _ st fun b _ o e => Heap.get?_push_of_some _ e) (Heap.get?_push_size _ rfl) fun v g t hp keep => ?_
    rw [hsz] at hp
    exact h1 pos v g t hp (ext fun b o m z q => keep b o m (by rw [hS]; exact z) q)
end
end MaxD
namespace PD
open PySem PySem.Spec PyProof.Rows L2
variable [PD.TabC]
/-- the greatest of ints, 0 where there is none -/
def mxD : List Int → Int
  | [] => 0
  | x :: r => if x > mxD r then x else mxD r
theorem mxD_mem : ∀ {l : List Int}, mxD l = 0 ∨ mxD l ∈ l
  | [] => .inl rfl
  | y :: r => by
    rw [mxD]
    split
    · exact .inr List.mem_cons_self
    · rcases mxD_mem (l := r) with h | h
      · exact .inl h
      · exact .inr (List.mem_cons_of_mem _ h)
theorem mxD_ge : ∀ {l : List Int} {x : Int}, x ∈ l → x ≤ mxD l
  | y :: r, x, h => by
    rw [mxD]
    rcases List.mem_cons.mp h with e | h
    · rw [e]; split <;> omega
    · have := mxD_ge h
      split <;> omega
theorem mxD_one {l : List Int} {m : Int} (h : m ∈ l) (h2 : ∀ y ∈ l, y ≤ m) (p : ∀ y ∈ l, 0 ≤ y) : m = mxD l := by
  have a := mxD_ge h
  rcases mxD_mem (l := l) with e | e
  · have := p m h
    omega
  · have := h2 _ e
    omega
section
variable {X : Cx} {W : WX} {ex : Addr → Prop} {a : Expr} {ρ : List Sl}
def rMaxDef (K : PySem.W.Frag) : List V → List V → Hp → VK → Prop := fun vs zs H Q => ∃ (a : Addr) (ns : List Int), vs = [V.ref a] ∧ zs = [.int 0] ∧ SqL K H a (ns.map V.int) ∧ (∀ y ∈ ns, 0 ≤ y) ∧ Q (.int (mxD ns)) H
theorem cr_maxDef (hc : X.calm = true) : CallRK X (.builtin "max") [Str.ofString "default"] (rMaxDef X.K) := by
  intro pins s σ H vs zs us ws Q I r rz h
  obtain ⟨a, ns, rfl, rfl, hs, hp, q⟩ := h
  obtain ⟨its, rv, hl, hz⟩ := I.list hs
  obtain rfl := Vals.ref1 r
  obtain ⟨w1, rfl, t0, e1⟩ := vals1 rz
  subst e1
  have hi := rv.ints
  obtain ⟨xs, e⟩ := hi.allInts.items
  have hn : numsOf (intItems xs).toList = ns := by rw [← e]; exact hi.numsOf
  rw [nums_intItems] at hn
  have hl := hl.isList
  rw [e] at hl
  refine MaxD.call_md (I.ok.hd hc) hl (fun h0 g t keep => ⟨.int _, H, I.kept keep, ⟨t0, ?_⟩, q⟩) fun h1 v g t hv keep => ?_
  · have : ns = [] := by
      rw [← hn]
      have : xs.toList = [] := List.eq_nil_of_length_eq_zero (by rw [Array.length_toList]; exact h0)
      rw [this]; rfl
    rw [this]; rfl
  · obtain ⟨t2, rfl⟩ := intItems_at hv
    obtain ⟨b1, b2⟩ := argBest_gt (numAt xs) (xs.size - 1)
    have m1 : numAt xs (argBest (fun i j => decide (numAt xs i > numAt xs j)) (xs.size - 1)) ∈ ns := by
      rw [← hn, numAt_eq]; exact PySem.getD_mem (by rw [List.length_map, Array.length_toList]; omega)
    have m2 : ∀ y ∈ ns, y ≤ numAt xs (argBest (fun i j => decide (numAt xs i > numAt xs j)) (xs.size - 1)) := fun y hy => by
      rw [← hn] at hy
      obtain ⟨j, hj, rfl⟩ := mem_getD hy
      rw [List.length_map, Array.length_toList] at hj
      rw [← numAt_eq]; exact b2 j (by omega)
    exact ⟨.int _, H, I.kept keep, ⟨t2, by rw [mxD_one m1 m2 hp]⟩, q⟩
/-- max(.., default=0) of numbers not below 0 -/
theorem ed_maxDef {ns : List Int} {p pos kpos cpos : Pos} {m : Nat} (hc : X.calm = true) (ha : EB X W ex a ρ (ns.map .int)) (hp : ∀ y ∈ ns, 0 ≤ y) (hg : Gl X ("max" : Str)) (hm : X.mg ("max" : Str) = none) (hs : starEach [a] X.env = [(false, eval a X.env)] := by rfl)
    (he : backTo pos (starEach [a] X.env) = (false, eval a X.env) :: backTo pos (starEach [] X.env) := by rfl) (hpl : (backTo pos (starEach [a] X.env)).any (·.1) = false := by rfl) :
    ED X W ex (.Call (.Name "max" p) [a] [⟨some "default", .Constant (.int 0) m cpos, kpos⟩] pos) ρ (.int (mxD ns)) := fun B F H σ Q E c q =>
  w_e (pe_callBK (cr_maxDef hc) hg hm (by decide +kernel) (pa_cons pe_w pa_nil hs) (pk_cons pe_int pk_nil) (by decide) (by decide) he hpl (by rfl) (by rfl) (by rfl)) (ha B F H σ _ E c fun l vs F1 H1 x1 h1 i1 => by
    rw [i1.ints_eq] at h1
    exact ⟨l, ns, rfl, rfl, h1, hp, q _ F1 H1 x1 (.int _)⟩)
end
end PD

set_option maxHeartbeats 4000000
/-! sets of texts: made of a list, sorted -/
namespace PD
open PySem PySem.Spec PyProof.Rows L2
variable [PD.TabC]
def keyS (e : Int × Value) : Str := match e.2 with
  | .str k _ => k
  | _ => Str.empty
def EntS (w : World) (e : Int × Value) : Prop := ∃ k tk, e = (hashStr w k, Value.str k tk)
/-- the table's side of a set of texts: the texts l, each once -/
structure TabS' (w : World) (es : Array (Int × Value)) (t : SetTable) (l : List Str) : Prop where
  ent : ∀ e ∈ es.toList, EntS w e
  pm : (es.toList.map keyS).Perm l
  nd : l.Nodup
  room : es.size < scanBound
  fit : t.fits es.size = true
  ris : Ris t.place.toList
  led : w.params.followText "set-order" = true ∨ t.led = true
def SetS (w : World) (h : Heap) (a : Addr) (l : List Str) : Prop := ∃ o es ep t, h.get? a = some o ∧ o.ExactSet ∧ o.data = .set es ep t ∧ TabS' w es t l
theorem SetS.at {w : World} {h h' : Heap} {a : Addr} {l : List Str} (R : SetS w h a l) (k : ∀ o, h.get? a = some o → h'.get? a = some o) : SetS w h' a l :=
  let ⟨o, es, ep, t, e, r⟩ := R
  ⟨o, es, ep, t, k o e, r⟩
section
variable {P : Program} {w : World} {A : Around} {E : Value → Shared → Prop} {s : Shared} {a : Addr} {l : List Str} {k : Str} {tk : Tok}
theorem entS_elems {m : List (Int × Value)} (g : ∀ e ∈ m, EntS w e) : ElemsOf (PySem.strKind P w) m := fun e he => by
  obtain ⟨x, t, rfl⟩ := g e he
  exact ⟨⟨x, by exact strKind_is P w x t, rfl⟩, rfl⟩
theorem entS_is {e : Int × Value} (g : EntS w e) (y : Str) : (PySem.strKind P w).is y e.2 = true ↔ keyS e = y := by
  obtain ⟨x, t, rfl⟩ := g
  constructor
  · intro h
    exact (PySem.strKind P w).inj (.str x t) x y (strKind_is P w x t) h
  · rintro rfl
    exact strKind_is P w x t
/-- the table behind an addition: written down, laid anew where it is too full -/
theorem tailS {g : Bool → Sem Unit} (hg : ∀ (b : Bool) (s1 : Shared) (Q' : Unit → Shared → Prop), Q' () s1 → wpAny (model P w) A (g b) Q' E s1)
    {o : Obj} {es es1 : Array (Int × Value)} {ep : Nat} {t t2 : SetTable} (ho : s.heap.get? a = some o) (hex : o.ExactSet) (hd : o.data = .set es ep t) (T : TabS' w es1 t2 l) {wasDummy : Bool} {R : Option Bool → Shared → Prop}
    (hR : ∀ h', Heap.SameBut a s.heap h' → SetS w h' a l → R (some true) { s with heap := h' }) :
    wpAny (model P w) A (do
        storeSet a es1 t2
        if (!wasDummy && t2.tooFull) = true then do
            g (relayAll t2 es1 (SetTable.grown es1.size)).2.2
            storeSet a (relayAll t2 es1 (SetTable.grown es1.size)).1 (relayAll t2 es1 (SetTable.grown es1.size)).2.1
            pure (some true)
          else pure (some true)) R E s := by
  refine wpAny_bind (wpAny_storeSet_of ho hd ?_ (fits_of_scanBound T.room))
  have first := store_at (es' := es1) (t' := t2) ho hd
  have same := Heap.SameBut.update s.heap a (Obj.putSet es1 t2)
  by_cases full : (!wasDummy && t2.tooFull) = true
  · rw [if_pos full]
    have z1 := relayAll_perm t2 es1 (SetTable.grown es1.size)
    have z2 := relayAll_fits t2 es1 (SetTable.grown es1.size)
    have z3 := relayAll_ris t2 es1 (SetTable.grown es1.size)
    have z4 := relayAll_led t2 es1 (SetTable.grown es1.size)
    revert z1 z2 z3 z4
    generalize relayAll t2 es1 (SetTable.grown es1.size) = anew
    obtain ⟨es2, t3, gave⟩ := anew
    intro z1 z2 z3 z4
    have many : es2.size = es1.size := by rw [← Array.length_toList, z1.length_eq, Array.length_toList]
    have T2 : TabS' w es2 t3 l := ⟨fun e he => T.ent e (z1.mem_iff.mp he), (z1.map keyS).trans T.pm, T.nd, many ▸ T.room, z2, z3, T.led.imp id fun z => z4.trans z⟩
    refine wpAny_bind (hg _ _ _ (wpAny_bind (wpAny_storeSet_of first rfl ?_ (fits_of_scanBound T2.room))))
    exact wpAny_pure (hR _ (same.trans (Heap.SameBut.update _ a _)) ⟨_, es2, _, t3, store_at (es' := es2) (t' := t3) first rfl, hex, rfl, T2⟩)
  · rw [if_neg full]
    exact wpAny_pure (hR _ same ⟨_, es1, _, t2, first, hex, rfl, T⟩)
theorem setS_add {Q : Bool → Shared → Prop} (R : SetS w s.heap a l) (room : l.length + 1 < scanBound) (hQ : ∀ h' b, Heap.SameBut a s.heap h' → SetS w h' a (if k ∈ l then l else k :: l) → Q b { s with heap := h' }) :
    wpAny (model P w) A (setAddHashed a (.str k tk) ((PySem.strKind P w).hash k)) Q E s := by
  obtain ⟨o, es, ep, t, ho, hex, hd, T⟩ := R
  have own : (PySem.strKind P w).is k (.str k tk) = true := strKind_is P w k tk
  have plain : (Value.str k tk).scannable = true := rfl
  have els : ElemsOf (PySem.strKind P w) es.toList := entS_elems T.ent
  unfold setAddHashed setAddHashedIn
  refine wpAny_holding (wpAny_bind (wpAny_setState_of ho hd T.fit ?_))
  dsimp only
  rw [byScan_of plain T.room els]
  simp only [↓reduceIte]
  unfold setAddByScan
  refine wpAny_bind (wpAny_bind (wpAny_rule (wpAny_bind (wpAny_setScan_of own ho hd T.fit els ?_))))
  cases found : List.findIdx? (fun e => (PySem.strKind P w).is k e.2) es.toList with
  | some j =>
    obtain ⟨hj, pj, _⟩ := List.findIdx?_eq_some_iff_getElem.mp found
    have there : k ∈ l := T.pm.mem_iff.mp (List.mem_map.mpr ⟨_, List.getElem_mem hj, (entS_is (T.ent _ (List.getElem_mem hj)) k).mp pj⟩)
    refine wpAny_pure (wpAny_pure ?_)
    exact hQ s.heap _ (Heap.SameBut.refl a s.heap) (by rw [if_pos there]; exact ⟨o, es, ep, t, ho, hex, hd, T⟩)
  | none =>
    have not : k ∉ l := fun z => by
      obtain ⟨e, he, q⟩ := List.mem_map.mp (T.pm.mem_iff.mpr z)
      have c := List.findIdx?_eq_none_iff.mp found e he
      rw [(entS_is (T.ent e he) k).mpr q] at c
      cases c
    have rules : ∀ (b : Bool) {s1 : Shared} {Q' : Unit → Shared → Prop}, Q' () s1 → wpAny (model P w) A (match b with | true => rule "set.scan.the-table-gave-way" | false => pure ()) Q' E s1 :=
      fun b s1 Q' q => by cases b <;> first | exact wpAny_pure q | exact wpAny_rule q
    have z1 := layNew_perm t es ((PySem.strKind P w).hash k) (.str k tk)
    have z2 := layNew_fits t es ((PySem.strKind P w).hash k) (.str k tk)
    have z3 := layNew_ris t es ((PySem.strKind P w).hash k) (.str k tk) T.ris
    have z4 := layNew_led t es ((PySem.strKind P w).hash k) (.str k tk)
    revert z1 z2 z3 z4
    generalize layNew t es ((PySem.strKind P w).hash k) (.str k tk) = laid
    obtain ⟨es1, t1, wasDummy, gave⟩ := laid
    intro z1 z2 z3 z4
    dsimp only at z1 z2 z3 z4 ⊢
    rw [Array.toList_push] at z1
    have z5 : es1.toList.Perm (((PySem.strKind P w).hash k, Value.str k tk) :: es.toList) := z1.trans (List.perm_append_singleton _ _)
    have many : es1.size = l.length + 1 := by
      have e1 : (es.toList.map keyS).length = l.length := T.pm.length_eq
      rw [List.length_map, Array.length_toList] at e1
      rw [← Array.length_toList, z5.length_eq, List.length_cons, Array.length_toList, e1]
    have T1 : TabS' w es1 t1 (k :: l) := ⟨fun e he => by
        rcases List.mem_cons.mp (z5.mem_iff.mp he) with z | z
        · exact ⟨k, tk, z⟩
        · exact T.ent e z, (z5.map keyS).trans (T.pm.cons k), List.nodup_cons.mpr ⟨not, T.nd⟩, by rw [many]; exact room, z2, z3, T.led.imp id fun z => z4.trans z⟩
    have last : ∀ h', Heap.SameBut a s.heap h' → SetS w h' a (k :: l) → Q true { s with heap := h' } := fun h' sb r => hQ h' true sb (by rw [if_neg not]; exact r)
    refine wpAny_bind (rules _ ?_)
    split
    · refine wpAny_bind ?_
      rw [hashByValue_scannable 8 plain]
      refine wpAny_pure ?_
      refine tailS ?_ ho hex hd (l := k :: l) (by first | exact ⟨T1.ent, T1.pm, T1.nd, T1.room, SetTable.fits_plain_off T1.fit, T1.ris, T1.led⟩ | exact T1 | (split <;> first | exact ⟨T1.ent, T1.pm, T1.nd, T1.room, SetTable.fits_plain_off T1.fit, T1.ris, T1.led⟩ | exact T1)) ?_
      · intro b s1 Q' q; cases b <;> first | exact wpAny_pure q | exact wpAny_rule q
      · intro h' sb r; dsimp only; exact wpAny_pure (last h' sb r)
    · refine wpAny_bind (wpAny_pure ?_)
      simp only [↓reduceIte]
      refine tailS ?_ ho hex hd T1 ?_
      · intro b s1 Q' q; cases b <;> first | exact wpAny_pure q | exact wpAny_rule q
      · intro h' sb r; dsimp only; exact wpAny_pure (last h' sb r)
end
/-- each text once, the last one first -/
def onceS : List Str → List Str → List Str
  | acc, [] => acc
  | acc, x :: r => onceS (if x ∈ acc then acc else x :: acc) r
theorem onceS_snoc (x : Str) : ∀ (xs acc : List Str), onceS acc (xs ++ [x]) = if x ∈ onceS acc xs then onceS acc xs else x :: onceS acc xs
  | [], acc => rfl
  | y :: ys, acc => by
    show onceS _ (ys ++ [x]) = _
    rw [onceS_snoc x ys]; rfl
theorem onceS_len : ∀ (xs acc : List Str), (onceS acc xs).length ≤ acc.length + xs.length
  | [], acc => by simp [onceS]
  | y :: ys, acc => by
    have h := onceS_len ys (if y ∈ acc then acc else y :: acc)
    have h2 : (if y ∈ acc then acc else y :: acc).length ≤ acc.length + 1 := by split <;> simp
    show (onceS _ ys).length ≤ _
    rw [List.length_cons]
    omega
theorem onceS_mem (z : Str) : ∀ (xs acc : List Str), z ∈ onceS acc xs ↔ z ∈ acc ∨ z ∈ xs
  | [], acc => by simp [onceS]
  | y :: ys, acc => by
    show z ∈ onceS _ ys ↔ _
    rw [onceS_mem z ys, List.mem_cons]
    by_cases h : y ∈ acc
    · rw [if_pos h]
      constructor
      · rintro (a | a)
        · exact .inl a
        · exact .inr (.inr a)
      · rintro (a | rfl | a)
        · exact .inl a
        · exact .inl h
        · exact .inr a
    · rw [if_neg h, List.mem_cons]
      constructor
      · rintro ((rfl | a) | a)
        · exact .inr (.inl rfl)
        · exact .inl a
        · exact .inr (.inr a)
      · rintro (a | rfl | a)
        · exact .inl (.inr a)
        · exact .inl (.inl rfl)
        · exact .inr a
theorem onceS_nd : ∀ (xs acc : List Str), acc.Nodup → (onceS acc xs).Nodup
  | [], acc, h => h
  | y :: ys, acc, h => onceS_nd ys _ (by
    by_cases q : y ∈ acc
    · rw [if_pos q]; exact h
    · rw [if_neg q]; exact List.nodup_cons.mpr ⟨q, h⟩)
section
variable {P : Program} {w : World} {A : Around} {E : Value → Shared → Prop} {s : Shared}
theorem updS {I : Addr} {fp wr : List Addr} {G : Array GenState → Array GenState → Prop} {n : Nat} {Pv : Nat → Value → Prop} {St : Nat → Shared → Prop} {R : Result → Shared → Prop}
    (W : WalksS P w A.in1 I fp wr G n Pv St) (S : Addr) (hSf : S ∉ fp) (xs : List Str) (hn : n = xs.length) (hb : xs.length + 1 < scanBound) (hval : ∀ i v, Pv i v → ∃ k t, xs[i]? = some k ∧ v = .str k t) :
    ∀ (k i : Nat) (s : Shared), n - i = k → i ≤ n → St i s → SetS w s.heap S (onceS [] (xs.take i)) →
      (∀ s', Moved (S :: wr) G s s' → SetS w s'.heap S (onceS [] xs) → R (.ok (.ret .none)) s') → codeAny (model P w) A (.builtin "set.update.loop" ⟨[.ref S, .ref I], []⟩) R s := by
  have away : S ∉ wr := fun h => hSf (W.sub _ h)
  have more : ∀ b ∈ wr, b ∈ S :: wr := fun b hb => List.mem_cons_of_mem _ hb
  intro k
  induction k with
  | zero =>
    intro i s hk hi st hS hR
    obtain rfl : i = n := by omega
    refine codeAny_builtin F.entry_set_update_loop ?_
    rw [Around.under_plainId F.plain_set_update_loop _]
    refine wpAny_bind (m := pyNext (.ref I)) (W.done s _ _ st fun s' hm => ?_)
    rw [List.take_of_length_le (by omega)] at hS
    exact wpAny_pure (hR s' (hm.mono more) (hS.at fun o e => hm.heap S o away e))
  | succ k ih =>
    intro i s hk hi st hS hR
    have lt : i < n := by omega
    refine codeAny_builtin F.entry_set_update_loop ?_
    rw [Around.under_plainId F.plain_set_update_loop _]
    refine wpAny_bind (m := pyNext (.ref I)) (W.item i s _ _ lt st fun v s' hP st' hm => ?_)
    obtain ⟨z, t, hz, rfl⟩ := hval i v hP
    have hS1 : SetS w s'.heap S (onceS [] (xs.take i)) := hS.at fun o e => hm.heap S o away e
    refine wpAny_bind (m := holding [Value.str z t] (setAdd S (.str z t))) (wpAny_holding ?_)
    unfold setAdd
    refine wpAny_holding (wpAny_bind ((PySem.strKind P w).pyHash (k := z) (strKind_is _ _ _ _) ?_))
    have lim : (onceS [] (xs.take i)).length + 1 < scanBound := by
      have h1 := onceS_len (xs.take i) []
      have h2 : (xs.take i).length ≤ xs.length := by rw [List.length_take]; exact Nat.min_le_right _ _
      simp only [List.length_nil, Nat.zero_add] at h1
      omega
    refine setS_add (s := { s' with toks := s'.toks + 1 }) hS1 lim fun h' b sb hS2 => ?_
    have hS3 : SetS w h' S (onceS [] (xs.take (i + 1))) := by
      rw [List.take_add_one, hz]
      show SetS w h' S (onceS [] (xs.take i ++ [z]))
      rw [onceS_snoc]; exact hS2
    refine wpAny_pure ⟨plainId_quiet F.plain_set_update_loop _, ih (i + 1) _ (by omega) lt (W.frame _ s' _ _ st' (Nat.le_succ _) fun b hb o e => ?_) hS3 fun s2 hm2 hS4 => ?_⟩
    · exact (sb.2 b fun q : b = S => hSf (q ▸ hb)).trans e
    · refine hR s2 (Moved.trans W.gtrans ((hm.mono more).then_heap (Nat.le_succ _) fun b o hb e => ?_) hm2) hS4
      exact (sb.2 b fun q : b = S => hb (by rw [q]; exact List.mem_cons_self)).trans e
end
end PD

set_option maxHeartbeats 4000000
namespace PD
open PySem PySem.Spec PyProof.Rows L2
variable [PD.TabC]
section
variable {P : Program} {w : World} {A : Around} {E : Value → Shared → Prop} {s : Shared}
/-- a set that has just been made -/
abbrev bareSet (w : World) : Obj := { cls := .type "set", dict := none, data := .set #[] 0 (.fresh 0 0 (!w.params.followText "set-order")) }
theorem setS_bare {h : Heap} {a : Addr} (ho : h.get? a = some (bareSet w)) : SetS w h a [] :=
  ⟨_, #[], 0, _, ho, ⟨rfl, rfl, rfl⟩, rfl, ⟨fun e he => by simp at he, by simp, List.nodup_nil, by decide, rfl, List.Pairwise.nil, by
    show _ ∨ (!w.params.followText "set-order") = true
    cases w.params.followText "set-order" <;> first | exact .inl rfl | exact .inr rfl⟩⟩
set_option maxHeartbeats 6400000 in
theorem call_setS {l : Addr} {items : Array Value} {xs : List Str} {Q : Value → Shared → Prop} (hh : A.handled = none) (hl : s.heap.IsList l items) (hi : PyProof.Rows.StrsAre items.toList xs) (hb : xs.length + 1 < scanBound)
    (q : ∀ (h' : Heap) (tk : Nat), SetS w h' s.heap.objs.size (onceS [] xs) → (∀ b o, s.heap.get? b = some o → h'.get? b = some o) → Q (.ref s.heap.objs.size) { s with heap := h', toks := tk }) :
    wpAny (model P w) A (call (.type "set") [.ref l]) Q E s := by
  have many : items.size = xs.length := by rw [← Array.length_toList]; exact StrsAre.len_eq hi
  obtain ⟨c, tl, hmro⟩ := F.called_set.mro
  have madeF := F.called_set.made
  have subF := F.called_set.sub
  refine wpAny_call (codeAny_of_tree ?_)
  show wpAny _ _ (callAny (.type "set") ⟨[.ref l], []⟩) _ _ s
  refine wpAny_pure ⟨Code.quiet_builtin _ (by decide +kernel), codeAny_builtin PySem.F.entry_type_call ?_⟩
  rw [Around.under_plain (weight_type_call_type "set" [Value.ref l] []) rfl]
  have f1 := F.called_set.notType
  have f2 := F.called_set.canCreate
  have f3 := F.typeCall_set_1 (.ref l)
  repeat (any_goals (first | assumption | wp_step))

  refine codeAny_mono (code_set_led1 (.ref l) (E := E) (Q₁ := fun ob t => ob = .ref s.heap.objs.size ∧ t = { s with heap := s.heap.push (bareSet w) }) ⟨rfl, rfl⟩) fun r t hr => ?_
  cases r with
  | error e => exact hr
  | ok fl =>
    cases fl with
    | ret ob =>
      obtain ⟨rfl, rfl⟩ := hr
      have there : (s.heap.push (bareSet w)).get? s.heap.objs.size = some (bareSet w) := Heap.get?_push_size _ rfl
      have hT : Shared.TypeIs { s with heap := s.heap.push (bareSet w) } (.ref s.heap.objs.size) "set" := ⟨_, there, rfl⟩
      have f4 := F.called_set.init.lookup
      have f5 := F.called_set.init.bind (.ref s.heap.objs.size)
      repeat (any_goals (first | assumption | wp_step))

      refine codeAny_mono (codeAny_call_builtin (R := wants (fun r t2 => r = .none ∧ ∃ h' tk, t2 = { s with heap := h', toks := tk } ∧ SetS w h' s.heap.objs.size (onceS [] xs) ∧ ∀ b o, s.heap.get? b = some o → h'.get? b = some o) E)
        F.called_set.init.plain F.entry_set_init (check_set_init_1 hT ?_)) fun r2 t2 hr2 => ?_
      · obtain ⟨ol, hol, hcl, nl, hdl⟩ := hl
        obtain ⟨ocls, odict, odata, oslots⟩ := ol
        simp only at hcl hdl
        subst hcl; subst hdl
        have atL : (s.heap.push (bareSet w)).get? l = some { cls := .type "list", dict := odict, data := .seq items nl, slots := oslots } := Heap.get?_push_of_some _ hol
        have g1 := F.sub_list_set
        have g2 := F.sub_list_frozenset
        have g3 : (Value.type "list" == Value.type "dict") = false := by decide
        have isL : (s.heap.push (bareSet w)).IsList l items := ⟨_, atL, rfl, nl, rfl⟩
        unfold Builtin.«set.__init__» noKeywords Builtin.Frozenset.updateFrom
        generalize hPI : pyIter = PI
        wp_walk
        subst hPI

        refine wpAny_pyIter_list isL (wpAny_bind (wpAny_runValue ?_))
        have ltL : l < s.heap.objs.size := Heap.lt_size hol
        have calm3 : A.in1.in1.in1.handled = none := by simp [hh]
        have apart : l ≠ (s.heap.push (bareSet w)).objs.size := by rw [Heap.size_push]; exact Nat.ne_of_lt (Nat.lt_succ_of_lt ltL)
        have off : s.heap.objs.size ∉ [(s.heap.push (bareSet w)).objs.size, l] := by
          rw [Heap.size_push]
          intro m
          rcases List.mem_cons.mp m with z | z
          · exact absurd z (Nat.ne_of_lt (Nat.lt_succ_self _))
          · have z := List.mem_singleton.mp z
            rw [z] at ltL
            exact Nat.lt_irrefl _ ltL
        have vals : ∀ (i : Nat) (v : Value), items[i]? = some v → ∃ k t, xs[i]? = some k ∧ v = .str k t := fun i v hv => by
          have li : i < xs.length := by rw [← many]; exact (Array.getElem?_eq_some_iff.mp hv).1
          obtain ⟨t, e⟩ := SS.strs_at hi i v (by rw [Array.getElem?_toList]; exact hv)
          exact ⟨xs[i], t, List.getElem?_eq_getElem li, by rw [e, List.getD_eq_getElem?_getD, List.getElem?_eq_getElem li] <;> rfl⟩
        refine updS ((Walks.list calm3 _ l apart items).toS) s.heap.objs.size off xs many hb vals (items.size - 0) 0 _ (by omega) (Nat.zero_le _) ⟨⟨_, Heap.get?_push_size _ rfl, rfl, rfl⟩, (isL.push _)⟩ ?old ?out
        case old => exact setS_bare (Heap.get?_push_of_some _ there)
        case out =>
          intro t3 hm hS
          obtain ⟨h', g4, d4, tk4, os4⟩ := t3
          obtain rfl : g4 = s.gens := hm.gens
          obtain rfl : d4 = s.drawn := hm.drawn
          obtain rfl : os4 = s.os := hm.os
          refine wpAny_pure (wpAny_pure ⟨rfl, h', tk4, rfl, hS, fun b o e => ?_⟩)
          have lb : b < s.heap.objs.size := Heap.lt_size e
          refine hm.heap b o (fun m => ?_) (Heap.get?_push_of_some _ (Heap.get?_push_of_some _ e))
          rcases List.mem_cons.mp m with z | z
          · exact absurd z (Nat.ne_of_lt lb)
          · have z := List.mem_singleton.mp z
            rw [Heap.size_push] at z
            exact absurd z (Nat.ne_of_lt (Nat.lt_succ_of_lt lb))
      · cases r2 with
        | error e => exact hr2
        | ok fl2 =>
          cases fl2 with
          | ret r =>
            obtain ⟨rfl, h', tk, rfl, hS, hk⟩ := hr2
            repeat (any_goals (first | assumption | wp_step))
            exact q _ _ hS hk
          | _ => exact hr2.elim
    | _ => exact hr.elim
theorem strs_of : ∀ (l : List Value), (∀ v ∈ l, ∃ k tk, v = Value.str k tk) → StrsAre l (l.map fun v => keyS (0, v))
  | [], _ => .nil
  | v :: l, h => by
    obtain ⟨k, tk, rfl⟩ := h v List.mem_cons_self
    exact .cons k tk (strs_of l fun u hu => h u (List.mem_cons_of_mem _ hu))
theorem sorted_setS {a : Addr} {l : List Str} {Q : Value → Shared → Prop} (R : SetS w s.heap a l) (hh : A.handled = none)
    (q : ∀ t p (out : Array Value) (c : Nat) (ys : List Str), (∀ b o, s.heap.get? b = some o → t.heap.get? b = some o) → t.gens = s.gens → t.os = s.os → s.heap.objs.size ≤ p →
      t.heap.get? p = some (seqObj "list" out c) → StrsAre out.toList ys → ys.Perm l → sortedS ys = true → Q (.ref p) t) : wpAny (model P w) A (call (.builtin "sorted") [.ref a]) Q E s := by
  obtain ⟨o, es, ep, t, ho, hex, hd, T⟩ := R
  refine Calls.call_function_entry kind_sorted plain_sorted entry_sorted (args_sorted1 _) ?_
  unfold Builtin.«sorted»
  refine wpAny_bind (m := checkCount "sorted" 1 1 _) (wpAny_pure ?_)
  refine wpAny_bind (collect_set (A := A.in1) hh ⟨o, ho, hex.1, hd⟩ T.fit T.room T.ris T.led fun s1 vs k1 hz g1 o1 pm => ?_)
  have len : vs.length = es.size := by rw [pm.length_eq, List.length_map, Array.length_toList]
  have fits := fits_of_scanBound T.room
  have texts : StrsAre vs (vs.map fun v => keyS (0, v)) := strs_of vs fun v hv => by
    obtain ⟨e, he, z⟩ := List.mem_map.mp (pm.mem_iff.mp hv)
    obtain ⟨k, tk, rfl⟩ := T.ent e he
    exact ⟨k, tk, z.symm⟩
  have pk : (vs.map fun v => keyS (0, v)).Perm l := by
    have z := pm.map fun v => keyS (0, v)
    rw [List.map_map] at z
    exact z.trans T.pm
  refine wpAny_bind (wpAny_newList ?_ (by rw [len]; exact fits))
  have made : (s1.heap.push (seqObj "list" vs.toArray 0)).get? s1.heap.objs.size = some (seqObj "list" vs.toArray 0) := Heap.get?_push_size _ rfl
  refine wpAny_bind (wpAny_holding (wpAny_call_entry slot_list_sort ⟨_, made, rfl⟩ entry_list_sort (list_sort_treeKAny strKind_oneLt made texts.keysOf (fun a b r e => keyKind_strs (by rw [← e]; exact texts)) (by rw [len]; exact fits) fun st hp hs => ⟨_, rfl, ?_⟩) (args_list_sort _)))
  obtain ⟨ys, y1, y2, y3⟩ := sorted_out_str texts hp hs
  obtain ⟨c, hc⟩ := sortedHeap_at (vs := vs) (out := (arrOf st).map (·.2)) made
  refine wpAny_pure ⟨_, rfl, q _ s1.heap.objs.size _ c ys (fun b u e => ?_) g1 o1 hz hc y1 (y2.trans pk) y3⟩
  have old := k1 b u e
  have lt := Heap.lt_size old
  exact (sortedHeap_old (Nat.ne_of_lt lt) (by rw [size_push']; exact Nat.lt_succ_of_lt lt)).trans (Heap.get?_push_of_some _ old)
end
/-- the set of texts at a -/
def SetH (w : World) (a : Addr) (l : List Str) : HO := .ext fun h => SetS w h a l
section
variable {X : Cx} {W : WX} {ex : Addr → Prop} {a : Expr} {ρ : List Sl} {ds : List PyData} {p p2 q pos : Pos} {zs : List Str}
theorem setH_new {w : World} {P : Program} {H : Hp} {h : Heap} {a : Addr} {l : List Str} (R : SetS w h a l) : ObjOk P w H h a (SetH w a l) :=
  ⟨R, let ⟨o, _, _, _, e, _⟩ := R; ⟨o, e⟩, fun _ _ p k => SetS.at p k⟩
theorem cr_setH (hc : X.calm = true) : CallR X (.type "set") (fun vs H Q => ∃ (l : Addr) (xs : List Str), vs = [.ref l] ∧ SqL X.K H l (xs.map V.str) ∧ xs.length + 1 < scanBound ∧ ∀ p, H p = none → Q (.ref p) (upd H p (SetH X.w p (onceS [] xs)))) := by
  intro pins s σ H vs us Q I r h
  obtain ⟨l, xs, rfl, hs, hb, k⟩ := h
  obtain ⟨its, rv, hl, _⟩ := I.list hs
  rw [Vals.ref1 r]
  exact call_setS (I.ok.hd hc) hl.isList rv.strs hb fun h' tk hS hk => ⟨.ref _, _, I.laid (t' := tk) hk (Nat.le_refl _) (setH_new hS), rfl, k _ (I.hok.fresh (Nat.le_refl _))⟩
theorem cr_sortedH (hc : X.calm = true) : CallR X (.builtin "sorted") (fun vs H Q => ∃ (a : Addr) (l : List Str), vs = [.ref a] ∧ H a = some (SetH X.w a l) ∧ l.length ≤ 100000 ∧ ∀ ys p, ys.Perm l → sortedS ys = true → H p = none → Q (.ref p) (upd H p (.lst (ys.map V.str)))) := by
  intro pins s σ H vs us Q I r h
  obtain ⟨a, l, rfl, ha, hz, k⟩ := h
  have R : SetS X.w s.heap a l := (I.hok a _ ha).1
  rw [Vals.ref1 r]
  refine sorted_setS R (I.ok.hd hc) fun t p out c ys kp g o hp hg hi pm hs => ?_
  have new : H p = none := I.hok.fresh hp
  have len : (ys.map V.str).length ≤ sizeLine := by rw [List.length_map, pm.length_eq]; exact sz_le hz
  have J : Inv X pins σ (upd H p (.lst (ys.map V.str))) { s with heap := t.heap, gens := t.gens, drawn := t.drawn, toks := t.toks } :=
    I.call (ch := []) (Un.laid kp hp new) (I.hok.laid kp hp ⟨len, out.toList, c, vals_of_strs hi, hg⟩) (by rw [g]; exact I.bare) (fun _ z => nomatch z)
  have e : t = { s with heap := t.heap, gens := t.gens, drawn := t.drawn, toks := t.toks } := by
    cases t
    cases s
    cases o
    rfl
  rw [e]
  exact ⟨.ref p, _, J, rfl, k ys p pm hs new⟩
/-- sorted(set(xs)), texts -/
theorem el_sortSet (hc : X.calm = true) (ha : EB X W ex a ρ (zs.map .str)) (hz : zs.length ≤ 4000) (hg : Gl X ("sorted" : Str)) (hm : X.mg ("sorted" : Str) = none) (hg2 : Gl X ("set" : Str)) (hm2 : X.mg ("set" : Str) = none)
    (u : ∀ ys : List Str, ys.Nodup → (∀ z, z ∈ ys ↔ z ∈ zs) → PyProof.Rows.sortedS ys = true → ds = ys.map .str)
    (hs : starEach [a] X.env = [(false, eval a X.env)] := by rfl) : EL X W ex (.Call (.Name "sorted" p) [.Call (.Name "set" p2) [a] [] q] [] pos) ρ ds := fun B F H σ Q E c k =>
  w_e (pe_callB (cr_sortedH hc) hg hm (by decide +kernel) (pa_cons (pe_callTy (cr_setH hc) hg2 hm2 (by decide +kernel) (pa_cons pe_w pa_nil hs) (by decide) (by decide) hs (by rfl)) pa_nil) (by decide) (by decide) rfl (by rfl)) (ha B F H σ _ E c fun l vs F1 H1 x1 h1 i1 => by
    rw [i1.strs_eq] at h1
    refine ⟨l, zs, rfl, h1, by unfold scanBound; omega, fun r hr => ⟨r, onceS [] zs, rfl, upd_same, ?_, fun ys r2 hp hsrt hr2 => ?_⟩⟩
    · have h := onceS_len zs []
      simp only [List.length_nil, Nat.zero_add] at h
      omega
    · have x2 := Ext.kept (o := SetH X.w r (onceS [] zs)) x1.i hr
      have x3 := Ext.kept (o := .lst (ys.map V.str)) x2.i hr2
      have e := u ys (hp.nodup_iff.mpr (onceS_nd zs [] List.nodup_nil)) (fun z => by rw [hp.mem_iff, onceS_mem]; simp) hsrt
      rw [e] at k
      exact k r2 _ F1 _ (x1.trans (x2.trans x3)) (x1.h.back (x2.h.back hr2)) (x1.i.back (x2.h.back hr2)) upd_same (IsAll.strs ys))
end
end PD

set_option maxHeartbeats 4000000
/-! while; x.pop(i); list(d), len(d), len(set(..)); sorted(texts, reverse=True). -/
namespace PD
open PySem PySem.Spec PyProof.Rows L2
variable [PD.TabC]
section
variable {X : Cx} {W : WX} {ex : Addr → Prop} {a c e : Expr} {ρ : List Sl} {d : PyData} {ds ds1 ds2 : List PyData} {body : List Stmt} {pos p p2 p3 p4 q q2 apos apos2 : Pos} {T : De} {n n1 n2 : Str} {i i1 i2 j : Nat} {l l1 l2 : Addr} {zs : List Str} {kvs : List (Str × PyData)}
theorem sd_while (I : List Sl → Prop) (μ : List Sl → Nat) (hp : PassesOwn (model X.prog X.w) X.A X.env X.xe) (h0 : I ρ)
    (h : ∀ ρ', I ρ' → ∃ k, ET X W (fun C => T.ex C ρ') c ρ' k ∧ (k = true → SDs X W body ρ' { T with nx := fun ρ2 => I ρ2 ∧ μ ρ2 < μ ρ', ct := fun ρ2 => I ρ2 ∧ μ ρ2 < μ ρ', bk := T.nx }) ∧ (k = false → T.nx ρ')) : SD X W (.While c body [] pos) ρ T := fun F0 H0 F H σ D s l => by
  refine w_s (ps_while hp pt_w pss_w) ⟨fun m σ' H' => ∃ F' ρ', m = μ ρ' ∧ I ρ' ∧ S2 X.K F0 H0 F' H' σ' ρ', ⟨_, F, ρ, rfl, h0, s⟩, ?_⟩
  rintro m σ' H' ⟨F', ρ', rfl, hI, s'⟩
  obtain ⟨k, hc, h1, h2⟩ := h ρ' hI
  refine hc H0 F' H' σ' _ s'.e (l.xc s') fun F1 H1 x1 => ?_
  have s1 := s'.go x1
  cases k with
  | false => exact iteF (l.nx ρ' σ' F1 H1 (h2 rfl) s1)
  | true =>
    refine iteT ⟨fun σ2 H2 => ∃ F2 ρ2, (I ρ2 ∧ μ ρ2 < μ ρ') ∧ S2 X.K F0 H0 F2 H2 σ2 ρ2, fun σ2 H2 ⟨F2, ρ2, ⟨a1, a2⟩, a3⟩ => ⟨μ ρ2, a2, F2, ρ2, rfl, a1, a3⟩, ?_⟩
    refine h1 rfl F1 H0 F1 H1 σ' _ ⟨s1.x.at, s1.e⟩ ?_
    have l' := l.re s1.x
    have nx : ∀ ρ2 σ2 F2 H2, (I ρ2 ∧ μ ρ2 < μ ρ') → S2 X.K F1 H0 F2 H2 σ2 ρ2 → ∃ F3 ρ3, (I ρ3 ∧ μ ρ3 < μ ρ') ∧ S2 X.K F0 H0 F3 H2 σ2 ρ3 := fun ρ2 σ2 F2 H2 q s2 => ⟨F2, ρ2, q, s2.on s1.x⟩
    exact ⟨nx, l'.rt, l'.rl, l'.nx, nx, l'.ex, l'.ro⟩
theorem En.ow {K : PySem.W.Frag} {B F H : Hp} {σ : L2.St} (E : En K B F H σ ρ) (hi : ρ[i]? = some (.ow l ds)) : σ[i]? = some (some (.ref l)) ∧ F l = none ∧ B l = none ∧ ∃ vs, H l = some (.lst vs) ∧ IsAll K F vs ds := by
  obtain ⟨o, e1, h⟩ := E.s i _ hi
  cases o with
  | none => exact h.elim
  | some v =>
    obtain ⟨rfl, a, b, c⟩ := h
    exact ⟨e1, a, b, c⟩
/-- x.pop(e), the answer dropped -/
theorem sd_popAt {k : Int} (hN : X.N[i]? = some n) (hv : Vis X.env.scope n) (hi : ρ[i]? = some (.ow l ds)) (h : ED X W (fun C => T.ex C ρ) e ρ (.int k)) (hk : -(2 ^ 63) ≤ k ∧ k < 2 ^ 63) (hj : seqIndex? k ds.length = some j) (hd : ds[j]? = some d) (q : T.nx (ρ.set i (.ow l (ds.eraseIdx j))))
    (hdb : (n == ("__debug__" : Str)) = false := by decide) (hcd : (n == ("__classdict__" : Str)) = false := by decide) (hs : starEach [e] X.env = [(false, eval e X.env)] := by rfl) (hb : attributeBase (.Name n p2) "pop" X.env (eval (.Name n p2) X.env) = eval (.Name n p2) X.env := by rfl)
    (ha : (((backTo p (starEach [e] X.env)).all (fun x => !x.1) && (backToKw p (keywordEach [] X.env)).all (fun x => x.1.isSome)) && decide (([e].length + ([] : List Keyword).length + if ([] : List Keyword).isEmpty = true then 0 else 1) < 30)) = true := by rfl)
    (hl : (apos.endLine == p.line) = true := by rfl) (hz2 : (backTo p (starEach [] X.env)).any (·.1) = false := by rfl)
    (hw : swapsWith (.Call (.Attribute (.Name n p2) "pop" apos) [e] [] p) none pos.line X.env = pure false := by rfl) : SD X W (.Expr (.Call (.Attribute (.Name n p2) "pop" apos) [e] [] p) pos) ρ T := fun F0 H0 F H σ D s lk => by
  obtain ⟨e1, hf, hb0, vs, hh, a0⟩ := s.e.ow hi
  refine w_s (ps_expr (pe_bm PySem.F.plainAttrs_list PySem.F.slot_list_pop PySem.F.type_list_pop mt_popAt (pe_var hN hv hdb hcd) (pa_cons pe_w pa_nil hs) hb ha hl hs hz2) hw) ⟨_, e1, .inl ⟨rfl, vs, SqL.of hh⟩, ?_⟩
  refine h H0 F H σ _ s.e (lk.xc s) fun v2 F1 H1 x1 i1 => ?_
  have hh1 := x1.h.g hh
  have s1 := s.go x1
  have a1 := a0.mono x1.f
  obtain ⟨y, hy, _⟩ := a1.get hd
  refine ⟨l, vs, k, j, y, rfl, by rw [i1.int_eq], hh1, hk.1, hk.2, by rw [a1.len]; exact hj, hy, ?_⟩
  have E2 := s1.e.wr (es := ds.eraseIdx j) hi (a1.erase j)
  exact lk.nx _ σ F1 _ q ⟨⟨s1.x.f, s1.x.h.mut hb0, E2.i, s1.x.n, s1.x.t.mut hh1⟩, E2⟩
/-- x.append(y.pop(e)) -/
theorem sd_appPop {k : Int} (hN1 : X.N[i1]? = some n1) (hv1 : Vis X.env.scope n1) (hi1 : ρ[i1]? = some (.ow l1 ds1)) (hN2 : X.N[i2]? = some n2) (hv2 : Vis X.env.scope n2) (hi2 : ρ[i2]? = some (.ow l2 ds2)) (h12 : i1 ≠ i2)
    (h : ED X W (fun C => T.ex C ρ) e ρ (.int k)) (hk : -(2 ^ 63) ≤ k ∧ k < 2 ^ 63) (hj : seqIndex? k ds2.length = some j) (hd : ds2[j]? = some d) (hz : ds1.length < 100000) (q : T.nx ((ρ.set i2 (.ow l2 (ds2.eraseIdx j))).set i1 (.ow l1 (ds1 ++ [d]))))
    (d1 : (n1 == ("__debug__" : Str)) = false := by decide) (d2 : (n1 == ("__classdict__" : Str)) = false := by decide) (d3 : (n2 == ("__debug__" : Str)) = false := by decide) (d4 : (n2 == ("__classdict__" : Str)) = false := by decide)
    (hs : starEach [e] X.env = [(false, eval e X.env)] := by rfl) (hb : attributeBase (.Name n2 p2) "pop" X.env (eval (.Name n2 p2) X.env) = eval (.Name n2 p2) X.env := by rfl)
    (ha : (((backTo p (starEach [e] X.env)).all (fun x => !x.1) && (backToKw p (keywordEach [] X.env)).all (fun x => x.1.isSome)) && decide (([e].length + ([] : List Keyword).length + if ([] : List Keyword).isEmpty = true then 0 else 1) < 30)) = true := by rfl)
    (hl : (apos.endLine == p.line) = true := by rfl) (hz2 : (backTo p (starEach [] X.env)).any (·.1) = false := by rfl)
    (hs2 : starEach [.Call (.Attribute (.Name n2 p2) "pop" apos) [e] [] p] X.env = [(false, eval (.Call (.Attribute (.Name n2 p2) "pop" apos) [e] [] p) X.env)] := by rfl) (hb2 : attributeBase (.Name n1 p3) "append" X.env (eval (.Name n1 p3) X.env) = eval (.Name n1 p3) X.env := by rfl)
    (ha2 : (((backTo p4 (starEach [.Call (.Attribute (.Name n2 p2) "pop" apos) [e] [] p] X.env)).all (fun x => !x.1) && (backToKw p4 (keywordEach [] X.env)).all (fun x => x.1.isSome)) && decide (([Expr.Call (.Attribute (.Name n2 p2) "pop" apos) [e] [] p].length + ([] : List Keyword).length + if ([] : List Keyword).isEmpty = true then 0 else 1) < 30)) = true := by rfl)
    (hl2 : (apos2.endLine == p4.line) = true := by rfl) (hz3 : (backTo p4 (starEach [] X.env)).any (·.1) = false := by rfl)
    (hw : swapsWith (.Call (.Attribute (.Name n1 p3) "append" apos2) [.Call (.Attribute (.Name n2 p2) "pop" apos) [e] [] p] [] p4) none pos.line X.env = pure false := by rfl) :
    SD X W (.Expr (.Call (.Attribute (.Name n1 p3) "append" apos2) [.Call (.Attribute (.Name n2 p2) "pop" apos) [e] [] p] [] p4) pos) ρ T := fun F0 H0 F H σ D s lk => by
  obtain ⟨e1, hf1, hb1, vs1, hh1, a1⟩ := s.e.ow hi1
  obtain ⟨e2, hf2, hb2', vs2, hh2, a2⟩ := s.e.ow hi2
  have ne : l1 ≠ l2 := fun z => h12 (s.e.d i1 i2 _ _ l1 hi1 hi2 (List.mem_singleton.mpr rfl) (List.mem_singleton.mpr z))
  refine w_s (ps_expr (pe_bm PySem.F.plainAttrs_list PySem.F.slot_list_append PySem.F.type_list_append mt_append (pe_var hN1 hv1 d1 d2) (pa_cons (pe_bm PySem.F.plainAttrs_list PySem.F.slot_list_pop PySem.F.type_list_pop mt_popAt (pe_var hN2 hv2 d3 d4) (pa_cons pe_w pa_nil hs) hb ha hl hs hz2) pa_nil hs2) hb2 ha2 hl2 hs2 hz3) hw) ⟨_, e1, .inl ⟨rfl, vs1, SqL.of hh1⟩, _, e2, .inl ⟨rfl, vs2, SqL.of hh2⟩, ?_⟩
  refine h H0 F H σ _ s.e (lk.xc s) fun v2 F1 H1 x1 iv => ?_
  have s1 := s.go x1
  have b1 := a1.mono x1.f
  have b2 := a2.mono x1.f
  obtain ⟨y, hy, iy⟩ := b2.get hd
  have g1 := x1.h.g hh1
  have g2 := x1.h.g hh2
  refine ⟨l2, vs2, k, j, y, rfl, by rw [iv.int_eq], g2, hk.1, hk.2, by rw [b2.len]; exact hj, hy, ?_⟩
  have g3 : upd H1 l2 (.lst (vs2.eraseIdx j)) l1 = some (.lst vs1) := (upd_ne ne).trans g1
  refine ⟨l1, vs1, y, rfl, rfl, g3, Nat.lt_of_lt_of_le (by rw [b1.len]; exact hz) (by decide), ?_⟩
  have E2 := s1.e.wr (es := ds2.eraseIdx j) hi2 (b2.erase j)
  have hi1' : (ρ.set i2 (.ow l2 (ds2.eraseIdx j)))[i1]? = some (.ow l1 ds1) := by rw [List.getElem?_set_ne (Ne.symm h12)]; exact hi1
  have E3 := E2.wr (es := ds1 ++ [d]) hi1' (b1.append (.cons iy .nil))
  exact lk.nx _ σ F1 _ q ⟨⟨s1.x.f, (s1.x.h.mut hb2').mut hb1, E3.i, s1.x.n, (s1.x.t.mut g2).mut g3⟩, E3⟩
/-- list(d): the keys -/
theorem KvIs.keys {K : PySem.W.Frag} {F : Hp} : ∀ {vs : List (Key × V)} {kvs : List (Str × PyData)}, KvIs K F vs kvs → vs.map (fun kv => kV kv.1) = kvs.map fun p => V.str p.1
  | _, _, .nil => rfl
  | _, _, .cons h t => by
    rw [List.map_cons, List.map_cons, KvIs.keys t, h.1]; rfl
theorem el_keys (hc : X.calm = true) (ha : EDr X W ex a ρ kvs) (hg : Gl X ("list" : Str)) (hm : X.mg ("list" : Str) = none) (hs : starEach [a] X.env = [(false, eval a X.env)] := by rfl) : EL X W ex (.Call (.Name "list" p) [a] [] pos) ρ (kvs.map fun p => .str p.1) := fun B F H σ Q E c q =>
  w_e (pe_callTy (call_list_dK hc) hg hm (by decide +kernel) (pa_cons pe_w pa_nil hs) (by decide) (by decide) hs (by rfl)) (ha B F H σ _ E c fun l vs F1 H1 x1 h1 kv => by
    refine ⟨l, vs, rfl, h1, fun r hr => ?_⟩
    have x2 := Ext.kept (o := .lst (vs.map fun kv => kV kv.1)) x1.i hr
    refine q r _ F1 _ (x1.trans x2) (x1.h.back hr) (x1.i.back hr) upd_same ?_
    rw [kv.keys]
    have e : kvs.map (fun p => V.str p.1) = (kvs.map (·.1)).map V.str := by rw [List.map_map]; rfl
    have e2 : kvs.map (fun p => PyData.str p.1) = (kvs.map (·.1)).map PyData.str := by rw [List.map_map]; rfl
    rw [e, e2]
    exact IsAll.strs _)
/-- len(d) -/
theorem ed_lenD (ha : EDr X W ex a ρ kvs) (hg : Gl X ("len" : Str)) (hm : X.mg ("len" : Str) = none) (hs : starEach [a] X.env = [(false, eval a X.env)] := by rfl) : ED X W ex (.Call (.Name "len" p) [a] [] pos) ρ (.int kvs.length) := fun B F H σ Q E c q =>
  w_e (pe_callB call_lenD hg hm PySem.boot_len (pa_cons pe_w pa_nil hs) (by decide) (by decide) hs (by rfl)) (ha B F H σ _ E c fun l vs F1 H1 x1 h1 kv => ⟨l, vs, rfl, h1, by
    rw [kv.len]; exact q _ F1 H1 x1 (.int _)⟩)
/-- len of a set of texts -/
theorem cr_lenSet : CallR X (.builtin "len") (fun vs H Q => ∃ (a : Addr) (l : List Str), vs = [.ref a] ∧ H a = some (SetH X.w a l) ∧ Q (.int l.length) H) := by
  intro pins s σ H vs us Q I r h
  obtain ⟨a, l, rfl, ha, q⟩ := h
  obtain ⟨⟨o, es, ep, t, ho, hex, hd, T⟩, _⟩ := I.hok a _ ha
  rw [Vals.ref1 r]
  have hz : es.size = l.length := by
    have := T.pm.length_eq
    rw [List.length_map, Array.length_toList] at this
    exact this
  have room := T.room
  refine call_len_set ho hex hd T.fit (by unfold scanBound at room; omega) ⟨.int l.length, H, I.tok _, ⟨s.toks + 1, by rw [hz]⟩, q⟩
theorem ed_lenSet (hc : X.calm = true) (ha : EB X W ex a ρ (zs.map .str)) (hz : zs.length ≤ 4000) (hg : Gl X ("len" : Str)) (hm : X.mg ("len" : Str) = none) (hg2 : Gl X ("set" : Str)) (hm2 : X.mg ("set" : Str) = none)
    (hs : starEach [a] X.env = [(false, eval a X.env)] := by rfl) : ED X W ex (.Call (.Name "len" p) [.Call (.Name "set" p2) [a] [] q] [] pos) ρ (.int (onceS [] zs).length) := fun B F H σ Q E c k =>
  w_e (pe_callB cr_lenSet hg hm PySem.boot_len (pa_cons (pe_callTy (cr_setH hc) hg2 hm2 (by decide +kernel) (pa_cons pe_w pa_nil hs) (by decide) (by decide) hs (by rfl)) pa_nil) (by decide) (by decide) rfl (by rfl)) (ha B F H σ _ E c fun l vs F1 H1 x1 h1 i1 => by
    rw [i1.strs_eq] at h1
    refine ⟨l, zs, rfl, h1, by unfold scanBound; omega, fun r hr => ⟨r, onceS [] zs, rfl, upd_same, ?_⟩⟩
    have x2 := Ext.kept (o := SetH X.w r (onceS [] zs)) x1.i hr
    exact k _ F1 _ (x1.trans x2) (.int _))
end
theorem nd_le : ∀ {l m : List Str}, l.Nodup → (∀ x ∈ l, x ∈ m) → l.length ≤ m.length
  | [], _, _, _ => Nat.zero_le _
  | x :: r, m, h, s => by
    have hx := s x List.mem_cons_self
    have h2 := List.nodup_cons.mp h
    have q := nd_le (m := m.erase x) h2.2 fun y hy => by
      refine (List.mem_erase_of_ne fun e => ?_).mpr (s y (List.mem_cons_of_mem _ hy))
      rw [e] at hy
      exact h2.1 hy
    rw [List.length_erase_of_mem hx] at q
    have : 0 < m.length := List.length_pos_of_mem hx
    rw [List.length_cons]
    omega
theorem nd_back : ∀ {l m : List Str}, l.Nodup → (∀ x ∈ l, x ∈ m) → m.length ≤ l.length → m.Nodup
  | [], m, _, _, h => by
    rw [List.eq_nil_of_length_eq_zero (Nat.le_zero.mp h)]
    exact List.nodup_nil
  | x :: r, m, h, s, hl => by
    have hx := s x List.mem_cons_self
    have h2 := List.nodup_cons.mp h
    have pos : 0 < m.length := List.length_pos_of_mem hx
    have sub : ∀ y ∈ r, y ∈ m.erase x := fun y hy => by
      refine (List.mem_erase_of_ne fun e => ?_).mpr (s y (List.mem_cons_of_mem _ hy))
      rw [e] at hy
      exact h2.1 hy
    rw [List.length_cons] at hl
    have nd := nd_back h2.2 sub (by rw [List.length_erase_of_mem hx]; omega)
    have nx : x ∉ m.erase x := fun z => by
      have := nd_le h fun y hy => by
        rcases List.mem_cons.mp hy with e | hy
        · rw [e]; exact z
        · exact sub y hy
      rw [List.length_cons, List.length_erase_of_mem hx] at this
      omega
    exact (List.perm_cons_erase hx).nodup_iff.mpr (List.nodup_cons.mpr ⟨nx, nd⟩)
/-- fewer than there are names: one stands twice -/
theorem once_lt (zs : List Str) : decide (((onceS [] zs).length : Int) < (zs.length : Int)) = !decide zs.Nodup := by
  by_cases h : zs.Nodup
  · have q := nd_le h fun x hx => (onceS_mem x zs []).mpr (.inr hx)
    rw [decide_eq_true h]
    exact decide_eq_false (by omega)
  · rw [decide_eq_false h]
    refine decide_eq_true ?_
    refine Decidable.byContradiction fun q => h ?_
    exact nd_back (onceS_nd zs [] List.nodup_nil) (fun x hx => by simpa using (onceS_mem x zs []).mp hx) (by omega)
/-! texts, the greatest first -/
def fallS (zs : List Str) : List Str := (LW.sortS zs).reverse
theorem fallS_perm (zs : List Str) : (fallS zs).Perm zs := (List.reverse_perm _).trans (LW.sortS_perm zs)
end PD
namespace LamK
variable [PD.TabC]
open PySem PySem.Spec PyProof.Rows L2 LamX SrtO Srt PD
theorem strs_sortable {prog : Program} {w : World} {A : Around} {s : Shared} {a : Addr} {vs : List Value} {ss : List Str} (hI : StrsAre vs ss) (h2 : 2 ≤ vs.length) : SortableO prog w A s a vs ltVS := fun h' _ => by
  have all : ∀ v ∈ vs, ∃ x t, v = Value.str x t := fun v hv => hI.all v hv
  refine ⟨oneType', fun Q E hq => ?_, fun p q hp hq => ?_⟩
  · match vs, hI, h2 with
    | v1 :: v2 :: rest, hI, _ =>
      rw [keyKind_strs hI]
      exact wpAny_pure hq
    | [], _, h => exact absurd h (by decide)
    | [v], _, h => exact absurd h (by simp)
  · obtain ⟨x, t, e⟩ := all _ hp
    obtain ⟨y, u, e'⟩ := all _ hq
    show wpAny (model prog w) A (keyLt' oneType' p.1 q.1) (fun r s' => s' = { s with heap := h' } ∧ r = ltVS p.1 q.1) (fun _ _ => False) _
    rw [e, e', keyLt'_oneType]
    exact oneLt_str ⟨rfl, rfl⟩
theorem strs_fall {vs out : List Value} {ss : List Str} (hI : StrsAre vs ss) (hs : Srtd ltVS out) (hb : Stb ltVS out vs.reverse) : StrsAre out.reverse (fallS ss) := by
  have pm : out.reverse.Perm vs := (List.reverse_perm _).trans (hb.perm.trans (List.reverse_perm _))
  have all : ∀ v ∈ out.reverse, ∃ x t, v = Value.str x t := fun v hv => hI.all v (pm.mem_iff.mp hv)
  have q := strsAre_map out.reverse all
  have e : out.reverse.map strOf = fallS ss := by
    have p1 : (out.map strOf).Perm ss := by
      have := ((List.reverse_perm out).symm.trans pm).map strOf
      rw [hI.strs] at this
      exact this
    have p2 : (out.map strOf).Pairwise fun a b => ¬ LW.cs b < LW.cs a := List.pairwise_map.mpr (hs.imp fun {x y} h => of_decide_eq_false h)
    have e1 : out.map strOf = LW.sortS ss := List.Perm.eq_of_pairwise (fun a b _ _ h k => LW.cs_ext (LW.le_as h k)) p2 (LW.sortS_pw ss) (p1.trans (LW.sortS_perm ss).symm)
    rw [List.map_reverse, e1]; rfl
  rw [e] at q
  exact q
section
variable {X : Cx} {W : WX} {ex : Addr → Prop} {a : Expr} {ρ : List Sl} {zs : List Str}
def rFall (K : PySem.W.Frag) : List V → List V → Hp → VK → Prop := fun vs us H Q => ∃ (a : Addr) (ns : List Str), vs = [V.ref a] ∧ us = [.bl true] ∧ SqL K H a (ns.map V.str) ∧ ∀ p : Addr, H p = none → Q (.ref p) (upd H p (.lst ((fallS ns).map V.str)))
theorem cr_fall : CallRK X (.builtin "sorted") [Str.ofString "reverse"] (rFall X.K) := by
  intro pins s σ H vs zs us ws Q I r rz h
  obtain ⟨a, ns, rfl, rfl, hs, q⟩ := h
  obtain rfl := Vals.ref1 r
  obtain ⟨w1, rfl, e1⟩ := vals1 rz
  obtain rfl : w1 = Value.bool true := e1
  obtain ⟨its, rv, hl, hz⟩ := I.list hs
  have hi := rv.strs
  refine SrtR.sorted_ordK (b := true) (fun _ => rfl) (PyProof.Rows.args_sorted_rev _ _) (fun _ => PyProof.Rows.args_list_sort_rev _ _) KeyK.str.swo hl.isList (by rw [← rv.length]; exact hz) (fun h2 h₁ a' _ _ => strs_sortable hi h2) fun out h1 h2 => ?_
  obtain ⟨ep, he'⟩ := PyProof.Rows.sortedAll_at s.heap its (if true = true then out.toArray.reverse else out.toArray)
  have k1 := strs_fall hi h1 h2
  have hlen : ((fallS ns).map V.str).length ≤ sizeLine := by
    rw [List.length_map, (fallS_perm ns).length_eq]
    rw [List.length_map] at hz
    exact hz
  have e0 : ((if true = true then out.toArray.reverse else out.toArray).toList).toArray = (if true = true then out.toArray.reverse else out.toArray) := by rw [Array.toArray_toList]
  have e2 : (if true = true then out.toArray.reverse else out.toArray).toList = out.reverse := by rw [if_pos rfl, Array.toList_reverse]
  exact ⟨.ref _, upd H (s.heap.objs.size + 1) (.lst ((fallS ns).map V.str)), I.laid (t' := s.toks) (fun _ _ => PyProof.Rows.sortedAll_old) (Nat.le_succ _) ⟨hlen, (if true = true then out.toArray.reverse else out.toArray).toList, ep, by rw [e2]; exact vals_of_strs k1, by rw [e0]; exact he'⟩, rfl, q _ (I.hok.fresh (Nat.le_succ _))⟩
/-- sorted(texts, reverse=True) -/
theorem el_fall {p pos kpos cpos : Pos} {m : Nat} (ha : EB X W ex a ρ (zs.map .str)) (hg : Gl X ("sorted" : Str)) (hm : X.mg ("sorted" : Str) = none) (hs : starEach [a] X.env = [(false, eval a X.env)] := by rfl)
    (he : backTo pos (starEach [a] X.env) = (false, eval a X.env) :: backTo pos (starEach [] X.env) := by rfl) (hpl : (backTo pos (starEach [a] X.env)).any (·.1) = false := by rfl) :
    EL X W ex (.Call (.Name "sorted" p) [a] [⟨some "reverse", .Constant (.bool true) m cpos, kpos⟩] pos) ρ ((fallS zs).map .str) := fun B F H σ Q E c q =>
  w_e (pe_callBK cr_fall hg hm (by decide +kernel) (pa_cons pe_w pa_nil hs) (pk_cons pe_bl pk_nil) (by decide) (by decide) he hpl (by rfl) (by rfl) (by rfl)) (ha B F H σ _ E c fun l vs F1 H1 x1 h1 i1 => by
    rw [i1.strs_eq] at h1
    refine ⟨l, zs, rfl, rfl, h1, fun r hr => ?_⟩
    have x2 := Ext.kept (o := .lst ((fallS zs).map V.str)) x1.i hr
    exact q r _ F1 _ (x1.trans x2) (x1.h.back hr) (x1.i.back hr) upd_same (IsAll.strs _))
end
end LamK

set_option maxHeartbeats 4000000
/-! A def that walks the pairs of a dict and may raise meanwhile. -/
namespace PD
open PySem PySem.Spec PyProof.Rows L2
variable [PD.TabC]
/-- a dict of the caller's, locked -/
def bdf (K : PySem.W.Frag) (ob : Obj) (kvs : List (Str × PyData)) : Sl := .rb fun v F H => ∃ l vs, v = .ref l ∧ H l = some (.frz ob (.dK vs)) ∧ KvIs K F vs kvs
section
variable {K : PySem.W.Frag} {B F F' H H' : Hp} {σ : L2.St} {ρ : List Sl} {P : OP}
theorem En.bdf {i : Nat} {ob : Obj} {kvs : List (Str × PyData)} (E : En K B F H σ ρ) (h : ρ[i]? = some (PD.bdf K ob kvs)) : ∃ l vs, σ[i]? = some (some (.ref l)) ∧ B l = some (.frz ob (.dK vs)) ∧ KvIs K F vs kvs := by
  obtain ⟨o, e, ok⟩ := E.s i _ h
  cases o with
  | none => exact ok.elim
  | some v =>
    obtain ⟨l, vs, rfl, hl, kv⟩ := ok F B (Ex.refl F) (Ex.refl B)
    exact ⟨l, vs, e, hl, kv⟩
/-- what is one's own is lost -/
theorem En.drop {i : Nat} {fp : List Addr} (E : En K B F H σ ρ) (h : ρ[i]? = some (PD.og fp P)) : En K B F (un H fp) σ (ρ.set i .un) := by
  obtain ⟨v, e1, _, q⟩ := E.og h
  have ub : ∀ {a : Addr}, a ∉ fp → un H fp a = H a := fun {a} m => by unfold un; exact if_neg m
  have bi : ∀ a ∈ fp, un H fp a = none := fun a m => by unfold un; exact if_pos m
  have ex : ∀ {G : Hp}, Ex G H → (∀ a ∈ fp, G a = none) → Ex G (un H fp) := fun {G} x n => ⟨fun a o e k => by
    rw [ub fun m => by rw [n a m] at e; cases e]
    exact x.k a o e k, fun a e => by
    rw [ub fun m => e (n a m)]
    exact x.d a e⟩
  refine ⟨ex E.i fun a ha => (q a ha).1, ex E.b fun a ha => (q a ha).2.1, fun j t e => ?_, fun x y t w b ea eb ha hb => ?_, tabs_un (fun a ha => (q a ha).2.2) E.t⟩
  · rcases set_at e with ⟨rfl, _, rfl⟩ | ⟨z, e⟩
    · exact ⟨_, e1, trivial⟩
    · obtain ⟨o2, e2, h2⟩ := E.s j t e
      exact ⟨o2, e2, h2.mut fun b hb => ub fun m => z (E.d i j _ t b h e m hb)⟩
  · have back : ∀ (z : Nat) (s' : Sl), (ρ.set i .un)[z]? = some s' → b ∈ s'.fp → ρ[z]? = some s' := fun z s' e m => by
      rcases set_at e with ⟨rfl, _, rfl⟩ | ⟨_, e⟩
      · exact nomatch m
      · exact e
    exact E.d x y t w b (back x t ea ha) (back y w eb hb) ha hb
end
section
variable {X : Cx} {W : WX} {ex : Addr → Prop} {a e : Expr} {ρ : List Sl} {d : PyData} {body : List Stmt} {elts : List Expr} {kk : Nat} {pos p p2 tpos apos cpos : Pos} {T : De} {n : Str} {i0 : Nat} {ob : Obj} {kvs : List (Str × PyData)} {k : Str}
theorem KvIs.at {K : PySem.W.Frag} {F : Hp} : ∀ {vs : List (Key × V)} {kvs : List (Str × PyData)} {i : Nat} {k : Key} {v : V}, KvIs K F vs kvs → vs[i]? = some (k, v) → ∃ z d, kvs[i]? = some (z, d) ∧ k = .inr z ∧ Is K F v d
  | _, _, _, _, _, .nil, e => by simp at e
  | _, _, 0, _, _, .cons (b := (z, d)) h _, e => by
    cases e
    exact ⟨z, d, rfl, h.1, h.2⟩
  | _, _, i + 1, _, _, .cons _ t, e => KvIs.at (i := i) t e
/-- for k, v in d.items() -/
theorem sd_items {f : List Sl → PyData → List Sl → Prop} (I : Nat → List Sl → Prop) (hp : PassesOwn (model X.prog X.w) X.A X.env X.xe) (hc : X.calm = true) (g : GU X (.Tuple elts kk tpos) f) (hN : X.N[i0]? = some n) (hv : Vis X.env.scope n) (hi : ρ[i0]? = some (bdf X.K ob kvs)) (h0 : I 0 ρ)
    (hs : ∀ i z d ρ1, kvs[i]? = some (z, d) → I i ρ1 → ∃ ρ2, f ρ1 (.tuple [.str z, d]) ρ2 ∧ SDs X W body ρ2 { T with nx := I (i + 1), ct := I (i + 1), bk := T.nx }) (hd : ∀ ρ', I kvs.length ρ' → T.nx ρ')
    (hdb : (n == ("__debug__" : Str)) = false := by decide) (hcd : (n == ("__classdict__" : Str)) = false := by decide) (hbase : attributeBase (.Name n p) "items" X.env (eval (.Name n p) X.env) = eval (.Name n p) X.env := by rfl) (hline : (apos.endLine == cpos.line) = true := by rfl)
    (hf : ∀ x, foldedSetIterable (.Call (.Attribute (.Name n p) "items" apos) [] [] cpos) X.env x = pure x := by intro _; rfl) : SD X W (.For (.Tuple elts kk tpos) (.Call (.Attribute (.Name n p) "items" apos) [] [] cpos) body [] pos) ρ T := by
  obtain ⟨g1, p1, k1⟩ := g
  refine fun F0 H0 F H σ D s l => ?_
  obtain ⟨a, vs, e1, hb, kv⟩ := s.e.bdf hi
  have at_ : ∀ {H' : Hp}, Ex H0 H' → H' a = some (.frz ob (.dK vs)) := fun x => x.g hb
  refine w_s (ps_for hp hc (pi_items (pe_var hN hv hdb hcd) hbase hline) p1 pss_w hf) ⟨_, e1, a, ob, vs, rfl, at_ s.e.b, fun i m σ' H' => m = kvs.length - i ∧ i ≤ kvs.length ∧ ∃ F' ρ', I i ρ' ∧ Ex F F' ∧ S2 X.K F0 H0 F' H' σ' ρ', ⟨_, rfl, Nat.zero_le _, F, ρ, h0, Ex.refl F, s⟩, ?_⟩
  rintro i m σ' H' ⟨rfl, him, F', ρ', hI, hx, s'⟩
  by_cases hil : i < kvs.length
  · refine .inr ⟨⟨at_ s'.e.b, by rw [kv.len]; exact hil⟩, fun σ2 H2 => ∃ F2' ρ2, I (i + 1) ρ2 ∧ Ex F F2' ∧ S2 X.K F0 H0 F2' H2 σ2 ρ2, fun σ2 H2 ⟨F2', ρ2, a1, a2, a3⟩ => ⟨kvs.length - (i + 1), by omega, rfl, by omega, F2', ρ2, a1, a2, a3⟩, ?_⟩
    rintro x H3 ⟨t, kk, v', hkv, rfl, nt, rfl⟩
    obtain ⟨z, d, hz, rfl, iv⟩ := kv.at hkv
    have x3 : Ext F' H' (upd F' t (.tup [kV (.inr z), v'])) (upd H' t (.tup [kV (.inr z), v'])) := Ext.made s'.e.i nt
    have s3 := s'.go x3
    obtain ⟨ρ2, hf2, hb2⟩ := hs i z d ρ' hz hI
    have iv3 := iv.mono (hx.trans x3.f)
    refine k1 ρ' _ ρ2 hf2 H0 _ _ σ' (.ref t) _ s3.e (.tup upd_same (.cons (.str z) (.cons iv3 .nil))) fun σ2 E2 => ?_
    refine hb2 _ H0 _ _ σ2 _ ⟨s3.x.at, E2⟩ ?_
    have l' := l.re s3.x
    have nx : ∀ ρ2 σ2 F4 H4, I (i + 1) ρ2 → S2 X.K (upd F' t (.tup [kV (.inr z), v'])) H0 F4 H4 σ2 ρ2 → ∃ F5 ρ5, I (i + 1) ρ5 ∧ Ex F F5 ∧ S2 X.K F0 H0 F5 H4 σ2 ρ5 := fun ρ2 σ2 F4 H4 q s2 => ⟨F4, ρ2, q, (hx.trans x3.f).trans s2.x.f, s2.on s3.x⟩
    exact ⟨nx, l'.rt, l'.rl, l'.nx, nx, l'.ex, l'.ro⟩
  · have ei : i = kvs.length := by omega
    refine .inl ⟨⟨at_ s'.e.b, ?_⟩, l.nx ρ' σ' F' H' (hd ρ' (ei ▸ hI)) s'⟩
    rw [kv.len]
    omega
/-- k not in d, d locked -/
theorem et_dninf (hu : X.A.units + 1 < cLine) (hk : ED X W ex a ρ (.str k)) (hN : X.N[i0]? = some n) (hv : Vis X.env.scope n) (hi : ρ[i0]? = some (bdf X.K ob kvs)) (hdb : (n == ("__debug__" : Str)) = false := by decide) (hcd : (n == ("__classdict__" : Str)) = false := by decide) (hm : behindInMarks .NotIn (.Name n p) = false := by rfl) :
    ET X W ex (.Compare a [.NotIn] [.Name n p] pos) ρ (!hasD kvs k) := fun B F H σ Q E c q =>
  w_t (pt_cmp (pc_dnotin hu pe_w (pe_var hN hv hdb hcd)) hm) (hk B F H σ _ E c fun y F1 H1 x1 i1 => by
    obtain ⟨l, vs, e1, hb, kv⟩ := E.bdf hi
    rw [i1.str_eq]
    have e : (valV vs (.inr k)).isSome = hasD kvs k := by
      rw [← getD'_has]
      rcases kv.val k with ⟨g, hv⟩ | ⟨d', v, g, hv, _⟩ <;> rw [g, hv] <;> rfl
    exact ⟨_, e1, l, _, rfl, .inl ⟨vs, .inr k, .inr ⟨ob, (E.b.trans x1.h).g hb⟩, rfl, rfl⟩, _, rfl, e ▸ q F1 H1 x1⟩)
end
/-- what a def says that is handed a dict of the caller's own: none, or an error -/
def GotT (F H : Hp) (l : Addr) (Q : VK) (E : XK) : Option Addr → Prop
  | none => ∀ F' H', Ext F H F' H' → Q .non H'
  | some C => ∀ F' H', Ext F (un H [l]) F' H' → E (.ref C) none H'
def spT (K : PySem.W.Frag) (R : List (Str × PyData) → Option Addr → Prop) : Sp := fun vs H Q E => ∃ F l vs0 kvs o, vs = [V.ref l] ∧ Ex F H ∧ LamX.Tabs TabC.T H ∧ F l = none ∧ H l = some (.dK vs0) ∧ KvIs K F vs0 kvs ∧ R kvs o ∧ GotT F H l Q E o
def deT : Option Addr → De
  | none => { nx := fun _ => True }
  | some C => { nx := fun _ => False, ex := fun C' _ => C' = C }
structure CalT (P : Program) (w : World) (K : PySem.W.Frag) (mg : Str → Option Value) (base : Heap) (k : Nat) (x : Str) (R : List (Str × PyData) → Option Addr → Prop) : Prop where
  ex : ∃ (f : Addr) (fd : FuncData) (ps : List Str), FnOk P w K mg base (L2N.CX P w) k f fd ps (spT K R) ∧ mg x = some (.ref f) ∧ PySem.W.keepIn K (.ref f) = true ∧ Binds K fd ps []
section
variable {P : Program} {w : World} {K : PySem.W.Frag} {mg : Str → Option Value} {base : Heap}
theorem fnT {x qual : Str} {st s0 : Stmt} {f : Addr} {fd : FuncData} {N : List Str} {y : Str} {k : Nat} {R : List (Str × PyData) → Option Addr → Prop} (F : Fun K x qual st f fd) (S : FnScope N [y] (defScope st)) (hb0 : defBody st = [s0]) (hl : 1 ≤ N.length)
    (hbody : ∀ (cdv : Value) (A : Around) (outer : List PySem.Env) (s : Shared) (H : Hp) (E : XK) (ob : Obj) (kvs : List (Str × PyData)) (o : Option Addr), Room k (A.deeper (envOfC qual (defScope st) s.heap.objs.size f cdv)) → R kvs o →
      SD (cxOf (L2N.CX P w) P w K mg base N qual (defScope st) f cdv A outer s H E) (fun c d _ H' => E c d H') s0 (bdf K ob kvs :: List.replicate (N.length - 1) .un) (deT o)) : FnOk P w K mg base (L2N.CX P w) (k + 1) f fd [y] (spT K R) := by
  obtain ⟨oc, od, kV, doc, pm, an, cdv, ct, osl, rfl, lk, hcd⟩ := F.ex
  refine fn_of lk hcd S (fun vs H Q E ⟨F, l, vs0, kvs, o, h, _⟩ => by rw [h]; rfl) fun A outer s H vs Q E hr ⟨F0, l, vs0, kvs, o, ev, i0, t0, f0, hh, kv, hR, g⟩ => ?_
  subst ev
  rw [hb0]
  refine ⟨_, pss_one (ps_lock ps_w), l, .dK vs0, hh, trivial, fun ob => ?_⟩
  have exl : ∀ {G : Hp}, Ex G H → G l = none → Ex G (upd H l (.frz ob (.dK vs0))) := fun {G} x n => x.mut n
  have hne : ∀ a, a ≠ l → upd H l (.frz ob (.dK vs0)) a = H a := fun a z => upd_ne z
  have T2 : LamX.Tabs TabC.T (upd H l (.frz ob (.dK vs0))) := t0.ups (Tb.poke (.of hh))
  have E0 : En K (upd H l (.frz ob (.dK vs0))) F0 (upd H l (.frz ob (.dK vs0))) (L2.start N [.ref l]) (bdf K ob kvs :: List.replicate (N.length - 1) .un) := by
    refine ⟨exl i0 f0, Ex.refl _, fun j t e => ?_, fun a b t r y2 ea eb ha hb => ?_, T2⟩
    · unfold L2.start
      match j, e with
      | 0, e =>
        cases e
        exact ⟨some (.ref l), rfl, fun F' H' x y => ⟨l, vs0, rfl, y.g upd_same, kv.mono x⟩⟩
      | j + 1, e =>
        have e : (List.replicate (N.length - 1) Sl.un)[j]? = some t := e
        rw [List.getElem?_replicate] at e
        split at e
        · cases e
          refine ⟨none, ?_, trivial⟩
          show (List.replicate (N.length - 1) (none : Option V))[j]? = some none
          rw [List.getElem?_replicate, if_pos (by assumption)]
        · cases e
    · have rep : ∀ {j : Nat} {t : Sl}, (bdf K ob kvs :: List.replicate (N.length - 1) Sl.un)[j]? = some t → y2 ∈ t.fp → False := fun {j t} e m => by
        match j, e with
        | 0, e => cases e; exact nomatch m
        | j + 1, e =>
          have e : (List.replicate (N.length - 1) Sl.un)[j]? = some t := e
          rw [List.getElem?_replicate] at e
          split at e
          · cases e; exact nomatch m
          · cases e
      exact (rep ea ha).elim
  have back : ∀ {F' H' : Hp}, Ext F0 (upd H l (.frz ob (.dK vs0))) F' H' → H' l = some (.frz ob (.dK vs0)) ∧ F' l = none := fun {F' H'} x => ⟨x.h.g upd_same, (x.n l (by rw [upd_same]; exact fun z => nomatch z)).trans f0⟩
  have hbd := hbody cdv A outer s H E ob kvs o hr hR F0 (upd H l (.frz ob (.dK vs0))) F0 (upd H l (.frz ob (.dK vs0))) (L2.start N [.ref l])
  refine hbd _ ⟨Ext.refl E0.i, E0⟩ ?_
  cases o with
  | none =>
    refine ⟨fun ρ σ F1 H1 _ s1 => ?_, fun _ _ _ _ q => q.elim, fun _ _ _ _ _ q => q.elim, fun _ _ _ _ q => q.elim, fun _ _ _ _ q => q.elim, fun _ _ _ _ _ q => q.elim, fun _ _ _ _ q => q.elim⟩
    obtain ⟨b1, b2⟩ := back s1.x
    refine ⟨b1, g F1 _ ⟨s1.x.f, ⟨fun a o e n => ?_, fun a h => ?_⟩, s1.x.i.mut b2, fun a h => ?_, fun _ => (s1.x.t T2).ups (Tb.poke (.of b1))⟩⟩
    · by_cases z : a = l
      · subst z
        rw [hh] at e
        rw [upd_same]; exact e
      · rw [upd_ne z]
        exact s1.x.h.k a o ((hne a z).trans e) n
    · by_cases z : a = l
      · subst z; rw [upd_same]; exact fun q => nomatch q
      · rw [upd_ne z]
        exact s1.x.h.d a (by rw [hne a z]; exact h)
    · refine s1.x.n a ?_
      by_cases z : a = l
      · subst z; rw [upd_same]; exact fun q => nomatch q
      · rw [hne a z]; exact h
  | some C =>
    refine ⟨fun _ _ _ _ q => q.elim, fun _ _ _ _ q => q.elim, fun _ _ _ _ _ q => q.elim, fun _ _ _ _ q => q.elim, fun _ _ _ _ q => q.elim, fun C' ρ σ F1 H1 q s1 => ?_, fun _ _ _ _ q => q.elim⟩
    have q : C' = C := q
    subst q
    have ul : ∀ a, un H [l] a ≠ none → a ≠ l ∧ un H [l] a = H a := fun a h => by
      unfold un at h ⊢
      by_cases z : a = l
      · rw [if_pos (List.mem_singleton.mpr z)] at h; exact absurd rfl h
      · exact ⟨z, if_neg fun m => z (List.mem_singleton.mp m)⟩
    refine g F1 H1 ⟨s1.x.f, ⟨fun a o e n => ?_, fun a h => ?_⟩, s1.x.i, fun a h => ?_, fun _ => s1.x.t T2⟩
    · obtain ⟨z, u⟩ := ul a (by rw [e]; exact fun q => nomatch q)
      exact s1.x.h.k a o ((hne a z).trans (u.symm.trans e)) n
    · obtain ⟨z, u⟩ := ul a h
      exact s1.x.h.d a (by rw [hne a z, ← u]; exact h)
    · obtain ⟨z, u⟩ := ul a h
      exact s1.x.n a (by rw [hne a z, ← u]; exact h)
theorem calT_of {h : Heap} {x : Str} {st : Stmt} {k : Nat} {R : List (Str × PyData) → Option Addr → Prop} (X : K.In h) (G : h.Ns mainGlobals mg) (ps : List Str) (D : DefK K x st) (hb : BindK x st ps)
    (ok : ∀ (f : Addr) (fd : FuncData), Fun K x x st f fd → FnOk P w K mg base (L2N.CX P w) k f fd ps (spT K R)) : CalT P w K mg base k x R := by
  obtain ⟨f, oc, od, kV, doc, pm, an, cdv, ct, osl, a, l, c, kk⟩ := D
  have F := fun_mk l c kk
  exact ⟨f, _, ps, ok f _ F, PySem.W.mg_of X G a, kk, F.binds hb⟩
end
section
variable {X : Cx} {W : WX} {ρ : List Sl} {pos p p2 pos2 : Pos} {T : De} {x n : Str} {i k : Nat} {l : Addr} {kvs : List (Str × PyData)} {R : List (Str × PyData) → Option Addr → Prop}
/-- f(d), d a dict of one's own: none is told, or an error is raised -/
theorem sd_callT {o : Option Addr} (C : CalT X.prog X.w X.K X.mg X.base k x R) (hr : Room k X.A) (hg : Gl X x) (tk : L2N.Takes X W) (hN : X.N[i]? = some n) (hv : Vis X.env.scope n) (hi : ρ[i]? = some (od X.K l kvs)) (hR : R kvs o)
    (q : o = none → T.nx ρ) (qx : ∀ C, o = some C → T.ex C (ρ.set i .un))
    (d1 : (n == ("__debug__" : Str)) = false := by decide) (d2 : (n == ("__classdict__" : Str)) = false := by decide) (s1 : starEach [.Name n p2] X.env = [(false, eval (.Name n p2) X.env)] := by rfl)
    (hdb : (x == ("__debug__" : Str)) = false := by decide) (hpl : (backTo pos2 (starEach [] X.env)).any (·.1) = false := by rfl)
    (hw : swapsWith (.Call (.Name x p) [.Name n p2] [] pos2) none pos.line X.env = pure false := by rfl) : SD X W (.Expr (.Call (.Name x p) [.Name n p2] [] pos2) pos) ρ T := fun F0 H0 F H σ D s lk => by
  obtain ⟨f, fd, ps, Fn, hm, hk, hb⟩ := C.ex
  obtain ⟨e1, hf, hb0, vs, hh, kv⟩ := s.e.od hi
  refine w_s (ps_expr (pe_callS Fn hr hg hm hk hb (fun σ => L2N.passAt tk σ) (pa_cons (pe_var hN hv d1 d2) pa_nil s1) hdb s1 hpl) hw) ⟨_, e1, F, l, vs, kvs, o, rfl, s.e.i, s.e.t, hf, hh, kv, hR, ?_⟩
  cases o with
  | none => exact fun F1 H1 x1 => lk.nx ρ σ F1 H1 (q rfl) (s.go x1)
  | some C =>
    intro F1 H1 x1
    have E1 := (s.e.drop (fp := [l]) (P := fun v _ F H => v = .ref l ∧ ∃ vs, H l = some (.dK vs) ∧ KvIs X.K F vs kvs) hi).ext x1
    have h0 : ∀ a, H0 a ≠ none → un H [l] a = H a := fun a h => by
      unfold un
      exact if_neg fun m => h (by rw [List.mem_singleton.mp m]; exact hb0)
    refine lk.ex C _ σ F1 H1 (qx C rfl) ⟨⟨s.x.f.trans x1.f, ⟨fun a o e n => ?_, fun a h => ?_⟩, x1.i, fun a h => ?_, fun t => E1.t⟩, E1⟩
    · exact x1.h.k a o ((h0 a (by rw [e]; exact fun z => nomatch z)).trans (s.e.b.k a o e n)) n
    · exact x1.h.d a (by rw [h0 a h]; exact s.e.b.d a h)
    · exact (x1.n a (by rw [h0 a h]; exact s.e.b.d a h)).trans (s.x.n a h)
end
end PD

set_option maxHeartbeats 4000000
/-! Dicts of one's own that a def hands out; a def that makes lambdas. -/
namespace PD
open PySem PySem.Spec PyProof.Rows L2
variable [PD.TabC]
/-- a dict of one's own -/
def dP (K : PySem.W.Frag) (kvs : List (Str × PyData)) : OP := fun v fp F H => ∃ l vs, v = .ref l ∧ fp = [l] ∧ H l = some (.dK vs) ∧ KvIs K F vs kvs
section
variable {X : Cx} {W : WX} {ex : Addr → Prop} {e : Expr} {ρ : List Sl} {pos p : Pos} {T : De} {n : Str} {i : Nat} {l : Addr} {kvs : List (Str × PyData)}
/-- x = e, a new dict -/
theorem sd_setD (nd : X.N.Nodup) (hN : X.N[i]? = some n) (hl : Loc X.env.scope n) (hfn : X.fn n = true ∨ X.env.scope.names.lookup n = some .local) (h : EOw X W (fun C => T.ex C ρ) e ρ (dP X.K kvs)) (q : ∀ l, T.nx (ρ.set i (od X.K l kvs)))
    (hw : swapsWith e (some (.Name n p)) pos.line X.env = pure false := by rfl) : SD X W (.Assign [.Name n p] e pos) ρ T := fun F0 H0 F H σ D s lk =>
  w_s (ps_set nd hN hl pe_w hw hfn) (h H0 F H σ _ s.e (lk.xc s) fun v fp F1 H1 x1 n1 ⟨l, vs, ev, ef, hh, kv⟩ => by
    subst ev ef
    have q1 := n1 l (List.mem_singleton.mpr rfl)
    refine lk.nx _ _ F1 H1 (q l) ⟨s.x.trans x1, (s.e.ext x1).set_ (o := some (.ref l)) (od_ok q1.2.1 (s.e.b.back q1.1) hh kv) fun j t b ej hb ht => ?_⟩
    obtain ⟨o, _, h2⟩ := s.e.s j _ ej
    exact absurd (n1 b hb).1 (h2.held ht).2.2.ne)
/-- return x, a dict of one's own -/
theorem sd_retD (hN : X.N[i]? = some n) (hv : Vis X.env.scope n) (hi : ρ[i]? = some (od X.K l kvs)) (q : ∀ v fp F H, dP X.K kvs v fp F H → T.ro v fp F H) (hd : (n == ("__debug__" : Str)) = false := by decide) (hcd : (n == ("__classdict__" : Str)) = false := by decide) :
    SD X W (.Return (some (.Name n p)) pos) ρ T :=
  sd_retS (fp := [l]) (P := fun v _ F H => v = .ref l ∧ ∃ vs, H l = some (.dK vs) ∧ KvIs X.K F vs kvs) hN hv hi (fun v F H ⟨e, vs, hh, kv⟩ => q v [l] F H ⟨l, vs, e, rfl, hh, kv⟩) hd hcd
end
section
variable {P : Program} {w : World} {K : PySem.W.Frag} {mg : Str → Option Value} {base : Heap}
/-- fnD, where the def's own code object is asked for -/
theorem fnDc {x qual : Str} {st : Stmt} {f : Addr} {fd : FuncData} {N ps : List Str} {k : Nat} {R : List Sl → DOut → Prop} (F : Fun K x qual st f fd) (S : FnScope N ps (defScope st)) (hl : ps.length ≤ N.length)
    (hbody : ∀ (cdv : Value) (A : Around) (outer : List PySem.Env) (s : Shared) (H : Hp) (E : XK) (as : List Sl) (o : DOut), fd.code = cdv → Room k (A.deeper (envOfC qual (defScope st) s.heap.objs.size f cdv)) → as.length = ps.length → R as o →
      SDs (cxOf (L2N.CX P w) P w K mg base N qual (defScope st) f cdv A outer s H E) (fun c d _ H' => E c d H') (defBody st) (as ++ List.replicate (N.length - as.length) .un) (deOf o)) : FnOk P w K mg base (L2N.CX P w) (k + 1) f fd ps (spD K ps.length R) := by
  obtain ⟨oc, od, kV, doc, pm, an, cdv, ct, osl, rfl, lk, hcd⟩ := F.ex
  refine fn_of lk hcd S (fun vs H Q E ⟨F, as, o, _, h, hn, _⟩ => (paired_len h).trans hn) fun A outer s H vs Q E hr ⟨F0, as, o, i0, h, hn, hR, g⟩ => ?_
  refine ⟨WSs _ (defBody st), pss_w, ?_⟩
  have E0 := en_start N i0 h (by omega)
  exact hbody cdv A outer s H E as o rfl hr hn hR F0 H F0 H (L2.start N vs) _ ⟨Ext.refl i0.1, E0⟩ (lk_of (N := N) g)
end
end PD

set_option maxHeartbeats 4000000
/-! a dict of one's own, its keys marks (a text and a number), its values data -/
namespace PD
open PySem L2
variable [PD.TabC]
section
variable {K : PySem.W.Frag} {B F F' H H' : Hp}
abbrev Mark := Str × Int
def kM (m : Mark) : List Key := [.inr m.1, .inl m.2]
abbrev mkD (m : Mark) : PyData := .tuple [.str m.1, .int m.2]
theorem kM_inj {a b : Mark} (h : kM a = kM b) : a = b := by
  unfold kM at h
  injection h with h1 h2
  injection h2 with h2 _
  exact Prod.ext (Sum.inr.inj h1) (Sum.inl.inj h2)
theorem Is.mark {v : V} {m : Mark} (h : Is K F v (mkD m)) : ∃ b, v = .ref b ∧ F b = some (.tup ((kM m).map kV)) := by
  cases h with
  | tup h a =>
  cases a with
  | cons i1 a =>
  cases a with
  | cons i2 a =>
  cases a
  have e1 := i1.str_eq
  subst e1
  cases i2
  exact ⟨_, rfl, h⟩
def KmIs (K : PySem.W.Frag) (F : Hp) : List (List Key × V) → List (Mark × PyData) → Prop := Paired fun a b => a.1 = kM b.1 ∧ Is K F a.2 b.2
theorem KmIs.mono (x : Ex F F') : ∀ {vs : List (List Key × V)} {kvs : List (Mark × PyData)}, KmIs K F vs kvs → KmIs K F' vs kvs
  | _, _, .nil => .nil
  | _, _, .cons ⟨a, b⟩ t => .cons ⟨a, b.mono x⟩ (KmIs.mono x t)
theorem KmIs.len : ∀ {vs : List (List Key × V)} {kvs : List (Mark × PyData)}, KmIs K F vs kvs → vs.length = kvs.length
  | _, _, .nil => rfl
  | _, _, .cons _ t => congrArg (· + 1) (KmIs.len t)
/-- what stands at a key -/
def getM (kvs : List (Mark × PyData)) (k : Mark) : Option PyData := (kvs.find? fun p => decide (p.1 = k)).map (·.2)
def hasM (kvs : List (Mark × PyData)) (k : Mark) : Bool := kvs.any fun p => decide (p.1 = k)
def putM (kvs : List (Mark × PyData)) (k : Mark) (d : PyData) : List (Mark × PyData) := if hasM kvs k = true then kvs.map fun p => if p.1 = k then (p.1, d) else p else kvs ++ [(k, d)]
theorem getM_has (kvs : List (Mark × PyData)) (k : Mark) : (getM kvs k).isSome = hasM kvs k := by
  unfold getM hasM
  induction kvs with
  | nil => rfl
  | cons p r ih =>
    rw [List.find?_cons, List.any_cons]
    cases h : decide (p.1 = k) with
    | true => rfl
    | false => simpa using ih
theorem KmIs.val : ∀ {vs : List (List Key × V)} {kvs : List (Mark × PyData)} (k : Mark), KmIs K F vs kvs → (getM kvs k = none ∧ valV vs (kM k) = none) ∨ ∃ d v, getM kvs k = some d ∧ valV vs (kM k) = some v ∧ Is K F v d
  | _, _, k, .nil => .inl ⟨rfl, rfl⟩
  | a :: _, b :: r, k, .cons ⟨h1, h2⟩ t => by
    by_cases e : b.1 = k
    · refine .inr ⟨b.2, a.2, ?_, ?_, h2⟩
      · unfold getM; rw [List.find?_cons, decide_eq_true e]; rfl
      · rw [valV_pos (by rw [h1, e])]
    · have e2 : ¬ a.1 = kM k := fun q => e (by rw [h1] at q; exact kM_inj q)
      rw [valV_neg e2]
      have e3 : getM (b :: r) k = getM r k := by unfold getM; rw [List.find?_cons, decide_eq_false e]
      rw [e3]
      exact KmIs.val k t
theorem KmIs.any : ∀ {vs : List (List Key × V)} {kvs : List (Mark × PyData)} (k : Mark), KmIs K F vs kvs → (vs.any fun kv => decide (kv.1 = kM k)) = hasM kvs k
  | _, _, k, .nil => rfl
  | a :: _, b :: _, k, .cons ⟨h1, h2⟩ t => by
    have ih := KmIs.any k t
    unfold hasM at ih ⊢
    rw [List.any_cons, List.any_cons, ih]
    congr 1
    rw [h1]
    by_cases e : b.1 = k
    · rw [decide_eq_true e, decide_eq_true (by rw [e])]
    · rw [decide_eq_false e, decide_eq_false fun q => e (kM_inj q)]
theorem KmIs.repl : ∀ {vs : List (List Key × V)} {kvs : List (Mark × PyData)} (k : Mark) {v : V} {d : PyData}, KmIs K F vs kvs → Is K F v d → KmIs K F (vs.map fun kv => if kv.1 = kM k then (kv.1, v) else kv) (kvs.map fun p => if p.1 = k then (p.1, d) else p)
  | _, _, k, _, _, .nil, _ => .nil
  | a :: _, b :: _, k, v, d, .cons ⟨h1, h2⟩ t, i => by
    refine .cons ?_ (KmIs.repl k t i)
    dsimp only
    by_cases e : b.1 = k
    · rw [if_pos e, if_pos (by rw [h1, e])]
      exact ⟨h1, i⟩
    · rw [if_neg e, if_neg fun q => e (by rw [h1] at q; exact kM_inj q)]
      exact ⟨h1, h2⟩
theorem KmIs.snoc : ∀ {vs : List (List Key × V)} {kvs : List (Mark × PyData)} (k : Mark) {v : V} {d : PyData}, KmIs K F vs kvs → Is K F v d → KmIs K F (vs ++ [(kM k, v)]) (kvs ++ [(k, d)])
  | _, _, k, _, _, .nil, i => .cons ⟨rfl, i⟩ .nil
  | _ :: _, _ :: _, k, v, d, .cons h t, i => .cons h (KmIs.snoc k t i)
theorem KmIs.put {vs : List (List Key × V)} {kvs : List (Mark × PyData)} (k : Mark) {v : V} {d : PyData} (h : KmIs K F vs kvs) (i : Is K F v d) : KmIs K F (putK vs (kM k) v) (putM kvs k d) := by
  unfold putK putM
  rw [h.any k]
  split
  · exact h.repl k i
  · exact h.snoc k i
/-- the slot -/
def om (K : PySem.W.Frag) (l : Addr) (kvs : List (Mark × PyData)) : Sl := .rg [l] fun v F H => v = .ref l ∧ ∃ vs, H l = some (.dT vs) ∧ KmIs K F vs kvs
theorem om_ok {l : Addr} {kvs : List (Mark × PyData)} {vs : List (List Key × V)} (hf : F l = none) (hb : B l = none) (hh : H l = some (.dT vs)) (h : KmIs K F vs kvs) : SlOk K B F H (some (.ref l)) (om K l kvs) :=
  ⟨fun F' H' x y => ⟨rfl, vs, (y l (List.mem_singleton.mpr rfl)).trans hh, h.mono x⟩, fun a m => by
    rw [List.mem_singleton.mp m]
    exact ⟨hf, hb, .of hh⟩⟩
theorem En.om {σ : L2.St} {ρ : List Sl} (E : En K B F H σ ρ) {i : Nat} {l : Addr} {kvs : List (Mark × PyData)} (h : ρ[i]? = some (om K l kvs)) : σ[i]? = some (some (.ref l)) ∧ F l = none ∧ B l = none ∧ ∃ vs, H l = some (.dT vs) ∧ KmIs K F vs kvs := by
  obtain ⟨o, e, ok⟩ := E.s i _ h
  cases o with
  | none => exact ok.elim
  | some v =>
    obtain ⟨q, m⟩ := ok
    obtain ⟨rfl, r⟩ := q F H (Ex.refl F) fun _ _ => rfl
    have m1 := m l (List.mem_singleton.mpr rfl)
    exact ⟨e, m1.1, m1.2.1, r⟩
/-- one's own dict is changed -/
theorem En.wrM {σ : L2.St} {ρ : List Sl} (E : En K B F H σ ρ) {i : Nat} {l : Addr} {kvs kvs' : List (Mark × PyData)} {ws : List (List Key × V)} (hi : ρ[i]? = some (PD.om K l kvs)) (a : KmIs K F ws kvs') :
    En K B F (upd H l (.dT ws)) σ (ρ.set i (PD.om K l kvs')) := by
  obtain ⟨e1, hf, hb, vs, hh, _⟩ := E.om hi
  refine ⟨E.i.mut hf, E.b.mut hb, fun j t e => ?_, fun x y t u b ea eb ha hb => ?_, E.t.ups ((Tb.refl H).mut hh)⟩
  · rcases set_at e with ⟨rfl, _, rfl⟩ | ⟨q, e⟩
    · exact ⟨_, e1, om_ok hf hb upd_same a⟩
    · obtain ⟨o2, e2, h2⟩ := E.s j t e
      refine ⟨o2, e2, h2.mut fun b hb => upd_ne fun z => ?_⟩
      rw [z] at hb
      exact q (E.d i j _ t l hi e (List.mem_singleton.mpr rfl) hb)
  · have back : ∀ (z : Nat) (s : Sl), (ρ.set i (PD.om K l kvs'))[z]? = some s → b ∈ s.fp → ∃ s2, ρ[z]? = some s2 ∧ b ∈ s2.fp := fun z s e m => by
      rcases set_at e with ⟨rfl, _, rfl⟩ | ⟨_, e⟩
      · exact ⟨_, hi, m⟩
      · exact ⟨s, e, m⟩
    obtain ⟨s1, h1, m1⟩ := back x t ea ha
    obtain ⟨s2, h2, m2⟩ := back y u eb hb
    exact E.d x y s1 s2 b h1 h2 m1 m2
end
section
variable {X : Cx} {W : WX} {ex : Addr → Prop} {ρ : List Sl} {e a b : Expr} {d : PyData} {kvs : List (Mark × PyData)} {T : De} {pos p p2 spos : Pos} {n : Str} {i : Nat} {l : Addr} {k : Mark}
/-- x = {} -/
theorem sd_mnew (nd : X.N.Nodup) (hN : X.N[i]? = some n) (hl : Loc X.env.scope n) (hfn : X.fn n = true ∨ X.env.scope.names.lookup n = some .local) (q : ∀ r, T.nx (ρ.set i (om X.K r [])))
    (hw : swapsWith (.Dict [] [] p2) (some (.Name n p)) pos.line X.env = pure false := by rfl) : SD X W (.Assign [.Name n p] (.Dict [] [] p2) pos) ρ T := fun F0 H0 F H σ D s lk =>
  w_s (ps_set nd hN hl pe_dnewT hw hfn) (fun r hr => by
    have x1 : Ext F H F (upd H r (.dT [])) := Ext.kept s.e.i hr
    have hF : F r = none := s.e.i.back hr
    refine lk.nx _ _ F _ (q r) ⟨s.x.trans x1, (s.e.ext x1).set_ (o := some (.ref r)) (om_ok hF (s.e.b.back hr) upd_same .nil) fun j t c ej hc ht => ?_⟩
    obtain ⟨o, _, h2⟩ := s.e.s j _ ej
    rw [List.mem_singleton.mp hc] at ht
    exact absurd hr (h2.held ht).2.2.ne)
/-- x[k] = e -/
theorem sd_mput (hu : X.A.units + 1 < cLine) (hN : X.N[i]? = some n) (hv : Vis X.env.scope n) (hi : ρ[i]? = some (om X.K l kvs)) (h : ED X W (fun C => T.ex C ρ) e ρ d) (hk : ED X W (fun C => T.ex C ρ) a ρ (mkD k)) (hz : kvs.length < 100000) (q : T.nx (ρ.set i (om X.K l (putM kvs k d))))
    (hd : (n == ("__debug__" : Str)) = false := by decide) (hcd : (n == ("__classdict__" : Str)) = false := by decide) (hs : swapsWith e (some (.Subscript (.Name n p2) a p)) pos.line X.env = pure false := by rfl) :
    SD X W (.Assign [.Subscript (.Name n p2) a p] e pos) ρ T := fun F0 H0 F H σ D s lk =>
  w_s (ps_dput hu (pe_var hN hv hd hcd) pe_w pe_w hs) (h H0 F H σ _ s.e (lk.xc s) fun v F1 H1 x1 i1 => by
    have s1 := s.go x1
    obtain ⟨e1, _, _, vs, hh, kv⟩ := s1.e.om hi
    refine ⟨_, e1, hk H0 F1 H1 σ _ s1.e (lk.xc s1) fun y F2 H2 x2 i2 => ?_⟩
    have s2 := s1.go x2
    obtain ⟨_, _, _, vs2, hh2, kv2⟩ := s2.e.om hi
    have i3 := i1.mono x2.f
    obtain ⟨bk, rfl, hbk⟩ := i2.mark
    refine ⟨l, _, rfl, DPut.t (k := kM k) hh2 (s2.e.i.g hbk) (by rw [kv2.len]; exact Nat.lt_of_lt_of_le hz (by decide)), lk.nx _ σ F2 _ q ⟨?_, s2.e.wrM hi (kv2.put k i3)⟩⟩
    exact ⟨s2.x.f, s2.x.h.mut ((s2.e.om hi).2.2.1), s2.x.i.mut ((s2.e.om hi).2.1), s2.x.n, s2.x.t.mut hh2⟩)
/-- a dict that can be read -/
def EMr (X : Cx) (W : WX) (ex : Addr → Prop) (e : Expr) (ρ : List Sl) (kvs : List (Mark × PyData)) : Prop := ∀ B F H σ (Q : VK), En X.K B F H σ ρ → Xc W ex F H σ → (∀ l vs F' H', Ext F H F' H' → H' l = some (.dT vs) → KmIs X.K F' vs kvs → Q (.ref l) H') → WE X e σ H Q
theorem emr_o (hN : X.N[i]? = some n) (hv : Vis X.env.scope n) (hi : ρ[i]? = some (om X.K l kvs)) (hd : (n == ("__debug__" : Str)) = false := by decide) (hcd : (n == ("__classdict__" : Str)) = false := by decide) : EMr X W ex (.Name n pos) ρ kvs := fun B F H σ Q E _ q => by
  obtain ⟨e1, _, _, vs, hh, kv⟩ := E.om hi
  exact w_e (pe_var hN hv hd hcd) ⟨_, e1, q l vs F H (Ext.refl E.i) hh kv⟩
/-- the caller's dict, as it stood -/
def bm (K : PySem.W.Frag) (kvs : List (Mark × PyData)) : Sl := .rb fun v F H => ∃ l vs, v = .ref l ∧ H l = some (.dT vs) ∧ KmIs K F vs kvs
theorem emr_b (hN : X.N[i]? = some n) (hv : Vis X.env.scope n) (hi : ρ[i]? = some (bm X.K kvs)) (hd : (n == ("__debug__" : Str)) = false := by decide) (hcd : (n == ("__classdict__" : Str)) = false := by decide) : EMr X W ex (.Name n pos) ρ kvs := fun B F H σ Q E _ q => by
  obtain ⟨o, e1, ok⟩ := E.s i _ hi
  cases o with
  | none => exact ok.elim
  | some v =>
    obtain ⟨l, vs, rfl, hh, kv⟩ := ok F H (Ex.refl F) E.b
    exact w_e (pe_var hN hv hd hcd) ⟨_, e1, q l vs F H (Ext.refl E.i) hh kv⟩
/-- as an argument -/
theorem ea_rm {es : List Expr} {as : List Sl} (h : EMr X W ex e ρ kvs) (r : EA X W ex es ρ as) (hs : starEach (e :: es) X.env = (false, eval e X.env) :: starEach es X.env := by rfl) : EA X W ex (e :: es) ρ (bm X.K kvs :: as) := fun B F H σ Q E c q =>
  w_a (pa_cons pe_w pa_w hs) (h B F H σ _ E c fun l vs F1 H1 x1 h1 kv => r B F1 H1 σ _ (E.ext x1) (c.ext x1) fun vs2 F2 H2 x2 a2 => q _ F2 H2 (x1.trans x2) (.cons (fun F' H' x y => ⟨l, vs, rfl, y.g (x2.h.g h1), kv.mono (x2.f.trans x)⟩) a2))
/-- x[k] -/
theorem ed_mget (hu : X.A.units + 1 < cLine) (h : EMr X W ex a ρ kvs) (hk : ED X W ex b ρ (mkD k)) (hg : getM kvs k = some d) (hs : NoSl b := by exact fun _ _ => rfl) : ED X W ex (.Subscript a b pos) ρ d := fun B F H σ Q E c q =>
  w_e (pe_dget hu pe_w pe_w hs) (h B F H σ _ E c fun l vs F1 H1 x1 h1 kv => hk B F1 H1 σ _ (E.ext x1) (c.ext x1) fun y F2 H2 x2 i2 => by
    rcases kv.val k with ⟨g, _⟩ | ⟨d', v, g, hv, iv⟩
    · rw [hg] at g; cases g
    · rw [hg] at g
      cases g
      obtain ⟨bk, rfl, hbk⟩ := i2.mark
      refine ⟨l, v, rfl, ?_, q v F2 H2 (x1.trans x2) (iv.mono x2.f)⟩
      have := DGet.t (k := kM k) (x2.h.g h1) (x2.i.g hbk)
      rw [hv] at this
      exact this)
theorem mget_of {l b : Addr} {vs : List (List Key × V)} {H : Hp} {F : Hp} (h : H l = some (.dT vs)) (hb : H b = some (.tup ((kM k).map kV))) (kv : KmIs X.K F vs kvs) : ∃ o, DGet H l (.ref b) o ∧ o.isSome = hasM kvs k := by
  refine ⟨_, DGet.t (k := kM k) h hb, ?_⟩
  rw [← getM_has]
  rcases kv.val k with ⟨g, hv⟩ | ⟨d', v, g, hv, _⟩ <;> rw [g, hv] <;> rfl
/-- k in x -/
theorem et_mkin (hu : X.A.units + 1 < cLine) (hk : ED X W ex a ρ (mkD k)) (h : EMr X W ex b ρ kvs) (hm : behindInMarks .In b = false := by rfl) : ET X W ex (.Compare a [.In] [b] pos) ρ (hasM kvs k) := fun B F H σ Q E c q =>
  w_t (pt_cmp (pc_din hu pe_w pe_w) hm) (hk B F H σ _ E c fun y F1 H1 x1 i1 => h B F1 H1 σ _ (E.ext x1) (c.ext x1) fun l vs F2 H2 x2 h2 kv => by
    obtain ⟨bk, rfl, hbk⟩ := i1.mark
    obtain ⟨o, g, e⟩ := mget_of (k := k) h2 (x2.i.g (x2.f.g hbk)) kv
    exact ⟨l, o, rfl, g, _, rfl, e ▸ q F2 H2 (x1.trans x2)⟩)
theorem et_mknin (hu : X.A.units + 1 < cLine) (hk : ED X W ex a ρ (mkD k)) (h : EMr X W ex b ρ kvs) (hm : behindInMarks .NotIn b = false := by rfl) : ET X W ex (.Compare a [.NotIn] [b] pos) ρ (!hasM kvs k) := fun B F H σ Q E c q =>
  w_t (pt_cmp (pc_dnotin hu pe_w pe_w) hm) (hk B F H σ _ E c fun y F1 H1 x1 i1 => h B F1 H1 σ _ (E.ext x1) (c.ext x1) fun l vs F2 H2 x2 h2 kv => by
    obtain ⟨bk, rfl, hbk⟩ := i1.mark
    obtain ⟨o, g, e⟩ := mget_of (k := k) h2 (x2.i.g (x2.f.g hbk)) kv
    exact ⟨l, o, rfl, g, _, rfl, e ▸ q F2 H2 (x1.trans x2)⟩)
theorem ed_mkin (hu : X.A.units + 1 < cLine) (hk : ED X W ex a ρ (mkD k)) (h : EMr X W ex b ρ kvs) (hm : behindInMarks .In b = false := by rfl) : ED X W ex (.Compare a [.In] [b] pos) ρ (.bool (hasM kvs k)) := fun B F H σ Q E c q =>
  w_e (pe_cmp (pc_din hu pe_w pe_w) hm) (hk B F H σ _ E c fun y F1 H1 x1 i1 => h B F1 H1 σ _ (E.ext x1) (c.ext x1) fun l vs F2 H2 x2 h2 kv => by
    obtain ⟨bk, rfl, hbk⟩ := i1.mark
    obtain ⟨o, g, e⟩ := mget_of (k := k) h2 (x2.i.g (x2.f.g hbk)) kv
    exact ⟨l, o, rfl, g, e ▸ q _ F2 H2 (x1.trans x2) (.bl _)⟩)
end
section
variable {X : Cx} {W : WX} {ex : Addr → Prop} {ρ : List Sl} {kvs : List (Mark × PyData)} {pos : Pos} {n : Str} {l : Addr} {sc : Scope} {ns : List Str}
/-! dicts by the def's names -/
theorem emo_v (lo : ns.all (locB sc) = true) (i : Nat) (hN : X.N[i]? = some n := by rfl) (hn : ns[i]? = some n := by rfl) (hs : ρ[i]? = some (om X.K l kvs) := by rfl) (hsc : X.env.scope = sc := by rfl) (hd : (n == ("__debug__" : Str)) = false := by decide) (hcd : (n == ("__classdict__" : Str)) = false := by decide) : EMr X W ex (.Name n pos) ρ kvs :=
  emr_o hN (by rw [hsc]; exact vis_of (loc_of lo i hn)) hs hd hcd
end
section
variable {X : Cx} {W : WX} {ex : Addr → Prop} {ρ : List Sl} {kvs : List (Mark × PyData)} {pos : Pos} {n : Str} {l : Addr} {s : Shared} {H : Hp} {scope : Scope} {C : Addr} {cl : List (Str × Addr)} {fp : List Addr}
/-! .. in a block -/
theorem emo_b (i : Nat) (hN : X.N[i]? = some n := by rfl) (hv : scope.names.lookup n = some .local ∨ scope.names.lookup n = some .cell ∨ scope.names.lookup n = some .free := by first | exact .inl rfl | exact .inr (.inr rfl) | exact .inr (.inl rfl)) (hs : ρ[i]? = some (om X.K l kvs) := by rfl)
    (hd : (n == ("__debug__" : Str)) = false := by decide) (hcd : (n == ("__classdict__" : Str)) = false := by decide) : EMr (X.blk s H scope (compEnvC scope cl C X.env) fp) W ex (.Name n pos) ρ kvs := emr_o hN (vis_rel (env := X.env) hv) hs hd hcd
end
end PD

set_option maxHeartbeats 4000000
/-! x.index(e), x.insert(i, e), x.extend(e), x[::-1]. -/
namespace PD
open PySem PySem.Spec PyProof.Rows L2
variable [PD.TabC]
theorem IsAll.reverse {K : PySem.W.Frag} {F : Hp} : ∀ {vs : List V} {ds : List PyData}, IsAll K F vs ds → IsAll K F vs.reverse ds.reverse
  | _, _, .nil => .nil
  | _, _, .cons h a => by
    rw [List.reverse_cons, List.reverse_cons]
    exact (IsAll.reverse a).append (.cons h .nil)
section
variable {X : Cx} {W : WX} {ex : Addr → Prop} {a e o : Expr} {ρ : List Sl} {d z : PyData} {ds es : List PyData} {pos p p1 p2 p3 apos : Pos} {T : De} {n : Str} {i j k : Nat} {l : Addr}
/-- o.index(e): the place of the first equal one -/
theorem ed_index (hu : X.A.units + 65 < cLine) (ho : EB X W ex o ρ ds) (he : ED X W ex e ρ d) (sl : SeqAt.shaped (.list ds) = true) (sd : SeqAt.shaped d = true) (hz : ds[j]? = some z) (hj : PyData.eqv z d = true) (hno : ∀ (m : Nat) (z' : PyData), m < j → ds[m]? = some z' → PyData.eqv z' d = false)
    (hs : starEach [e] X.env = [(false, eval e X.env)] := by rfl) (hb : attributeBase o "index" X.env (eval o X.env) = eval o X.env := by rfl)
    (ha : (((backTo p (starEach [e] X.env)).all (fun x => !x.1) && (backToKw p (keywordEach [] X.env)).all (fun x => x.1.isSome)) && decide (([e].length + ([] : List Keyword).length + if ([] : List Keyword).isEmpty = true then 0 else 1) < 30)) = true := by rfl)
    (hl : (apos.endLine == p.line) = true := by rfl) (hz2 : (backTo p (starEach [] X.env)).any (·.1) = false := by rfl) : ED X W ex (.Call (.Attribute o "index" apos) [e] [] p) ρ (.int j) := fun B F H σ Q E c q =>
  w_e (pe_bm PySem.F.plainAttrs_list PySem.F.slot_list_index PySem.F.type_list_index (mt_indexD hu) pe_w (pa_cons pe_w pa_nil hs) hb ha hl hs hz2) (ho B F H σ _ E c fun r vs F1 H1 x1 h1 a1 => ⟨.inl ⟨rfl, vs, h1⟩, he B F1 H1 σ _ (E.ext x1) (c.ext x1) fun y F2 H2 x2 i2 => by
    refine ⟨r, y, d, ds, j, z, rfl, rfl, .lst (x2.h.sql h1) ((a1.mono x2.f).mono x2.i).dp, (i2.mono x2.i).dp, sl, sd, hz, hj, hno, q _ F2 H2 (x1.trans x2) (.int _)⟩⟩)
/-- x.insert(k, e) -/
theorem sd_insert (hN : X.N[i]? = some n) (hv : Vis X.env.scope n) (hi : ρ[i]? = some (.ow l ds)) (hk : ED X W (fun C => T.ex C ρ) a ρ (.int k)) (h : ED X W (fun C => T.ex C ρ) e ρ d) (hlt : k < 100000) (hz : ds.length < 100000) (q : T.nx (ρ.set i (.ow l (ds.take k ++ [d] ++ ds.drop k))))
    (hdb : (n == ("__debug__" : Str)) = false := by decide) (hcd : (n == ("__classdict__" : Str)) = false := by decide) (hs : starEach [a, e] X.env = (false, eval a X.env) :: starEach [e] X.env := by rfl) (hs2 : starEach [e] X.env = [(false, eval e X.env)] := by rfl) (hb : attributeBase (.Name n p2) "insert" X.env (eval (.Name n p2) X.env) = eval (.Name n p2) X.env := by rfl)
    (ha : (((backTo p (starEach [a, e] X.env)).all (fun x => !x.1) && (backToKw p (keywordEach [] X.env)).all (fun x => x.1.isSome)) && decide (([a, e].length + ([] : List Keyword).length + if ([] : List Keyword).isEmpty = true then 0 else 1) < 30)) = true := by rfl)
    (hl : (apos.endLine == p.line) = true := by rfl) (hz2 : (backTo p (starEach [e] X.env)).any (·.1) = false := by rfl)
    (hw : swapsWith (.Call (.Attribute (.Name n p2) "insert" apos) [a, e] [] p) none pos.line X.env = pure false := by rfl) : SD X W (.Expr (.Call (.Attribute (.Name n p2) "insert" apos) [a, e] [] p) pos) ρ T := fun F0 H0 F H σ D s lk => by
  obtain ⟨e1, hf, hb0, vs, hh, a0⟩ := s.e.ow hi
  refine w_s (ps_expr (pe_bm PySem.F.plainAttrs_list PySem.F.slot_list_insert PySem.F.type_list_insert mt_insert (pe_var hN hv hdb hcd) (pa_cons pe_w (pa_cons pe_w pa_nil hs2) hs) hb ha hl hs hz2) hw) ⟨_, e1, .inl ⟨rfl, vs, SqL.of hh⟩, ?_⟩
  refine hk H0 F H σ _ s.e (lk.xc s) fun v1 F1 H1 x1 i1 => h H0 F1 H1 σ _ (s.e.ext x1) ((lk.xc s).ext x1) fun v2 F2 H2 x2 i2 => ?_
  have x12 := x1.trans x2
  have hh2 := x12.h.g hh
  have s2 := s.go x12
  have a2 := a0.mono x12.f
  refine ⟨l, vs, k, v2, rfl, by rw [i1.int_eq], hh2, by rw [a2.len]; exact Nat.lt_of_lt_of_le hz (by decide), by omega, by omega, ?_⟩
  have E2 := s2.e.wr (es := ds.take k ++ [d] ++ ds.drop k) hi (((a2.take k).append (.cons i2 .nil)).append (a2.drop k))
  exact lk.nx _ σ F2 _ q ⟨⟨s2.x.f, s2.x.h.mut hb0, E2.i, s2.x.n, s2.x.t.mut hh2⟩, E2⟩
/-- x.extend(e) -/
theorem sd_extend (hN : X.N[i]? = some n) (hv : Vis X.env.scope n) (hi : ρ[i]? = some (.ow l ds)) (h : ED X W (fun C => T.ex C ρ) e ρ (.list es)) (hz : ds.length + es.length ≤ 100000) (q : T.nx (ρ.set i (.ow l (ds ++ es))))
    (hdb : (n == ("__debug__" : Str)) = false := by decide) (hcd : (n == ("__classdict__" : Str)) = false := by decide) (hs : starEach [e] X.env = [(false, eval e X.env)] := by rfl) (hb : attributeBase (.Name n p2) "extend" X.env (eval (.Name n p2) X.env) = eval (.Name n p2) X.env := by rfl)
    (ha : (((backTo p (starEach [e] X.env)).all (fun x => !x.1) && (backToKw p (keywordEach [] X.env)).all (fun x => x.1.isSome)) && decide (([e].length + ([] : List Keyword).length + if ([] : List Keyword).isEmpty = true then 0 else 1) < 30)) = true := by rfl)
    (hl : (apos.endLine == p.line) = true := by rfl) (hz2 : (backTo p (starEach [] X.env)).any (·.1) = false := by rfl)
    (hw : swapsWith (.Call (.Attribute (.Name n p2) "extend" apos) [e] [] p) none pos.line X.env = pure false := by rfl) : SD X W (.Expr (.Call (.Attribute (.Name n p2) "extend" apos) [e] [] p) pos) ρ T := fun F0 H0 F H σ D s lk => by
  obtain ⟨e1, hf, hb0, vs, hh, a0⟩ := s.e.ow hi
  refine w_s (ps_expr (pe_bm PySem.F.plainAttrs_list PySem.F.slot_list_extend PySem.F.type_list_extend mt_extend (pe_var hN hv hdb hcd) (pa_cons pe_w pa_nil hs) hb ha hl hs hz2) hw) ⟨_, e1, .inl ⟨rfl, vs, SqL.of hh⟩, ?_⟩
  refine h H0 F H σ _ s.e (lk.xc s) fun v1 F1 H1 x1 i1 => ?_
  cases i1 with
  | lst hr ia =>
  rename_i r ws
  have hh1 := x1.h.g hh
  have s1 := s.go x1
  have a1 := a0.mono x1.f
  refine ⟨l, r, vs, ws, rfl, rfl, hh1, x1.i.g hr, by rw [a1.len, ia.len]; exact Nat.le_trans hz (by decide), ?_⟩
  have E2 := s1.e.wr (es := ds ++ es) hi (a1.append ia)
  exact lk.nx _ σ F1 _ q ⟨⟨s1.x.f, s1.x.h.mut hb0, E2.i, s1.x.n, s1.x.t.mut hh1⟩, E2⟩
/-- o[::-1] -/
theorem el_rev {kk : Nat} (ho : EB X W ex o ρ ds) : EL X W ex (.Subscript o (.Slice none none (some (.UnaryOp .USub (.Constant (.int 1) kk p1) p2)) p3) pos) ρ ds.reverse := fun B F H σ Q E c q =>
  w_e (pe_revL pe_w) (ho B F H σ _ E c fun r vs F1 H1 x1 h1 a1 => ⟨r, vs, rfl, h1, fun u hu => by
    have x4 := Ext.kept (o := .lst vs.reverse) x1.i hu
    exact q u _ F1 _ (x1.trans x4) (x1.h.back hu) (x1.i.back hu) upd_same a1.reverse⟩)
/-- y = x.pop() -/
theorem sd_setPop {i2 : Nat} {n2 : Str} (nd : X.N.Nodup) (hN2 : X.N[i2]? = some n2) (hl2 : Loc X.env.scope n2) (hfn2 : X.fn n2 = true ∨ X.env.scope.names.lookup n2 = some .local) (hN : X.N[i]? = some n) (hv : Vis X.env.scope n) (hi : ρ[i]? = some (.ow l ds)) (hd : ds[ds.length - 1]? = some d) (q : T.nx ((ρ.set i (.ow l ds.dropLast)).set i2 (.sh d)))
    (hdb : (n == ("__debug__" : Str)) = false := by decide) (hcd : (n == ("__classdict__" : Str)) = false := by decide) (hb : attributeBase (.Name n p2) "pop" X.env (eval (.Name n p2) X.env) = eval (.Name n p2) X.env := by rfl) (hl : (apos.endLine == p.line) = true := by rfl)
    (hw : swapsWith (.Call (.Attribute (.Name n p2) "pop" apos) [] [] p) (some (.Name n2 p3)) pos.line X.env = pure false := by rfl) : SD X W (.Assign [.Name n2 p3] (.Call (.Attribute (.Name n p2) "pop" apos) [] [] p) pos) ρ T := fun F0 H0 F H σ D s lk => by
  obtain ⟨e1, hf, hb0, vs, hh, a0⟩ := s.e.ow hi
  obtain ⟨y, hy, iy⟩ := a0.get hd
  refine w_s (ps_set nd hN2 hl2 (pe_bm0 PySem.F.plainAttrs_list PySem.F.slot_list_pop PySem.F.type_list_pop mt_pop (pe_var hN hv hdb hcd) hb hl) hw hfn2) ⟨_, e1, .inl ⟨rfl, vs, SqL.of hh⟩, l, vs, y, rfl, rfl, hh, by rw [a0.len]; exact hy, ?_⟩
  have E2 := s.e.wr (es := ds.dropLast) hi a0.dropLast
  exact lk.nx _ _ F _ q ⟨⟨s.x.f, s.x.h.mut hb0, E2.i, s.x.n, s.x.t.mut hh⟩, E2.set (i := i2) (v := y) (s := .sh d) iy rfl⟩
end
end PD

set_option maxHeartbeats 4000000
/-! Layers of changes by their leans, heights, and the one order. -/
namespace K4M
open PySem LamK SrtO
section
variable {α : Type} {nm : α → Str} {ls : α → List Str} {cs : List α}
/-- the names placed after k layers -/
def plc (nm : α → Str) (ls : α → List Str) (cs : List α) : Nat → List Str
  | 0 => []
  | k + 1 => plc nm ls cs k ++ ((cs.filter fun c => !decide (nm c ∈ plc nm ls cs k)).filter fun c => (ls c).all fun l => decide (l ∈ plc nm ls cs k)).map nm
def left (nm : α → Str) (ls : α → List Str) (cs : List α) (k : Nat) : List α := cs.filter fun c => !decide (nm c ∈ plc nm ls cs k)
def layr (nm : α → Str) (ls : α → List Str) (cs : List α) (k : Nat) : List α := (left nm ls cs k).filter fun c => (ls c).all fun l => decide (l ∈ plc nm ls cs k)
theorem plc_succ (k : Nat) : plc nm ls cs (k + 1) = plc nm ls cs k ++ (layr nm ls cs k).map nm := rfl
theorem mem_left {k : Nat} {c : α} : c ∈ left nm ls cs k ↔ c ∈ cs ∧ nm c ∉ plc nm ls cs k := by
  unfold left
  rw [List.mem_filter]
  simp
theorem mem_layr {k : Nat} {c : α} : c ∈ layr nm ls cs k ↔ c ∈ cs ∧ nm c ∉ plc nm ls cs k ∧ ∀ l ∈ ls c, l ∈ plc nm ls cs k := by
  unfold layr
  rw [List.mem_filter, mem_left]
  simp [and_assoc]
theorem plc_mono {j k : Nat} (h : j ≤ k) {n : Str} (m : n ∈ plc nm ls cs j) : n ∈ plc nm ls cs k := by
  induction h with
  | refl => exact m
  | step _ ih => rw [plc_succ]; exact List.mem_append_left _ ih
theorem plc_layr : ∀ {k : Nat} {n : Str}, n ∈ plc nm ls cs k → ∃ j c, j < k ∧ c ∈ layr nm ls cs j ∧ nm c = n
  | 0, _, h => nomatch h
  | k + 1, n, h => by
    rw [plc_succ] at h
    rcases List.mem_append.mp h with h | h
    · obtain ⟨j, c, a, b⟩ := plc_layr h
      exact ⟨j, c, Nat.lt_succ_of_lt a, b⟩
    · obtain ⟨c, a, b⟩ := List.mem_map.mp h
      exact ⟨k, c, Nat.lt_succ_self _, a, b⟩
theorem layr_plc {j k : Nat} (h : j < k) {c : α} (m : c ∈ layr nm ls cs j) : nm c ∈ plc nm ls cs k := by
  refine plc_mono (Nat.succ_le_of_lt h) ?_
  rw [plc_succ]
  exact List.mem_append_right _ (List.mem_map_of_mem m)
/-- a change has one height -/
theorem layr_one {j k : Nat} {c d : α} (h : c ∈ layr nm ls cs j) (g : d ∈ layr nm ls cs k) (e : nm c = nm d) : j = k := by
  rcases Nat.lt_trichotomy j k with q | q | q
  · exact absurd (e ▸ layr_plc q h) (mem_layr.mp g).2.1
  · exact q
  · exact absurd (e ▸ layr_plc q g) (mem_layr.mp h).2.1
theorem left_succ (k : Nat) : left nm ls cs (k + 1) = (left nm ls cs k).filter fun c => !decide (nm c ∈ (layr nm ls cs k).map nm) := by
  unfold left
  rw [List.filter_filter]
  refine List.filter_congr fun c _ => ?_
  rw [plc_succ]
  by_cases a : nm c ∈ plc nm ls cs k <;> by_cases b : nm c ∈ (layr nm ls cs k).map nm <;> simp [a, b]
theorem left_less {k : Nat} (h : layr nm ls cs k ≠ []) : (left nm ls cs (k + 1)).length < (left nm ls cs k).length := by
  rw [left_succ]
  cases e : layr nm ls cs k with
  | nil => exact absurd e h
  | cons c r =>
    have hc : c ∈ layr nm ls cs k := by rw [e]; exact List.mem_cons_self
    have hl : c ∈ left nm ls cs k := (List.mem_filter.mp hc).1
    refine List.length_filter_lt_length_iff_exists.mpr ⟨c, hl, ?_⟩
    simp
/-- the rounds so far all placed something -/
def Live (nm : α → Str) (ls : α → List Str) (cs : List α) (k : Nat) : Prop := ∀ j, j < k → layr nm ls cs j ≠ []
theorem live_len : ∀ {k : Nat}, Live nm ls cs k → k + (left nm ls cs k).length ≤ cs.length
  | 0, _ => by
    rw [Nat.zero_add]
    exact List.length_filter_le _ _
  | k + 1, h => by
    have a := live_len (k := k) fun j hj => h j (Nat.lt_succ_of_lt hj)
    have b := left_less (h k (Nat.lt_succ_self _))
    omega
theorem stuck {k : Nat} (h : layr nm ls cs k = []) : ∀ {j : Nat}, k ≤ j → plc nm ls cs j = plc nm ls cs k := by
  intro j hj
  induction hj with
  | refl => rfl
  | @step j hj ih =>
    have e : layr nm ls cs j = layr nm ls cs k := by
      unfold layr left
      rw [ih]
    rw [plc_succ, ih, e, h]
    simp
/-! heights -/
def hGet (ht : List (Str × Int)) (n : Str) : Option Int := (ht.find? fun p => decide (p.1 = n)).map (·.2)
def hHas (ht : List (Str × Int)) (n : Str) : Bool := ht.any fun p => decide (p.1 = n)
def mx : List Int → Int
  | [] => 0
  | x :: r => if x > mx r then x else mx r
def hAdd (ht : List (Str × Int)) (ls : List Str) : List Int := ls.map fun l => (hGet ht l).getD 0 + 1
def stp (nm : α → Str) (ls : α → List Str) (ht : List (Str × Int)) (c : α) : List (Str × Int) := if (!hHas ht (nm c) && (ls c).all fun l => hHas ht l) = true then ht ++ [(nm c, mx (hAdd ht (ls c)))] else ht
def pass (nm : α → Str) (ls : α → List Str) (cs : List α) (ht : List (Str × Int)) : List (Str × Int) := cs.foldl (stp nm ls) ht
def lev (nm : α → Str) (ls : α → List Str) (cs : List α) : Nat → List (Str × Int)
  | 0 => []
  | t + 1 => pass nm ls cs (lev nm ls cs t)
theorem hHas_iff {ht : List (Str × Int)} {n : Str} : hHas ht n = true ↔ n ∈ ht.map (·.1) := by
  unfold hHas
  simp
theorem hGet_mem {ht : List (Str × Int)} {n : Str} {h : Int} (e : hGet ht n = some h) : (n, h) ∈ ht := by
  unfold hGet at e
  cases q : ht.find? (fun p => decide (p.1 = n)) with
  | none => rw [q] at e; cases e
  | some p =>
    rw [q] at e
    have h1 := List.find?_some q
    have h2 := List.mem_of_find?_eq_some q
    obtain ⟨a, b⟩ := p
    cases e
    have : a = n := of_decide_eq_true h1
    subst this
    exact h2
theorem hGet_has {ht : List (Str × Int)} {n : Str} (h : hHas ht n = true) : ∃ k, hGet ht n = some k := by
  unfold hGet
  cases q : ht.find? (fun p => decide (p.1 = n)) with
  | none =>
    have := List.find?_eq_none.mp q
    obtain ⟨p, hp, e⟩ := List.any_eq_true.mp h
    exact absurd e (this p hp)
  | some p => exact ⟨p.2, rfl⟩
theorem mx_ge : ∀ {l : List Int} {x : Int}, x ∈ l → x ≤ mx l
  | y :: r, x, h => by
    rw [mx]
    rcases List.mem_cons.mp h with e | h
    · rw [e]; split <;> omega
    · have := mx_ge h
      split <;> omega
theorem mx_mem : ∀ {l : List Int}, mx l = 0 ∨ mx l ∈ l
  | [] => .inl rfl
  | y :: r => by
    rw [mx]
    split
    · exact .inr List.mem_cons_self
    · rcases mx_mem (l := r) with h | h
      · exact .inl h
      · exact .inr (List.mem_cons_of_mem _ h)
theorem mx_nn : ∀ l : List Int, 0 ≤ mx l
  | [] => Int.le_refl _
  | y :: r => by
    have := mx_nn r
    rw [mx]
    split <;> omega
/-- each height is the layer -/
def HOk (nm : α → Str) (ls : α → List Str) (cs : List α) (ht : List (Str × Int)) : Prop := ∀ p ∈ ht, ∃ k c, p.2 = ((k : Nat) : Int) ∧ c ∈ layr nm ls cs k ∧ nm c = p.1
/-- no name stands twice -/
def Dis (nm : α → Str) (cs : List α) : Prop := ∀ c ∈ cs, ∀ d ∈ cs, nm c = nm d → c = d
theorem stp_ok (D : Dis nm cs) {ht : List (Str × Int)} (J : HOk nm ls cs ht) {c : α} (hc : c ∈ cs) : HOk nm ls cs (stp nm ls ht c) := by
  unfold stp
  split
  · rename_i h
    rw [Bool.and_eq_true, Bool.not_eq_true', List.all_eq_true] at h
    obtain ⟨h1, h2⟩ := h
    intro p hp
    rcases List.mem_append.mp hp with hp | hp
    · exact J p hp
    rw [List.mem_singleton.mp hp]
    -- the greatest of the leans' heights and one more
    obtain ⟨k, hk⟩ : ∃ k : Nat, mx (hAdd ht (ls c)) = k := ⟨(mx (hAdd ht (ls c))).toNat, by have := mx_nn (hAdd ht (ls c)); omega⟩
    refine ⟨k, c, hk, mem_layr.mpr ⟨hc, fun hin => ?_, fun l hl => ?_⟩, rfl⟩
    · obtain ⟨j, d, a, b, e⟩ := plc_layr hin
      rcases mx_mem (l := hAdd ht (ls c)) with z | z
      · omega
      · obtain ⟨l, hl, el⟩ := List.mem_map.mp z
        obtain ⟨q, hq⟩ := hGet_has (h2 l hl)
        rw [hq] at el
        obtain ⟨k2, c2, e2, m2, n2⟩ := J _ (hGet_mem hq)
        have e2 : q = (k2 : Int) := e2
        have el : q + 1 = mx (hAdd ht (ls c)) := el
        have hjk : j ≤ k2 := by omega
        have bm := mem_layr.mp b
        have ed : d = c := D d bm.1 c hc e
        subst ed
        have n2 : nm c2 = l := n2
        have q1 := bm.2.2 l hl
        rw [← n2] at q1
        exact (mem_layr.mp m2).2.1 (plc_mono hjk q1)
    · obtain ⟨q, hq⟩ := hGet_has (h2 l hl)
      obtain ⟨k2, c2, e2, m2, n2⟩ := J _ (hGet_mem hq)
      have e2 : q = (k2 : Int) := e2
      have : q + 1 ≤ mx (hAdd ht (ls c)) := mx_ge (List.mem_map.mpr ⟨l, hl, by rw [hq]; rfl⟩)
      have n2 : nm c2 = l := n2
      rw [← n2]
      exact layr_plc (by omega) m2
  · exact J
theorem fold_ok (D : Dis nm cs) : ∀ {xs : List α} {ht : List (Str × Int)}, (∀ c ∈ xs, c ∈ cs) → HOk nm ls cs ht → HOk nm ls cs (xs.foldl (stp nm ls) ht)
  | [], _, _, J => J
  | c :: r, ht, m, J => fold_ok D (xs := r) (fun d hd => m d (List.mem_cons_of_mem _ hd)) (stp_ok D J (m c List.mem_cons_self))
theorem lev_ok (D : Dis nm cs) : ∀ t : Nat, HOk nm ls cs (lev nm ls cs t)
  | 0 => fun p h => nomatch h
  | t + 1 => fold_ok D (fun _ h => h) (lev_ok D t)
theorem stp_mono {ht : List (Str × Int)} {c : α} {n : Str} (h : n ∈ ht.map (·.1)) : n ∈ (stp nm ls ht c).map (·.1) := by
  unfold stp
  split
  · rw [List.map_append]; exact List.mem_append_left _ h
  · exact h
theorem fold_mono {n : Str} : ∀ {xs : List α} {ht : List (Str × Int)}, n ∈ ht.map (·.1) → n ∈ (xs.foldl (stp nm ls) ht).map (·.1)
  | [], _, h => h
  | c :: r, _, h => fold_mono (xs := r) (stp_mono h)
theorem stp_in {ht : List (Str × Int)} {c : α} (h : ∀ l ∈ ls c, l ∈ ht.map (·.1)) : nm c ∈ (stp nm ls ht c).map (·.1) := by
  unfold stp
  split
  · rw [List.map_append]; exact List.mem_append_right _ List.mem_cons_self
  · rename_i q
    have a : (ls c).all (fun l => hHas ht l) = true := List.all_eq_true.mpr fun l hl => hHas_iff.mpr (h l hl)
    rw [a, Bool.and_true, Bool.not_eq_true', Bool.not_eq_false] at q
    exact hHas_iff.mp q
theorem fold_in {c : α} : ∀ {xs : List α} {ht : List (Str × Int)}, c ∈ xs → (∀ l ∈ ls c, l ∈ ht.map (·.1)) → nm c ∈ (xs.foldl (stp nm ls) ht).map (·.1)
  | d :: r, ht, m, h => by
    rcases List.mem_cons.mp m with e | m
    · rw [List.foldl_cons, ← e]
      exact fold_mono (stp_in h)
    · rw [List.foldl_cons]
      exact fold_in m fun l hl => stp_mono (h l hl)
theorem lev_all : ∀ (t : Nat) {n : Str}, n ∈ plc nm ls cs t → n ∈ (lev nm ls cs t).map (·.1)
  | 0, _, h => nomatch h
  | t + 1, n, h => by
    rw [plc_succ] at h
    rcases List.mem_append.mp h with h | h
    · exact fold_mono (lev_all t h)
    · obtain ⟨c, hc, e⟩ := List.mem_map.mp h
      rw [← e]
      have q := mem_layr.mp hc
      exact fold_in q.1 fun l hl => lev_all t (q.2.2 l hl)
theorem stp_nd {ht : List (Str × Int)} {c : α} (h : (ht.map (·.1)).Nodup) : ((stp nm ls ht c).map (·.1)).Nodup := by
  unfold stp
  split
  · rename_i q
    rw [Bool.and_eq_true, Bool.not_eq_true'] at q
    have : nm c ∉ ht.map (·.1) := fun z => by rw [hHas_iff.mpr z] at q; cases q.1
    rw [List.map_append]
    refine List.nodup_append.mpr ⟨h, by simp, fun a ha b hb e => ?_⟩
    have hb : b = nm c := List.mem_singleton.mp hb
    exact this (by rw [← hb, ← e]; exact ha)
  · exact h
theorem fold_nd : ∀ {xs : List α} {ht : List (Str × Int)}, (ht.map (·.1)).Nodup → ((xs.foldl (stp nm ls) ht).map (·.1)).Nodup
  | [], _, h => h
  | c :: r, _, h => fold_nd (xs := r) (stp_nd h)
theorem lev_nd : ∀ t : Nat, ((lev nm ls cs t).map (·.1)).Nodup
  | 0 => List.nodup_nil
  | t + 1 => fold_nd (lev_nd t)
theorem lev_sub (D : Dis nm cs) (t : Nat) : ∀ n ∈ (lev nm ls cs t).map (·.1), n ∈ cs.map nm := fun n h => by
  obtain ⟨p, hp, e⟩ := List.mem_map.mp h
  obtain ⟨k, c, _, a, b⟩ := lev_ok D t p hp
  rw [← e, ← b]
  exact List.mem_map_of_mem (mem_layr.mp a).1
theorem nd_len : ∀ {l m : List Str}, l.Nodup → (∀ x ∈ l, x ∈ m) → l.length ≤ m.length
  | [], _, _, _ => Nat.zero_le _
  | x :: r, m, h, s => by
    have hx := s x List.mem_cons_self
    have h2 := List.nodup_cons.mp h
    have q := nd_len (m := m.erase x) h2.2 fun y hy => by
      refine (List.mem_erase_of_ne fun e => ?_).mpr (s y (List.mem_cons_of_mem _ hy))
      rw [e] at hy
      exact h2.1 hy
    rw [List.length_erase_of_mem hx] at q
    have : 0 < m.length := List.length_pos_of_mem hx
    rw [List.length_cons]
    omega
theorem lev_len_le (D : Dis nm cs) (t : Nat) : (lev nm ls cs t).length ≤ cs.length := by
  have q := nd_len (lev_nd t) (lev_sub (ls := ls) D t)
  simpa using q
/-- no ring: all have a height -/
theorem full (D : Dis nm cs) (nd : (cs.map nm).Nodup) {m : Nat} (L : Live nm ls cs m) (e : left nm ls cs m = []) : (lev nm ls cs cs.length).length = cs.length := by
  have hm : m ≤ cs.length := by have := live_len L; omega
  refine Nat.le_antisymm (lev_len_le D _) ?_
  have sub : ∀ n ∈ cs.map nm, n ∈ (lev nm ls cs cs.length).map (·.1) := fun n h => by
    obtain ⟨c, hc, rfl⟩ := List.mem_map.mp h
    refine lev_all _ (plc_mono hm ?_)
    by_cases q : nm c ∈ plc nm ls cs m
    · exact q
    · have : c ∈ left nm ls cs m := mem_left.mpr ⟨hc, q⟩
      rw [e] at this
      cases this
  have q := nd_len nd sub
  simpa using q
/-- a ring: some have none -/
theorem ring (D : Dis nm cs) (nd : (cs.map nm).Nodup) {m : Nat} (e : layr nm ls cs m = []) {c : α} (hc : c ∈ left nm ls cs m) : (lev nm ls cs cs.length).length < cs.length := by
  have hn : nm c ∉ (lev nm ls cs cs.length).map (·.1) := fun h => by
    obtain ⟨p, hp, e1⟩ := List.mem_map.mp h
    obtain ⟨k, d, _, a, b⟩ := lev_ok D cs.length p hp
    have a1 : nm d ∈ plc nm ls cs (k + 1) := layr_plc (Nat.lt_succ_self _) a
    have a2 : nm d ∈ plc nm ls cs (max (k + 1) m) := plc_mono (Nat.le_max_left _ _) a1
    rw [stuck e (Nat.le_max_right _ _), b, e1] at a2
    exact (mem_left.mp hc).2 a2
  have hcs := (mem_left.mp hc).1
  have sub : ∀ n ∈ nm c :: (lev nm ls cs cs.length).map (·.1), n ∈ cs.map nm := fun n h => by
    rcases List.mem_cons.mp h with h | h
    · rw [h]; exact List.mem_map_of_mem hcs
    · exact lev_sub D _ n h
  have q := nd_len (List.nodup_cons.mpr ⟨hn, lev_nd _⟩) sub
  simp at q
  omega
/-! the one order -/
def gtN (nm : α → Str) (c d : α) : Prop := (nm d).cps.toList < (nm c).cps.toList
/-- lesser height first, of one height the greater name -/
def Rk (nm : α → Str) (ls : α → List Str) (cs : List α) (c d : α) : Prop := ∃ h k, c ∈ layr nm ls cs h ∧ d ∈ layr nm ls cs k ∧ (h < k ∨ (h = k ∧ gtN nm c d))
theorem Rk.anti {c d : α} (a : Rk nm ls cs c d) (b : Rk nm ls cs d c) : c = d := by
  obtain ⟨h, k, a1, a2, a3⟩ := a
  obtain ⟨k2, h2, b1, b2, b3⟩ := b
  have e1 := layr_one a1 b2 rfl
  have e2 := layr_one a2 b1 rfl
  rcases a3 with a3 | ⟨a3, a4⟩
  · rcases b3 with b3 | ⟨b3, _⟩ <;> omega
  · rcases b3 with b3 | ⟨_, b4⟩
    · omega
    · exact absurd b4 (List.lt_asymm a4)
theorem one_order {xs ys : List α} (p : xs.Perm ys) (h : xs.Pairwise (Rk nm ls cs)) (g : ys.Pairwise (Rk nm ls cs)) : xs = ys :=
  List.Perm.eq_of_pairwise (fun a b _ _ h k => Rk.anti h k) h g p
/-- rows of one height, one behind the other -/
theorem rows_pw {f : Nat → List α} (hm : ∀ k, ∀ c ∈ f k, c ∈ layr nm ls cs k) (hp : ∀ k, (f k).Pairwise (gtN nm)) : ∀ m, ((List.range m).map f).flatten.Pairwise (Rk nm ls cs)
  | 0 => List.Pairwise.nil
  | m + 1 => by
    rw [List.range_succ, List.map_append, List.flatten_append]
    refine List.pairwise_append.mpr ⟨rows_pw hm hp m, ?_, fun a ha b hb => ?_⟩
    · have e : (List.map f [m]).flatten = f m := by simp
      rw [e]
      refine (List.pairwise_iff_forall_sublist.mpr fun {a b} s => ?_)
      have q := s.subset
      exact ⟨m, m, hm m a (q (by simp)), hm m b (q (by simp)), .inr ⟨rfl, List.pairwise_iff_forall_sublist.mp (hp m) s⟩⟩
    · have hb : b ∈ f m := by simpa using hb
      obtain ⟨l, hl, hal⟩ := List.mem_flatten.mp ha
      obtain ⟨k, hk, e⟩ := List.mem_map.mp hl
      subst e
      exact ⟨k, m, hm k a hal, hm m b hb, .inl (List.mem_range.mp hk)⟩
theorem rows_perm (D : Dis nm cs) {f : Nat → List α} (hm : ∀ k, (f k).Perm (layr nm ls cs k)) {m : Nat} : (((List.range m).map f).flatten ++ left nm ls cs m).Perm cs := by
  induction m with
  | zero =>
    have e : left nm ls cs 0 = cs := by
      unfold left
      exact List.filter_eq_self.mpr fun c _ => by simp [plc]
    rw [e]
    exact List.Perm.refl _
  | succ m ih =>
    rw [List.range_succ, List.map_append, List.flatten_append, List.append_assoc]
    refine (List.Perm.append_left _ ?_).trans ih
    have e : (List.map f [m]).flatten = f m := by simp
    rw [e]
    have e2 : left nm ls cs (m + 1) = (left nm ls cs m).filter fun c => !((ls c).all fun l => decide (l ∈ plc nm ls cs m)) := by
      rw [left_succ]
      refine List.filter_congr fun c hc => congrArg (!·) ?_
      by_cases q : (ls c).all (fun l => decide (l ∈ plc nm ls cs m)) = true
      · rw [q]
        refine decide_eq_true (List.mem_map_of_mem (List.mem_filter.mpr ⟨hc, q⟩))
      · rw [Bool.eq_false_iff.mpr q]
        refine decide_eq_false fun z => ?_
        obtain ⟨d, hd, e3⟩ := List.mem_map.mp z
        have := D d (mem_layr.mp hd).1 c (mem_left.mp hc).1 e3
        rw [this] at hd
        exact q (List.mem_filter.mp hd).2
    rw [e2]
    exact (List.Perm.append_right _ (hm m)).trans (List.filter_append_perm _ _)
theorem rows_all (D : Dis nm cs) {f : Nat → List α} (hm : ∀ k, (f k).Perm (layr nm ls cs k)) {m : Nat} (e : left nm ls cs m = []) : ((List.range m).map f).flatten.Perm cs := by
  have q := rows_perm D hm (m := m)
  rw [e, List.append_nil] at q
  exact q
/-- by names, falling -/
def byN (nm : α → Str) (cs : List α) : List α := (isort (fun x y => ltL (nm x).cps.toList (nm y).cps.toList) cs.reverse).reverse
def hgt (nm : α → Str) (ls : α → List Str) (cs : List α) (c : α) : Int := (hGet (lev nm ls cs cs.length) (nm c)).getD 0
def dueO (nm : α → Str) (ls : α → List Str) (cs : List α) : List α := isort (fun x y => ltZ (hgt nm ls cs x) (hgt nm ls cs y)) (byN nm cs)
theorem byN_perm : (byN nm cs).Perm cs := (List.reverse_perm _).trans ((isort_perm _).trans (List.reverse_perm _))
theorem byN_pw (nd : (cs.map nm).Nodup) : (byN nm cs).Pairwise (gtN nm) := by
  unfold byN
  rw [List.pairwise_reverse]
  have h := isort_srtd (swo_pull swo_L fun c : α => (nm c).cps.toList) cs.reverse
  have p : (isort (fun x y => ltL (nm x).cps.toList (nm y).cps.toList) cs.reverse).Perm cs := (isort_perm _).trans (List.reverse_perm _)
  have n2 : ((isort (fun x y => ltL (nm x).cps.toList (nm y).cps.toList) cs.reverse).map nm).Nodup := (p.map nm).nodup_iff.mpr nd
  have n3 := List.pairwise_map.mp n2
  refine (h.and n3).imp fun {a b} q => ?_
  have q1 : ¬ (nm b).cps.toList < (nm a).cps.toList := of_decide_eq_false (p := (nm b).cps.toList < (nm a).cps.toList) q.1
  show (nm a).cps.toList < (nm b).cps.toList
  refine Decidable.byContradiction fun k => q.2 ?_
  exact LW.cs_ext (LW.le_as q1 k)
theorem dueO_perm : (dueO nm ls cs).Perm cs := (isort_perm _).trans byN_perm
theorem dueO_pw (D : Dis nm cs) (nd : (cs.map nm).Nodup) (fl : (lev nm ls cs cs.length).length = cs.length) : (dueO nm ls cs).Pairwise (Rk nm ls cs) := by
  have hh : ∀ c ∈ cs, ∃ k : Nat, hgt nm ls cs c = k ∧ c ∈ layr nm ls cs k := fun c hc => by
    have hin : nm c ∈ (lev nm ls cs cs.length).map (·.1) := Decidable.byContradiction fun z => by
      have sub : ∀ n ∈ nm c :: (lev nm ls cs cs.length).map (·.1), n ∈ cs.map nm := fun n h => by
        rcases List.mem_cons.mp h with h | h
        · rw [h]; exact List.mem_map_of_mem hc
        · exact lev_sub D _ n h
      have q := nd_len (List.nodup_cons.mpr ⟨z, lev_nd _⟩) sub
      simp at q
      omega
    obtain ⟨k, hk⟩ := hGet_has (hHas_iff.mpr hin)
    obtain ⟨j, d, e1, m1, e2⟩ := lev_ok D cs.length _ (hGet_mem hk)
    have e3 : d = c := D d (mem_layr.mp m1).1 c hc e2
    subst e3
    refine ⟨j, ?_, m1⟩
    unfold hgt
    rw [hk]
    exact e1
  have O := swo_pull swo_Z (hgt nm ls cs)
  have s := isort_srtd O (byN nm cs)
  have b := isort_stb O (byN nm cs)
  refine List.pairwise_iff_forall_sublist.mpr fun {x y} sub => ?_
  have hx : x ∈ cs := dueO_perm.mem_iff.mp (sub.subset (by simp))
  have hy : y ∈ cs := dueO_perm.mem_iff.mp (sub.subset (by simp))
  obtain ⟨k, k1, k2⟩ := hh x hx
  obtain ⟨j, j1, j2⟩ := hh y hy
  have le : ¬ hgt nm ls cs y < hgt nm ls cs x := of_decide_eq_false (p := hgt nm ls cs y < hgt nm ls cs x) (List.pairwise_iff_forall_sublist.mp s sub)
  refine ⟨k, j, k2, j2, ?_⟩
  by_cases q : k < j
  · exact .inl q
  · have ekj : k = j := by omega
    refine .inr ⟨ekj, ?_⟩
    have f1 := sub.filter (eqv (fun x y => ltZ (hgt nm ls cs x) (hgt nm ls cs y)) x)
    have e0 : ([x, y] : List α).filter (eqv (fun x y => ltZ (hgt nm ls cs x) (hgt nm ls cs y)) x) = [x, y] := by
      refine List.filter_eq_self.mpr fun z hz => ?_
      have ez : hgt nm ls cs z = hgt nm ls cs x := by
        rcases List.mem_cons.mp hz with e | hz
        · rw [e]
        · rw [List.mem_singleton.mp hz, j1, k1, ekj]
      refine eqv_iff.mpr ⟨decide_eq_false ?_, decide_eq_false ?_⟩ <;> rw [ez] <;> exact Int.lt_irrefl _
    rw [e0] at f1
    have f2 : [x, y].Sublist (byN nm cs) := by
      have f3 : [x, y].Sublist ((byN nm cs).filter (eqv (fun x y => ltZ (hgt nm ls cs x) (hgt nm ls cs y)) x)) := by
        rw [← b.cls x]
        exact f1
      exact f3.trans List.filter_sublist
    exact List.pairwise_iff_forall_sublist.mp (byN_pw nd) f2
end
end K4M

set_option maxHeartbeats 4000000
/-! the laws' plain model: changes that keep their leans, heights as a dict -/
namespace LW
open PySem L2 PD PyProof.Rows K4M
variable [PD.TabC]
/-- heights as a dict's pairs -/
def htD (ht : List (Str × Int)) : List (Str × PyData) := ht.map fun p => (p.1, .int p.2)
theorem hasD_ht (ht : List (Str × Int)) (z : Str) : hasD (htD ht) z = hHas ht z := by
  unfold hasD htD hHas
  rw [List.any_map]; rfl
theorem getD_ht : ∀ {ht : List (Str × Int)} {z : Str} {h : Int}, hGet ht z = some h → getD' (htD ht) z = some (.int h)
  | [], z, h, e => by unfold hGet at e; simp at e
  | p :: r, z, h, e => by
    unfold hGet at e
    unfold getD' htD
    rw [List.map_cons, List.find?_cons]
    rw [List.find?_cons] at e
    by_cases q : p.1 = z
    · simp only [q, decide_true] at e ⊢
      cases e; rfl
    · simp only [q, decide_false] at e ⊢
      exact getD_ht (ht := r) e
theorem putD_ht {ht : List (Str × Int)} {z : Str} {h : Int} (q : hHas ht z = false) : putD (htD ht) z (.int h) = htD (ht ++ [(z, h)]) := by
  unfold putD
  rw [hasD_ht, q, if_neg Bool.false_ne_true]
  unfold htD
  rw [List.map_append]; rfl
theorem mxD_eq : ∀ l : List Int, mxD l = mx l
  | [] => rfl
  | x :: r => by rw [mxD, mx, mxD_eq r]
/-- each change's name is new, its leans stand ahead -/
structure Kp (chs : List Change) : Prop where
  new : ∀ (i : Nat) (c : Change), chs[i]? = some c → c.n ∉ (chs.take i).map Change.n
  ln : ∀ (i : Nat) (c : Change), chs[i]? = some c → ∀ l ∈ c.ls, l ∈ (chs.take i).map Change.n
/-- heights, change by change -/
def hts : List Change → List (Str × Int) → List (Str × Int)
  | [], ht => ht
  | c :: r, ht => hts r (ht ++ [(c.n, mx (hAdd ht c.ls))])
theorem hts_snoc : ∀ (xs : List Change) (c : Change) (ht : List (Str × Int)), hts (xs ++ [c]) ht = hts xs ht ++ [(c.n, mx (hAdd (hts xs ht) c.ls))]
  | [], _, _ => rfl
  | x :: r, c, ht => hts_snoc r c _
theorem hts_names : ∀ (xs : List Change) (ht : List (Str × Int)), (hts xs ht).map (·.1) = ht.map (·.1) ++ xs.map Change.n
  | [], ht => (List.append_nil _).symm
  | x :: r, ht => by
    show (hts r _).map (·.1) = _
    rw [hts_names r, List.map_append, List.append_assoc]; rfl
theorem hts_nn : ∀ (xs : List Change) (ht : List (Str × Int)), (∀ p ∈ ht, 0 ≤ p.2) → ∀ p ∈ hts xs ht, 0 ≤ p.2
  | [], ht, h => h
  | x :: r, ht, h => hts_nn r _ fun p hp => by
    rcases List.mem_append.mp hp with hp | hp
    · exact h p hp
    · rw [List.mem_singleton.mp hp]; exact mx_nn _
theorem hAdd_nn {ht : List (Str × Int)} (h : ∀ p ∈ ht, 0 ≤ p.2) (ls : List Str) : ∀ y ∈ hAdd ht ls, 0 ≤ y := by
  intro y hy
  obtain ⟨l, _, rfl⟩ := List.mem_map.mp hy
  cases q : hGet ht l with
  | none => show (0 : Int) ≤ 0 + 1; decide
  | some k =>
    have : 0 ≤ k := h _ (hGet_mem q)
    show 0 ≤ k + 1
    omega
end LW

set_option maxHeartbeats 4000000
namespace N14
variable [PD.TabC]
open PySem L2 PD PyProof.Rows LW K4M
section
variable {P : Program} {w : World} {K : PySem.W.Frag} {mg : Str → Option Value} {base : Heap}
/-! ### _law_heights -/
abbrev sHeights : Stmt := topS 11
abbrev nHeights : List Str := ["_law_changes_here", "_law_found", "_law_change", "_law_lean"]
theorem scHeights : FnScope nHeights ["_law_changes_here"] (defScope sHeights) := ⟨rfl, rfl, rfl, by decide +kernel, rfl, by decide +kernel, by decide +kernel⟩
theorem ndHeights : (nHeights).Nodup := scHeights.nd
theorem loHeights : (["_law_changes_here", "_law_found", "_law_change"] : List Str).all (locB (defScope sHeights)) = true := by decide +kernel
theorem glHeights : (["max"] : List Str).all (glB (defScope sHeights)) = true := by decide +kernel
def rHeights (K : PySem.W.Frag) : List Sl → DOut → Prop := fun as o => ∃ chs : List LW.Change, as = [.bo (chs.map LW.qC)] ∧ chs.length ≤ 1000 ∧ (∀ c ∈ chs, c.ls.length ≤ 1000) ∧ Kp chs ∧ o = .own (dP K (htD (hts chs [])))
theorem okHeights {f : Addr} {fd : FuncData} (F : Fun K "_law_heights" "_law_heights" sHeights f fd) (mmax : mg "max" = none) : FnOk P w K mg base (L2N.CX P w) 1 f fd ["_law_changes_here"] (spD K 1 (rHeights K)) := by
  refine fnD F scHeights (by decide) fun cdv A outer s H E as o hr hl hR => ?_
  obtain ⟨chs, rfl, tl, ll, kp, rfl⟩ := hR
  have hc : (cxOf (L2N.CX P w) P w K mg base nHeights "_law_heights" (defScope sHeights) f cdv A outer s H E).calm = true := rfl
  refine sds_cons (sd_dnew (i := 1) ndHeights rfl (loc_of loHeights 1) (.inl rfl) (fun r1 => ?_))
  refine sds_cons (sd_for (fun i ρ => ∃ s2 s3, ρ = [.bo (chs.map LW.qC), od K r1 (htD (hts (chs.take i) [])), s2, s3]) (L2.passes_of rfl) hc (j := 2) ndHeights rfl (loc_of loHeights 2) (.inl rfl) (ep_v loHeights 0) ⟨_, _, rfl⟩ (fun i d ρ1 hi hI => ?_) (fun ρ1 hI => ?_))
  · obtain ⟨s2, s3, rfl⟩ := hI
    rw [List.getElem?_map] at hi
    cases hx : chs[i]? with
    | none => rw [hx] at hi; cases hi
    | some x =>
    rw [hx] at hi
    cases hi
    have mx' := List.mem_of_getElem? hx
    have hxl := ll x mx'
    have e1 : hts (chs.take (i + 1)) [] = hts (chs.take i) [] ++ [(x.n, mx (hAdd (hts (chs.take i) []) x.ls))] := by
      rw [List.take_add_one, hx]; exact hts_snoc _ _ _
    have nm := hts_names (chs.take i) []
    have nn : ∀ p ∈ hts (chs.take i) [], 0 ≤ p.2 := hts_nn _ _ fun p h => nomatch h
    have len : (hts (chs.take i) []).length ≤ 1000 := by
      have := congrArg List.length nm
      simp only [List.map_nil, List.nil_append, List.length_map, List.length_take] at this
      omega
    have k1 : hHas (hts (chs.take i) []) x.n = false := by
      cases q : hHas (hts (chs.take i) []) x.n with
      | false => rfl
      | true =>
        rw [hHas_iff, nm] at q
        exact absurd q (kp.new i x hx)
    have k2 : ∀ l ∈ x.ls, hHas (hts (chs.take i) []) l = true := fun l hl => by
      rw [hHas_iff, nm]
      exact kp.ln i x hx l hl
    generalize hh : hts (chs.take i) [] = ht at *
    refine sds_one (sd_dput (i := 1) (k := x.n) (d := .int (mx (hAdd ht x.ls))) (hu_of hr) rfl (vis_of (loc_of loHeights 1)) rfl (ED.to (ed_maxDef (ns := hAdd ht x.ls) hc (EL.rd (EL.to (el_lc (j := 3) ⟨hc, ndHeights, blkOk_by (N := nHeights) (sc := defScope sHeights) (by decide +kernel), by decide, rfl, rfl, by intro _; rfl⟩ x.ls PyData.str (fun _ => true) (fun l => .int ((hGet ht l).getD 0 + 1)) (ED.pst (ed_ixT (ds := [_, .list (x.ls.map .str), _]) (ed_v loHeights 2) ed_int (atI_nat (j := 1) rfl))) (by omega) (fun x hx s H C cl fp => rfl) (fun l hl _ s H C cl fp => ?_)) (by rw [lc_all]; unfold hAdd; rw [List.map_map]; rfl))) (hAdd_nn nn x.ls) (gl_of glHeights 0) mmax) (by rw [mxD_eq])) (ed_ixT (ds := [.str x.n, _, _]) (ed_v loHeights 2) ed_int (atI_nat (j := 0) rfl)) (by unfold htD; rw [List.length_map]; omega) ⟨.sh (LW.qC x), s3, ?_⟩)
    · obtain ⟨q, hq⟩ := hGet_has (k2 l hl)
      exact ED.to (ed_add (ed_dget (k := l) (d := .int q) (hu_of hr) (edo_b 1) (ed_b 3) (getD_ht hq)) ed_int) (by rw [hq]; rfl)
    · rw [putD_ht k1, e1]; rfl
  · obtain ⟨s2, s3, rfl⟩ := hI
    rw [List.length_map, List.take_length]
    exact sds_one (sd_retD (i := 1) rfl (vis_of (loc_of loHeights 1)) rfl (fun v fp F H q => q))
end
end N14

set_option maxHeartbeats 4000000
/-! the laws' plain model: what a change rests on, at whatever remove; some of the names -/
namespace LW
open PySem L2 PD PyProof.Rows K4M
variable [PD.TabC]
/-! some -/
def smNext (c : Int) (k : Nat) (left : Int) : Int := if decide (left / 3 < 3) = true then mixed c ((k : Int) + 4) else left / 3
def smLeft (c : Int) : Nat → Int
  | 0 => mixed c 3
  | k + 1 => smNext c k (smLeft c k)
def smAt (c : Int) (chs : List Change) : Nat → List Str
  | 0 => []
  | k + 1 => if decide (smLeft c k % 3 = 0) = true then smAt c chs k ++ [((chs[k]?).map Change.n).getD ("" : Str)] else smAt c chs k
def someOf (c : Int) (chs : List Change) : List Str := smAt c chs chs.length
theorem smAt_len (c : Int) (chs : List Change) : ∀ k, (smAt c chs k).length ≤ k
  | 0 => Nat.le_refl _
  | k + 1 => by
    have := smAt_len c chs k
    rw [smAt]
    split
    · rw [List.length_append, List.length_singleton]; omega
    · omega
theorem smAt_mem (c : Int) (chs : List Change) : ∀ k, k ≤ chs.length → ∀ n ∈ smAt c chs k, n ∈ chs.map Change.n
  | 0, _, n, h => nomatch h
  | k + 1, hk, n, h => by
    have ih := smAt_mem c chs k (by omega)
    rw [smAt] at h
    split at h
    · rcases List.mem_append.mp h with h | h
      · exact ih n h
      · rw [List.mem_singleton.mp h, List.getElem?_eq_getElem (show k < chs.length by omega)]
        exact List.mem_map_of_mem (List.getElem_mem _)
    · exact ih n h
theorem someOf_mem (c : Int) (chs : List Change) : ∀ n ∈ someOf c chs, n ∈ chs.map Change.n := smAt_mem c chs _ (Nat.le_refl _)
/-! ground -/
def lsOf (chs : List Change) (x : Str) : List Str := ((chs.find? fun c => decide (c.n = x)).map Change.ls).getD []
def gnd (chs : List Change) : Nat → List Str → List Str → List Str
  | 0, _, f => f
  | k + 1, w, f => match w[w.length - 1]? with
    | none => f
    | some x => if x ∈ f then gnd chs k w.dropLast f else gnd chs k (w.dropLast ++ lsOf chs x) (f ++ [x])
/-- what is still to do -/
def gmu (chs : List Change) (w f : List Str) : Nat := w.length + ((chs.filter fun c => !decide (c.n ∈ f)).map fun c => c.ls.length + 1).sum
def gndOf (chs : List Change) (names : List Str) : List Str := gnd chs (gmu chs names []) names []
theorem sum_drop {α : Type} {p p' : α → Bool} {g : α → Nat} (h : ∀ c, p' c = true → p c = true) : ∀ {xs : List α}, ((xs.filter p').map g).sum ≤ ((xs.filter p).map g).sum
  | [] => Nat.le_refl _
  | x :: r => by
    have ih := sum_drop h (g := g) (xs := r)
    cases a : p' x with
    | true => rw [List.filter_cons_of_pos a, List.filter_cons_of_pos (h x a), List.map_cons, List.map_cons, List.sum_cons, List.sum_cons]; omega
    | false =>
      rw [List.filter_cons_of_neg (by rw [a]; exact Bool.false_ne_true)]
      cases b : p x with
      | true => rw [List.filter_cons_of_pos b, List.map_cons, List.sum_cons]; omega
      | false => rw [List.filter_cons_of_neg (by rw [b]; exact Bool.false_ne_true)]; exact ih
theorem sum_less {α : Type} {p p' : α → Bool} {g : α → Nat} (h : ∀ c, p' c = true → p c = true) {c : α} (h1 : p c = true) (h2 : p' c = false) : ∀ {xs : List α}, c ∈ xs → ((xs.filter p').map g).sum + g c ≤ ((xs.filter p).map g).sum
  | x :: r, m => by
    rcases List.mem_cons.mp m with e | m
    · subst e
      have := sum_drop h (g := g) (xs := r)
      rw [List.filter_cons_of_neg (by rw [h2]; exact Bool.false_ne_true), List.filter_cons_of_pos h1, List.map_cons, List.sum_cons]
      omega
    · have ih := sum_less h h1 h2 (g := g) m
      cases a : p' x with
      | true => rw [List.filter_cons_of_pos a, List.filter_cons_of_pos (h x a), List.map_cons, List.map_cons, List.sum_cons, List.sum_cons]; omega
      | false =>
        rw [List.filter_cons_of_neg (by rw [a]; exact Bool.false_ne_true)]
        cases b : p x with
        | true => rw [List.filter_cons_of_pos b, List.map_cons, List.sum_cons]; omega
        | false => rw [List.filter_cons_of_neg (by rw [b]; exact Bool.false_ne_true)]; exact ih
theorem lsOf_find {chs : List Change} {x : Str} (h : x ∈ chs.map Change.n) : ∃ c ∈ chs, c.n = x ∧ lsOf chs x = c.ls := by
  obtain ⟨c0, m0, e0⟩ := List.mem_map.mp h
  unfold lsOf
  cases q : chs.find? (fun c => decide (c.n = x)) with
  | none => exact absurd (decide_eq_true e0) (List.find?_eq_none.mp q c0 m0)
  | some c => exact ⟨c, List.mem_of_find?_eq_some q, of_decide_eq_true (List.find?_some (p := fun c : Change => decide (c.n = x)) q), rfl⟩
theorem last_some {α : Type} {w : List α} (h : w ≠ []) : ∃ x, w[w.length - 1]? = some x ∧ w = w.dropLast ++ [x] := by
  refine ⟨w.getLast h, ?_, (List.dropLast_concat_getLast h).symm⟩
  rw [← List.getLast?_eq_getElem?, List.getLast?_eq_some_getLast h]
theorem gmu_old {chs : List Change} {w f : List Str} (h : w ≠ []) : gmu chs w.dropLast f < gmu chs w f := by
  have := List.length_pos_iff.mpr h
  unfold gmu
  rw [List.length_dropLast]
  omega
theorem gmu_new {chs : List Change} {w f : List Str} {x : Str} (h : w ≠ []) (hx : x ∈ chs.map Change.n) (hf : x ∉ f) : gmu chs (w.dropLast ++ lsOf chs x) (f ++ [x]) < gmu chs w f := by
  have := List.length_pos_iff.mpr h
  obtain ⟨c, mc, en, el⟩ := lsOf_find hx
  have q := sum_less (p := fun c : Change => !decide (c.n ∈ f)) (p' := fun c : Change => !decide (c.n ∈ f ++ [x])) (g := fun c : Change => c.ls.length + 1) (fun c h => by
    simp only [Bool.not_eq_true', decide_eq_false_iff_not, List.mem_append, not_or] at h ⊢
    exact h.1) (c := c) (by rw [en]; simpa using hf) (by rw [en]; simp) mc
  unfold gmu
  rw [List.length_append, List.length_dropLast, el]
  omega
theorem gnd_nil (chs : List Change) (f : List Str) : ∀ k, gnd chs k [] f = f
  | 0 => rfl
  | _ + 1 => rfl
/-- closed under leans -/
def Clo (chs : List Change) (t : List Str) : Prop := ∀ c ∈ chs, c.n ∈ t → ∀ l ∈ c.ls, l ∈ t
theorem Kp.dis {chs : List Change} (kp : Kp chs) : ∀ c ∈ chs, ∀ d ∈ chs, c.n = d.n → c = d := by
  have key : ∀ (i j : Nat) (c d : Change), chs[i]? = some c → chs[j]? = some d → i < j → c.n ≠ d.n := fun i j c d hi hj h e => by
    refine kp.new j d hj ?_
    rw [← e]
    refine List.mem_map_of_mem (List.mem_of_getElem? (i := i) ?_)
    rw [List.getElem?_take, if_pos h]; exact hi
  intro c hc d hd e
  obtain ⟨i, hi⟩ := List.getElem?_of_mem hc
  obtain ⟨j, hj⟩ := List.getElem?_of_mem hd
  rcases Nat.lt_trichotomy i j with q | q | q
  · exact absurd e (key i j c d hi hj q)
  · subst q; rw [hi] at hj; exact Option.some.inj hj
  · exact absurd e.symm (key j i d c hj hi q)
theorem Kp.sub {chs : List Change} (kp : Kp chs) : ∀ c ∈ chs, ∀ l ∈ c.ls, l ∈ chs.map Change.n := fun c hc l hl => by
  obtain ⟨i, hi⟩ := List.getElem?_of_mem hc
  obtain ⟨d, hd, e⟩ := List.mem_map.mp (kp.ln i c hi l hl)
  exact e ▸ List.mem_map_of_mem (List.mem_of_mem_take hd)
theorem Kp.ls {chs : List Change} (kp : Kp chs) {c : Change} (hc : c ∈ chs) : lsOf chs c.n = c.ls := by
  obtain ⟨d, hd, e, q⟩ := lsOf_find (List.mem_map_of_mem (f := Change.n) hc)
  rw [q, kp.dis d hd c hc e]
theorem lsOf_sub {chs : List Change} (kp : Kp chs) {x : Str} (h : x ∈ chs.map Change.n) : ∀ l ∈ lsOf chs x, l ∈ chs.map Change.n := by
  obtain ⟨d, hd, e, q⟩ := lsOf_find h
  rw [q]; exact kp.sub d hd
theorem gnd_clo {chs : List Change} (kp : Kp chs) : ∀ (k : Nat) (w f : List Str), gmu chs w f ≤ k → (∀ x ∈ w, x ∈ chs.map Change.n) → (∀ c ∈ chs, c.n ∈ f → ∀ l ∈ c.ls, l ∈ f ∨ l ∈ w) → Clo chs (gnd chs k w f) ∧ (∀ x ∈ f, x ∈ gnd chs k w f) ∧ ∀ x ∈ w, x ∈ gnd chs k w f
  | 0, w, f, hk, _, hc => by
    have hw : w = [] := List.eq_nil_of_length_eq_zero (by unfold gmu at hk; omega)
    subst hw
    exact ⟨fun c mc h l hl => (hc c mc h l hl).elim id fun z => (nomatch z), fun x h => h, fun x h => (nomatch h)⟩
  | k + 1, w, f, hk, hw, hc => by
    by_cases e : w = []
    · subst e
      rw [gnd_nil]
      exact ⟨fun c mc h l hl => (hc c mc h l hl).elim id fun z => (nomatch z), fun x h => h, fun x h => (nomatch h)⟩
    · obtain ⟨x, hx, ex⟩ := last_some e
      have mx' : x ∈ w := List.mem_of_getElem? hx
      have xn := hw x mx'
      have drop : ∀ y ∈ w.dropLast, y ∈ w := fun y h => List.dropLast_subset _ h
      have case : ∀ y ∈ w, y ∈ w.dropLast ∨ y = x := fun y h => by
        rw [ex] at h
        rcases List.mem_append.mp h with h | h
        · exact .inl h
        · exact .inr (List.mem_singleton.mp h)
      have g : gnd chs (k + 1) w f = if x ∈ f then gnd chs k w.dropLast f else gnd chs k (w.dropLast ++ lsOf chs x) (f ++ [x]) := by
        rw [gnd, hx]
      rw [g]
      by_cases q : x ∈ f
      · rw [if_pos q]
        obtain ⟨a, b, c⟩ := gnd_clo kp k w.dropLast f (by have := gmu_old (chs := chs) (f := f) e; omega) (fun y h => hw y (drop y h)) (fun c mc h l hl => (hc c mc h l hl).elim .inl fun z => (case l z).elim .inr fun z => .inl (z ▸ q))
        exact ⟨a, b, fun y h => (case y h).elim (c y) fun z => z ▸ b x q⟩
      · rw [if_neg q]
        obtain ⟨a, b, c⟩ := gnd_clo kp k (w.dropLast ++ lsOf chs x) (f ++ [x]) (by have := gmu_new e xn q; omega) (fun y h => (List.mem_append.mp h).elim (fun h => hw y (drop y h)) (lsOf_sub kp xn y)) (fun c mc h l hl => by
          rcases List.mem_append.mp h with h | h
          · rcases hc c mc h l hl with z | z
            · exact .inl (List.mem_append_left _ z)
            · rcases case l z with z | z
              · exact .inr (List.mem_append_left _ z)
              · exact .inl (List.mem_append_right _ (List.mem_singleton.mpr z))
          · have := List.mem_singleton.mp h
            refine .inr (List.mem_append_right _ ?_)
            rw [← this, kp.ls mc]; exact hl)
        exact ⟨a, fun y h => b y (List.mem_append_left _ h), fun y h => (case y h).elim (fun h => c y (List.mem_append_left _ h)) fun z => b y (List.mem_append_right _ (List.mem_singleton.mpr z))⟩
theorem gndOf_clo {chs : List Change} (kp : Kp chs) {names : List Str} (h : ∀ x ∈ names, x ∈ chs.map Change.n) : Clo chs (gndOf chs names) := (gnd_clo kp _ names [] (Nat.le_refl _) h fun c _ h => nomatch h).1
/-- the dict of the leans -/
def lnD (chs : List Change) : List (Str × PyData) := chs.map fun c => (c.n, .list (c.ls.map .str))
theorem lnD_get {chs : List Change} : ∀ {x : Str}, x ∈ chs.map Change.n → getD' (lnD chs) x = some (.list ((lsOf chs x).map .str)) := by
  intro x h
  obtain ⟨c0, m0, e0⟩ := List.mem_map.mp h
  unfold getD' lnD lsOf
  rw [List.find?_map]
  cases q : chs.find? (fun c => decide (c.n = x)) with
  | none => exact absurd (decide_eq_true e0) (List.find?_eq_none.mp q c0 m0)
  | some c =>
    rw [show ((fun p : Str × PyData => decide (p.1 = x)) ∘ fun c : Change => (c.n, PyData.list (c.ls.map .str))) = fun c : Change => decide (c.n = x) from rfl, q]
    rfl
theorem lnD_has {chs : List Change} {x : Str} : hasD (lnD chs) x = decide (x ∈ chs.map Change.n) := by
  unfold hasD lnD
  rw [List.any_map]
  by_cases h : x ∈ chs.map Change.n
  · rw [decide_eq_true h]
    obtain ⟨c, m, e⟩ := List.mem_map.mp h
    exact List.any_eq_true.mpr ⟨c, m, decide_eq_true e⟩
  · rw [decide_eq_false h]
    refine Bool.eq_false_iff.mpr fun z => ?_
    obtain ⟨c, m, e⟩ := List.any_eq_true.mp z
    exact h (List.mem_map.mpr ⟨c, m, of_decide_eq_true e⟩)
theorem lnD_put {chs : List Change} {c : Change} (h : c.n ∉ chs.map Change.n) : putD (lnD chs) c.n (.list (c.ls.map .str)) = lnD (chs ++ [c]) := by
  unfold putD
  rw [lnD_has, decide_eq_false h, if_neg Bool.false_ne_true]
  unfold lnD
  rw [List.map_append]; rfl
end LW

set_option maxHeartbeats 4000000
namespace N14
variable [PD.TabC]
open PySem L2 PD PyProof.Rows LW K4M
section
variable {P : Program} {w : World} {K : PySem.W.Frag} {mg : Str → Option Value} {base : Heap}
/-! ### _law_some -/
abbrev sSome : Stmt := topS 15
abbrev nSome : List Str := ["_law_changes_here", "_law_cell_here", "_law_left", "_law_found", "_law_k", "_law_change"]
theorem scSome : FnScope nSome ["_law_changes_here", "_law_cell_here"] (defScope sSome) := ⟨rfl, rfl, rfl, by decide +kernel, rfl, by decide +kernel, by decide +kernel⟩
theorem ndSome : (nSome).Nodup := scSome.nd
theorem loSome : (["_law_changes_here", "_law_cell_here", "_law_left", "_law_found", "_law_k", "_law_change"] : List Str).all (locB (defScope sSome)) = true := by decide +kernel
theorem glSome : (["_law_mixed", "enumerate"] : List Str).all (glB (defScope sSome)) = true := by decide +kernel
def rSome : List Sl → DOut → Prop := fun as o => ∃ (chs : List LW.Change) (c : Int), as = [.bo (chs.map LW.qC), .sh (.int c)] ∧ chs.length ≤ 1000 ∧ o = .new ((LW.someOf c chs).map .str)
theorem okSome {f : Addr} {fd : FuncData} (F : Fun K "_law_some" "_law_some" sSome f fd) (T : Blt mg) (cMixed : Cal P w K mg base 1 "_law_mixed" 2 rMixed) : FnOk P w K mg base (L2N.CX P w) 2 f fd ["_law_changes_here", "_law_cell_here"] (spD K 2 rSome) := by
  refine fnD F scSome (by decide) fun cdv A outer s H E as o hr hl hR => ?_
  obtain ⟨chs, c, rfl, tl, rfl⟩ := hR
  have hc : (cxOf (L2N.CX P w) P w K mg base nSome "_law_some" (defScope sSome) f cdv A outer s H E).calm = true := rfl
  have tk : L2N.Takes (cxOf (L2N.CX P w) P w K mg base nSome "_law_some" (defScope sSome) f cdv A outer s H E) (fun c d _ H' => E c d H') := L2N.takes_of rfl rfl rfl rfl
  have hml : (chs.map LW.qC).length = chs.length := List.length_map _
  refine sds_cons (sd_set (i := 2) (d := .int (LW.smLeft c 0)) ndSome rfl (loc_of loSome 2) (.inl rfl) (ed_call cMixed (hr.mono (by decide)) (gl_of glSome 0) tk (ea_d (ed_v loSome 1) (ea_d ed_int ea_nil)) rfl ⟨c, 3, rfl, rfl⟩) ?_)
  refine sds_cons (sd_setL (i := 3) ndSome rfl (loc_of loSome 3) (.inl rfl) (el_lst (ds := []) ea_nil le_b) (fun r3 => ?_))
  refine sds_cons (sd_enum (fun i ρ => ∃ s4 s5, ρ = [.bo (chs.map LW.qC), .sh (.int c), .sh (.int (LW.smLeft c i)), .ow r3 ((LW.smAt c chs i).map .str), s4, s5]) (L2.passes_of rfl) hc
    (gu_tup hc (gus_cons (gu_name (j := 4) ndSome rfl (loc_of loSome 4) (.inl rfl)) (gus_cons (gu_name (j := 5) ndSome rfl (loc_of loSome 5) (.inl rfl)) gus_nil))) (gl_of glSome 1) T.enumerate (ep_v loSome 0) ⟨_, _, rfl⟩ (fun i d ρ1 hi hI => ?_) (fun ρ1 hI => ?_))
  · obtain ⟨s4, s5, rfl⟩ := hI
    rw [List.getElem?_map] at hi
    cases hx : chs[i]? with
    | none => rw [hx] at hi; cases hi
    | some x =>
    rw [hx] at hi
    cases hi
    have hil : i < chs.length := (List.getElem?_eq_some_iff.mp hx).1
    have hfl := LW.smAt_len c chs i
    refine ⟨_, ⟨_, rfl, rfl, _, _, _, rfl, rfl, _, _, _, rfl, rfl, rfl, rfl⟩, ?_⟩
    refine sds_cut [.bo (chs.map LW.qC), .sh (.int c), .sh (.int (LW.smLeft c i)), .ow r3 ((LW.smAt c chs (i + 1)).map .str), .sh (.int (i : Nat)), .sh (LW.qC x)] (sd_if (et_c cd_eqI (ed_mod (ed_v loSome 2) ed_int (by decide)) ed_int) (fun hb => ?_) (fun hb => ?_)) ?_
    · have e : LW.smAt c chs (i + 1) = LW.smAt c chs i ++ [x.n] := by rw [LW.smAt, if_pos hb, hx]; rfl
      rw [e, List.map_append]
      exact sds_one (sd_app (i := 3) rfl (vis_of (loc_of loSome 3)) rfl (ed_ixT (ds := [.str x.n, _, _]) (ed_v loSome 5) ed_int (atI_nat (j := 0) rfl)) (by rw [List.length_map]; omega) (.cons (.cons (.cons (.cons (.cons (.cons .nil)))))))
    · have e : LW.smAt c chs (i + 1) = LW.smAt c chs i := by rw [LW.smAt, hb]; rfl
      rw [e]
      exact sds_nil (.cons (.cons (.cons (.cons (.cons (.cons .nil))))))
    refine sds_cons (sd_set (i := 2) (d := .int (LW.smLeft c i / 3)) ndSome rfl (loc_of loSome 2) (.inl rfl) (ed_div (ed_v loSome 2) ed_int ⟨by decide, by decide⟩) ?_)
    refine sds_one (sd_ifsetD (i := 2) (d := .int (mixed c ((i : Int) + 4))) (d1 := .int (LW.smLeft c (i + 1))) ndSome rfl (loc_of loSome 2) (.inl rfl) (et_c cd_lt (ed_v loSome 2) ed_int) rfl (fun _ => ed_call cMixed (hr.mono (by decide)) (gl_of glSome 0) tk (ea_d (ed_v loSome 1) (ea_d (ed_add (ed_v loSome 4) ed_int) ea_nil)) rfl ⟨c, (i : Int) + 4, rfl, rfl⟩) (by rw [LW.smLeft]; unfold LW.smNext; split <;> rfl) ⟨_, _, rfl⟩)
  · obtain ⟨s4, s5, rfl⟩ := hI
    rw [hml]
    exact sds_one (sd_retO (i := 3) rfl (vis_of (loc_of loSome 3)) rfl rfl)
end
end N14

set_option maxHeartbeats 4000000
namespace N14
variable [PD.TabC]
open PySem L2 PD PyProof.Rows LW K4M
section
variable {P : Program} {w : World} {K : PySem.W.Frag} {mg : Str → Option Value} {base : Heap}
/-! ### _law_ground -/
abbrev sGround : Stmt := topS 13
abbrev nGround : List Str := ["_law_changes_here", "_law_names", "_law_leans_here", "_law_change", "_law_found", "_law_waiting", "_law_name_here"]
theorem scGround : FnScope nGround ["_law_changes_here", "_law_names"] (defScope sGround) := ⟨rfl, rfl, rfl, by decide +kernel, rfl, by decide +kernel, by decide +kernel⟩
theorem ndGround : (nGround).Nodup := scGround.nd
theorem loGround : (["_law_changes_here", "_law_names", "_law_leans_here", "_law_change", "_law_found", "_law_waiting", "_law_name_here"] : List Str).all (locB (defScope sGround)) = true := by decide +kernel
theorem glGround : (["list"] : List Str).all (glB (defScope sGround)) = true := by decide +kernel
def dS (ds : List PyData) : List Str := ds.filterMap fun d => match d with
  | .str z => some z
  | _ => none
theorem dS_str (zs : List Str) : dS (zs.map .str) = zs := by
  unfold dS
  rw [List.filterMap_map]
  exact List.filterMap_some
def muG (chs : List LW.Change) (ρ : List Sl) : Nat := match (ρ[4]? : Option Sl), (ρ[5]? : Option Sl) with
  | some (Sl.ow _ f), some (Sl.ow _ w) => gmu chs (dS w) (dS f)
  | _, _ => 0
def rGround : List Sl → DOut → Prop := fun as o => ∃ (chs : List LW.Change) (names : List Str), as = [.bo (chs.map LW.qC), .bo (names.map .str)] ∧ chs.length ≤ 100 ∧ names.length ≤ 100 ∧ (∀ c ∈ chs, c.ls.length ≤ 100) ∧ Kp chs ∧ (∀ x ∈ names, x ∈ chs.map LW.Change.n) ∧ o = .new ((gndOf chs names).map .str)
theorem gmu_le {chs : List LW.Change} {names : List Str} (h : chs.length ≤ 100) (hn : names.length ≤ 100) (hl : ∀ c ∈ chs, c.ls.length ≤ 100) : gmu chs names [] ≤ 10300 := by
  have key : ∀ (xs : List LW.Change), (∀ c ∈ xs, c.ls.length ≤ 100) → (xs.map fun c => c.ls.length + 1).sum ≤ 101 * xs.length := by
    intro xs
    induction xs with
    | nil => intro _; exact Nat.le_refl _
    | cons x r ih =>
      intro q
      have := ih fun c hc => q c (List.mem_cons_of_mem _ hc)
      have := q x List.mem_cons_self
      rw [List.map_cons, List.sum_cons, List.length_cons]
      omega
  have a := key (chs.filter fun c => !decide (c.n ∈ ([] : List Str))) fun c hc => hl c (List.mem_filter.mp hc).1
  have b := List.length_filter_le (fun c : LW.Change => !decide (c.n ∈ ([] : List Str))) chs
  unfold gmu
  omega
theorem okGround {f : Addr} {fd : FuncData} (F : Fun K "_law_ground" "_law_ground" sGround f fd) (T : Blt mg) : FnOk P w K mg base (L2N.CX P w) 1 f fd ["_law_changes_here", "_law_names"] (spD K 2 rGround) := by
  refine fnD F scGround (by decide) fun cdv A outer s H E as o hr hl hR => ?_
  obtain ⟨chs, names, rfl, tl, tn, ll, kp, sub, rfl⟩ := hR
  have hc : (cxOf (L2N.CX P w) P w K mg base nGround "_law_ground" (defScope sGround) f cdv A outer s H E).calm = true := rfl
  have hml : (chs.map LW.qC).length = chs.length := List.length_map _
  have hb0 := gmu_le tl tn ll
  refine sds_cons (sd_dnew (i := 2) ndGround rfl (loc_of loGround 2) (.inl rfl) (fun r2 => ?_))
  refine sds_cons (sd_for (fun i ρ => ∃ s3, ρ = [.bo (chs.map LW.qC), .bo (names.map .str), od K r2 (lnD (chs.take i)), s3, .un, .un, .un]) (L2.passes_of rfl) hc (j := 3) ndGround rfl (loc_of loGround 3) (.inl rfl) (ep_v loGround 0) ⟨_, rfl⟩ (fun i d ρ1 hi hI => ?_) (fun ρ1 hI => ?_))
  · obtain ⟨s3, rfl⟩ := hI
    rw [List.getElem?_map] at hi
    cases hx : chs[i]? with
    | none => rw [hx] at hi; cases hi
    | some x =>
    rw [hx] at hi
    cases hi
    refine sds_one (sd_dput (i := 2) (k := x.n) (d := .list (x.ls.map .str)) (hu_of hr) rfl (vis_of (loc_of loGround 2)) rfl (ed_ixT (ds := [_, .list (x.ls.map .str), _]) (ed_v loGround 3) ed_int (atI_nat (j := 1) rfl)) (ed_ixT (ds := [.str x.n, _, _]) (ed_v loGround 3) ed_int (atI_nat (j := 0) rfl)) (by unfold lnD; rw [List.length_map, List.length_take]; omega) ⟨.sh (LW.qC x), ?_⟩)
    rw [lnD_put (kp.new i x hx), List.take_add_one, hx]; rfl
  · obtain ⟨s3, rfl⟩ := hI
    rw [hml, List.take_length]
    refine sds_cons (sd_setL (i := 4) ndGround rfl (loc_of loGround 4) (.inl rfl) (el_lst (ds := []) ea_nil le_b) (fun r4 => ?_))
    refine sds_cons (sd_setL (i := 5) ndGround rfl (loc_of loGround 5) (.inl rfl) (el_list (EP'.rd (ep_v loGround 1)) (gl_of glGround 0) T.list) (fun r5 => ?_))
    refine sds_cons (sd_while (fun ρ => ∃ (wt fn : List Str) (k : Nat) (s6 : Sl), ρ = [.bo (chs.map LW.qC), .bo (names.map .str), od K r2 (lnD chs), s3, .ow r4 (fn.map .str), .ow r5 (wt.map .str), s6] ∧ gnd chs k wt fn = gndOf chs names ∧ gmu chs wt fn ≤ k ∧ fn.length + gmu chs wt fn ≤ 10300 ∧ ∀ x ∈ wt, x ∈ chs.map LW.Change.n) (muG chs) (L2.passes_of rfl) ⟨names, [], gmu chs names [], .un, rfl, rfl, Nat.le_refl _, by simpa using hb0, sub⟩ (fun ρ1 hI => ?_))
    · obtain ⟨wt, fn, k, s6, rfl, he, hk, hbd, hwt⟩ := hI
      have hm1 : muG chs [.bo (chs.map LW.qC), .bo (names.map .str), od K r2 (lnD chs), s3, .ow r4 (fn.map .str), .ow r5 (wt.map .str), s6] = gmu chs wt fn := by
        show gmu chs (dS (wt.map .str)) (dS (fn.map .str)) = _
        rw [dS_str, dS_str]
      refine ⟨_, et_list (eb_v loGround 5), fun hb => ?_, fun hb => ?_⟩
      · have hne : wt ≠ [] := fun z => by rw [z] at hb; exact absurd hb (by simp)
        obtain ⟨x, hx, ex⟩ := last_some hne
        have xn := hwt x (List.mem_of_getElem? hx)
        have hwl : wt.length ≤ gmu chs wt fn := by unfold gmu; omega
        cases k with
        | zero => exact absurd (List.length_pos_iff.mpr hne) (by omega)
        | succ k =>
        have g : gnd chs (k + 1) wt fn = if x ∈ fn then gnd chs k wt.dropLast fn else gnd chs k (wt.dropLast ++ lsOf chs x) (fn ++ [x]) := by
          rw [gnd, hx]
        rw [g] at he
        have dl : (wt.map PyData.str).dropLast = wt.dropLast.map .str := (List.map_dropLast ..).symm
        have drop : ∀ y ∈ wt.dropLast, y ∈ chs.map LW.Change.n := fun y h => hwt y (List.dropLast_subset _ h)
        refine sds_cons (sd_setPop (i := 5) (i2 := 6) (d := .str x) ndGround rfl (loc_of loGround 6) (.inl rfl) rfl (vis_of (loc_of loGround 5)) rfl (by rw [List.length_map, List.getElem?_map, hx]; rfl) ?_)
        rw [dl]
        refine sds_one (sd_if (et_niL (zs := fn) (ed_v loGround 6) (eb_v loGround 4)) (fun hq => ?_) (fun hq => ?_))
        · have q : x ∉ fn := by simpa using hq
          rw [if_neg q] at he
          have hlt := gmu_new hne xn q
          obtain ⟨c, mc, en, el⟩ := lsOf_find xn
          have hll := ll c mc
          refine sds_cons (sd_app (i := 4) rfl (vis_of (loc_of loGround 4)) rfl (ed_v loGround 6) (by rw [List.length_map]; omega) ?_)
          refine sds_one (sd_extend (i := 5) (es := (lsOf chs x).map .str) rfl (vis_of (loc_of loGround 5)) rfl (ed_dget (k := x) (hu_of hr) (edo_v loGround 2) (ed_v loGround 6) (lnD_get xn)) (by rw [List.length_map, List.length_map, List.length_dropLast, el]; omega) ⟨⟨wt.dropLast ++ lsOf chs x, fn ++ [x], k, .sh (.str x), ?_, he, by omega, by rw [List.length_append, List.length_singleton]; omega, fun y h => (List.mem_append.mp h).elim (drop y) (lsOf_sub kp xn y)⟩, ?_⟩)
          · rw [List.map_append, List.map_append]; rfl
          · rw [hm1]
            show gmu chs (dS (wt.dropLast.map .str ++ (lsOf chs x).map .str)) (dS (fn.map .str ++ [.str x])) < _
            rw [← List.map_append, show fn.map PyData.str ++ [PyData.str x] = (fn ++ [x]).map .str from by rw [List.map_append]; rfl, dS_str, dS_str]
            exact hlt
        · have q : x ∈ fn := by simpa using hq
          rw [if_pos q] at he
          have hlt := gmu_old (chs := chs) (f := fn) hne
          refine sds_nil ⟨⟨wt.dropLast, fn, k, .sh (.str x), rfl, he, by omega, by omega, drop⟩, ?_⟩
          rw [hm1]
          show gmu chs (dS (wt.dropLast.map .str)) (dS (fn.map .str)) < _
          rw [dS_str, dS_str]
          exact hlt
      · have h0 : wt = [] := by
          cases e : wt with
          | nil => rfl
          | cons a b => rw [e] at hb; exact absurd hb (by simp)
        subst h0
        rw [gnd_nil] at he
        rw [he]
        exact sds_one (sd_retO (i := 4) rfl (vis_of (loc_of loGround 4)) rfl rfl)
/-! ### _law_closed -/
abbrev sClosed : Stmt := topS 14
abbrev nClosed : List Str := ["_law_changes_here", "_law_names", "_law_there", "_law_change"]
theorem scClosed : FnScope nClosed ["_law_changes_here", "_law_names"] (defScope sClosed) := ⟨rfl, rfl, rfl, by decide +kernel, rfl, by decide +kernel, by decide +kernel⟩
theorem ndClosed : (nClosed).Nodup := scClosed.nd
theorem loClosed : (["_law_changes_here", "_law_names", "_law_there"] : List Str).all (locB (defScope sClosed)) = true := by decide +kernel
theorem glClosed : (["_law_ground"] : List Str).all (glB (defScope sClosed)) = true := by decide +kernel
def cloOf (chs : List LW.Change) (names : List Str) : List LW.Change := chs.filter fun c => decide (c.n ∈ gndOf chs names)
def rClosed : List Sl → DOut → Prop := fun as o => ∃ (chs : List LW.Change) (names : List Str), as = [.bo (chs.map LW.qC), .bo (names.map .str)] ∧ chs.length ≤ 100 ∧ names.length ≤ 100 ∧ (∀ c ∈ chs, c.ls.length ≤ 100) ∧ Kp chs ∧ (∀ x ∈ names, x ∈ chs.map LW.Change.n) ∧ o = .new ((cloOf chs names).map LW.qC)
theorem okClosed {f : Addr} {fd : FuncData} (F : Fun K "_law_closed" "_law_closed" sClosed f fd) (cGround : Cal P w K mg base 1 "_law_ground" 2 rGround) : FnOk P w K mg base (L2N.CX P w) 2 f fd ["_law_changes_here", "_law_names"] (spD K 2 rClosed) := by
  refine fnD F scClosed (by decide) fun cdv A outer s H E as o hr hl hR => ?_
  obtain ⟨chs, names, rfl, tl, tn, ll, kp, sub, rfl⟩ := hR
  have hc : (cxOf (L2N.CX P w) P w K mg base nClosed "_law_closed" (defScope sClosed) f cdv A outer s H E).calm = true := rfl
  have tk : L2N.Takes (cxOf (L2N.CX P w) P w K mg base nClosed "_law_closed" (defScope sClosed) f cdv A outer s H E) (fun c d _ H' => E c d H') := L2N.takes_of rfl rfl rfl rfl
  refine sds_cons (sd_setL (i := 2) ndClosed rfl (loc_of loClosed 2) (.inl rfl) (el_call cGround (hr.mono (by decide)) (gl_of glClosed 0) tk (ea_b (EP'.rd (ep_v loClosed 0)) (ea_b (EP'.rd (ep_v loClosed 1)) ea_nil)) rfl ⟨chs, names, rfl, tl, tn, ll, kp, sub, rfl⟩) (fun r2 => ?_))
  refine sds_frz (i := 2) rfl ?_
  exact sds_one (sd_retL (el_lc (j := 3) ⟨hc, ndClosed, blkOk_by (N := nClosed) (sc := defScope sClosed) (by decide +kernel), by decide, rfl, rfl, by intro _; rfl⟩ chs LW.qC (fun c => decide (c.n ∈ gndOf chs names)) LW.qC (ep_v loClosed 0) (by omega) (fun x hx s H C cl fp => et_inL (zs := gndOf chs names) (ed_ixT (ds := [.str x.n, _, _]) (ed_b 3) ed_int (atI_nat (j := 0) rfl)) (ED.rd (ed_b 2))) (fun x hx _ s H C cl fp => ed_b 3)) rfl)
end
end N14

set_option maxHeartbeats 4000000
/-! the laws' plain model: the one order by heights, the row, the words, what is gone -/
namespace LW
open PySem L2 PD PyProof.Rows K4M LamK SrtO
variable [PD.TabC]
/-! heights -/
theorem hts_pre : ∀ (xs : List Change) (ht : List (Str × Int)), ∃ t, hts xs ht = ht ++ t
  | [], ht => ⟨[], (List.append_nil _).symm⟩
  | x :: r, ht => by
    obtain ⟨t, e⟩ := hts_pre r (ht ++ [(x.n, mx (hAdd ht x.ls))])
    exact ⟨_, by show hts r _ = _; rw [e, List.append_assoc]⟩
theorem hts_app : ∀ (xs ys : List Change) (ht : List (Str × Int)), hts (xs ++ ys) ht = hts ys (hts xs ht)
  | [], _, _ => rfl
  | x :: r, ys, ht => hts_app r ys _
theorem hGet_app {a b : List (Str × Int)} {n : Str} {k : Int} (h : hGet a n = some k) : hGet (a ++ b) n = some k := by
  unfold hGet at h ⊢
  rw [List.find?_append]
  cases q : a.find? (fun p => decide (p.1 = n)) with
  | none => rw [q] at h; cases h
  | some p => rw [q] at h; exact h
theorem hGet_new {a b : List (Str × Int)} {n : Str} {k : Int} (h : hHas a n = false) : hGet (a ++ (n, k) :: b) n = some k := by
  unfold hGet
  rw [List.find?_append, List.find?_eq_none.mpr fun p hp e => ?_]
  · rw [List.find?_cons, decide_eq_true rfl]; rfl
  · have : hHas a n = true := List.any_eq_true.mpr ⟨p, hp, e⟩
    rw [h] at this; cases this
def hgtN (chs : List Change) (c : Change) : Int := (hGet (hts chs []) c.n).getD 0
theorem hts_at {chs : List Change} (kp : Kp chs) {i : Nat} {c : Change} (hi : chs[i]? = some c) : hGet (hts chs []) c.n = some (mx (hAdd (hts (chs.take i) []) c.ls)) := by
  have e : chs = chs.take i ++ c :: chs.drop (i + 1) := by
    obtain ⟨hl, hc⟩ := List.getElem?_eq_some_iff.mp hi
    rw [← hc, List.getElem_cons_drop, List.take_append_drop]
  have e2 : hts chs [] = hts (chs.drop (i + 1)) (hts (chs.take i) [] ++ [(c.n, mx (hAdd (hts (chs.take i) []) c.ls))]) := by
    conv => lhs; rw [e]
    rw [hts_app]; rfl
  obtain ⟨t, q⟩ := hts_pre (chs.drop (i + 1)) (hts (chs.take i) [] ++ [(c.n, mx (hAdd (hts (chs.take i) []) c.ls))])
  rw [e2, q, List.append_assoc]
  refine hGet_new ?_
  cases z : hHas (hts (chs.take i) []) c.n with
  | false => rfl
  | true =>
    rw [hHas_iff, hts_names] at z
    exact absurd z (kp.new i c hi)
theorem hgtN_lt {chs : List Change} (kp : Kp chs) {c d : Change} (hc : c ∈ chs) (hd : d ∈ chs) (h : d.n ∈ c.ls) : hgtN chs d < hgtN chs c := by
  obtain ⟨i, hi⟩ := List.getElem?_of_mem hc
  have hn := kp.ln i c hi _ h
  have hh : hHas (hts (chs.take i) []) d.n = true := by
    rw [hHas_iff, hts_names]; exact hn
  obtain ⟨k, hk⟩ := hGet_has hh
  have e2 : hts chs [] = hts (chs.drop i) (hts (chs.take i) []) := by
    conv => lhs; rw [← List.take_append_drop i chs]
    rw [hts_app]
  obtain ⟨t, q⟩ := hts_pre (chs.drop i) (hts (chs.take i) [])
  have h1 : hgtN chs d = k := by
    unfold hgtN
    rw [e2, q, hGet_app hk]; rfl
  have h2 : hgtN chs c = mx (hAdd (hts (chs.take i) []) c.ls) := by
    unfold hgtN
    rw [hts_at kp hi]; rfl
  have h3 : k + 1 ∈ hAdd (hts (chs.take i) []) c.ls := List.mem_map.mpr ⟨d.n, h, by rw [hk]; rfl⟩
  have := mx_ge h3
  omega
/-- the one order -/
def mOrd (chs : List Change) : List Change := isort (fun x y => ltZ (hgtN chs x) (hgtN chs y)) (byN Change.n chs)
theorem mOrd_perm (chs : List Change) : (mOrd chs).Perm chs := (isort_perm _).trans byN_perm
/-! the row -/
def insAf (m x : Mark) : List Mark → List Mark
  | [] => [x]
  | y :: r => if y = m then y :: x :: r else y :: insAf m x r
def insAt (o : Option Mark) (x : Mark) (r : List Mark) : List Mark := match o with
  | none => x :: r
  | some m => insAf m x r
/-- the first place -/
def pos (m : Mark) : List Mark → Nat
  | [] => 0
  | y :: r => if y = m then 0 else pos m r + 1
theorem pos_at {m : Mark} : ∀ {r : List Mark}, m ∈ r → r[pos m r]? = some m
  | y :: r, h => by
    unfold pos
    by_cases e : y = m
    · rw [if_pos e, e]; rfl
    · rw [if_neg e]
      exact pos_at ((List.mem_cons.mp h).resolve_left fun z => e z.symm)
theorem pos_lt {m : Mark} : ∀ {r : List Mark}, m ∈ r → pos m r < r.length := fun h => (List.getElem?_eq_some_iff.mp (pos_at h)).1
theorem pos_no {m : Mark} : ∀ {r : List Mark} {k : Nat} {z : Mark}, k < pos m r → r[k]? = some z → z ≠ m
  | y :: r, k, z, h, hz => by
    unfold pos at h
    by_cases e : y = m
    · rw [if_pos e] at h; exact absurd h (Nat.not_lt_zero _)
    · rw [if_neg e] at h
      cases k with
      | zero => cases hz; exact e
      | succ k => exact pos_no (r := r) (by omega) hz
theorem insAf_cut {m x : Mark} : ∀ {r : List Mark}, m ∈ r → insAf m x r = r.take (pos m r + 1) ++ [x] ++ r.drop (pos m r + 1)
  | y :: r, h => by
    unfold insAf pos
    by_cases e : y = m
    · rw [if_pos e, if_pos e]; rfl
    · rw [if_neg e, if_neg e, insAf_cut ((List.mem_cons.mp h).resolve_left fun z => e z.symm)]
      rfl
theorem insAf_mem {m x z : Mark} : ∀ {r : List Mark}, z ∈ insAf m x r ↔ z = x ∨ z ∈ r
  | [] => by simp [insAf]
  | y :: r => by
    unfold insAf
    split
    · simp only [List.mem_cons]
      constructor
      · rintro (a | a | a)
        · exact .inr (.inl a)
        · exact .inl a
        · exact .inr (.inr a)
      · rintro (a | a | a)
        · exact .inr (.inl a)
        · exact .inl a
        · exact .inr (.inr a)
    · rw [List.mem_cons, insAf_mem, List.mem_cons]
      constructor
      · rintro (a | a | a)
        · exact .inr (.inl a)
        · exact .inl a
        · exact .inr (.inr a)
      · rintro (a | a | a)
        · exact .inr (.inl a)
        · exact .inl a
        · exact .inr (.inr a)
theorem insAt_mem {o : Option Mark} {x z : Mark} {r : List Mark} : z ∈ insAt o x r ↔ z = x ∨ z ∈ r := by
  cases o with
  | none => exact List.mem_cons
  | some m => exact insAf_mem
theorem insAf_len {m x : Mark} : ∀ {r : List Mark}, (insAf m x r).length = r.length + 1
  | [] => rfl
  | y :: r => by
    unfold insAf
    split
    · rfl
    · rw [List.length_cons, insAf_len]; rfl
theorem insAt_len {o : Option Mark} {x : Mark} {r : List Mark} : (insAt o x r).length = r.length + 1 := by
  cases o with
  | none => rfl
  | some m => exact insAf_len
structure MSt where
  row : List Mark
  words : List (Mark × PyData)
  gone : List (Mark × PyData)
  own : Nat
def mDeed (n : Str) (s : MSt) (d : Deed) : MSt :=
  if decide (d.w = ("add" : Str)) = true then ⟨insAt d.m (n, (s.own : Int)) s.row, putM s.words (n, (s.own : Int)) (.str (d.l.getD "")), s.gone, s.own + 1⟩
  else if decide (d.w = ("set" : Str)) = true then ⟨s.row, putM s.words (d.m.getD ("", 0)) (.str (d.l.getD "")), s.gone, s.own⟩
  else ⟨s.row, s.words, putM s.gone (d.m.getD ("", 0)) (.bool true), s.own⟩
def MSt.zero (s : MSt) : MSt := ⟨s.row, s.words, s.gone, 0⟩
def mChange (s : MSt) (c : Change) : MSt := c.ds.foldl (mDeed c.n) s.zero
def mAt (cs : List Change) (i : Nat) : MSt := (cs.take i).foldl mChange ⟨[], [], [], 0⟩
def mIn (cs : List Change) (i : Nat) (c : Change) (k : Nat) : MSt := (c.ds.take k).foldl (mDeed c.n) (mAt cs i).zero
def mRun (cs : List Change) : MSt := cs.foldl mChange ⟨[], [], [], 0⟩
theorem mAt_len (cs : List Change) : mAt cs cs.length = mRun cs := by unfold mAt; rw [List.take_length]; rfl
theorem mIn_len {cs : List Change} {i : Nat} {c : Change} (h : cs[i]? = some c) : mIn cs i c c.ds.length = mAt cs (i + 1) := by
  unfold mIn mAt
  rw [List.take_length, List.take_add_one, h, List.foldl_append]; rfl
theorem mIn_succ {cs : List Change} {i k : Nat} {c : Change} {d : Deed} (h : c.ds[k]? = some d) : mIn cs i c (k + 1) = mDeed c.n (mIn cs i c k) d := by
  unfold mIn
  rw [List.take_add_one, h, List.foldl_append]; rfl
end LW

set_option maxHeartbeats 4000000
/-! the laws' plain model as it runs -/
namespace LW
open PySem L2 PD PyProof.Rows K4M LamK SrtO
variable [PD.TabC]
theorem insAf_perm {m x : Mark} : ∀ {r : List Mark}, (insAf m x r).Perm (x :: r)
  | [] => List.Perm.refl _
  | y :: r => by
    unfold insAf
    split
    · exact List.Perm.swap x y r
    · exact ((insAf_perm (r := r)).cons y).trans (List.Perm.swap x y r)
theorem insAt_perm {o : Option Mark} {x : Mark} {r : List Mark} : (insAt o x r).Perm (x :: r) := by
  cases o with
  | none => exact List.Perm.refl _
  | some m => exact insAf_perm
theorem getM_put {kvs : List (Mark × PyData)} {k : Mark} {d : PyData} : getM (putM kvs k d) k = some d := by
  unfold putM
  split
  · rename_i h
    unfold getM
    induction kvs with
    | nil => cases h
    | cons p r ih =>
      rw [List.map_cons, List.find?_cons]
      by_cases e : p.1 = k
      · rw [if_pos e, decide_eq_true e]; rfl
      · rw [if_neg e, decide_eq_false e]
        exact ih (by unfold hasM at h ⊢; rwa [List.any_cons, decide_eq_false e, Bool.false_or] at h)
  · rename_i h
    have h : hasM kvs k = false := Bool.eq_false_iff.mpr h
    unfold getM
    rw [List.find?_append, List.find?_eq_none.mpr fun p hp e => by
      have : hasM kvs k = true := List.any_eq_true.mpr ⟨p, hp, e⟩
      rw [h] at this; cases this]
    rw [List.find?_cons, decide_eq_true rfl]; rfl
theorem getM_map_ne {k m : Mark} {d : PyData} (n : m ≠ k) : ∀ (kvs : List (Mark × PyData)), getM (kvs.map fun p => if p.1 = k then (p.1, d) else p) m = getM kvs m
  | [] => rfl
  | p :: r => by
    have ih := getM_map_ne (d := d) n r
    unfold getM at ih ⊢
    rw [List.map_cons, List.find?_cons, List.find?_cons]
    by_cases e : p.1 = k
    · rw [if_pos e]
      dsimp only
      rw [decide_eq_false (fun z => n (z.symm.trans e))]
      exact ih
    · rw [if_neg e]
      cases decide (p.1 = m) with
      | true => rfl
      | false => exact ih
theorem getM_put_ne {kvs : List (Mark × PyData)} {k m : Mark} {d : PyData} (n : m ≠ k) : getM (putM kvs k d) m = getM kvs m := by
  unfold putM
  split
  · exact getM_map_ne n kvs
  · unfold getM
    rw [List.find?_append, List.find?_cons, decide_eq_false (fun z => n z.symm)]
    cases kvs.find? (fun p => decide (p.1 = m)) <;> rfl
theorem putM_len {kvs : List (Mark × PyData)} {k : Mark} {d : PyData} : (putM kvs k d).length ≤ kvs.length + 1 := by
  unfold putM
  split
  · rw [List.length_map]; omega
  · rw [List.length_append]; exact Nat.le_refl _
/-! what a deed may name -/
def avail (cs : List Change) (i : Nat) (c : Change) (k : Nat) (m : Mark) : Prop := (∃ b ∈ cs.take i, m ∈ marksOf b) ∨ ∃ j : Nat, j < adds (c.ds.take k) ∧ m = (c.n, (j : Int))
structure Fit (A : Mark → Prop) (d : Deed) : Prop where
  w : d.w = "add" ∨ d.w = "set" ∨ d.w = "cut"
  a : ∀ m, d.m = some m → A m
  s : d.w ≠ "add" → d.m.isSome = true
  l : d.w ≠ "cut" → d.l.isSome = true
  c : d.w = "cut" → d.l = none
structure MFit (cs : List Change) : Prop where
  fit : ∀ (i : Nat) (c : Change), cs[i]? = some c → ∀ (k : Nat) (d : Deed), c.ds[k]? = some d → Fit (avail cs i c k) d
  nd : (cs.map Change.n).Nodup
  dl : ∀ c ∈ cs, c.ds.length ≤ 20
/-- what holds of the model as it runs -/
structure RunOk (s : MSt) (A : Mark → Prop) (z : Nat) : Prop where
  row : ∀ m, m ∈ s.row ↔ A m
  nd : s.row.Nodup
  wd : ∀ m ∈ s.row, ∃ y, getM s.words m = some (.str y)
  rl : s.row.length ≤ z
  wl : s.words.length ≤ z
  gl : s.gone.length ≤ z
theorem adds_take {ds : List Deed} {k : Nat} {d : Deed} (h : ds[k]? = some d) : adds (ds.take (k + 1)) = adds (ds.take k) + if decide (d.w = ("add" : Str)) = true then 1 else 0 := by
  unfold adds
  rw [List.take_add_one, h, List.filter_append, List.length_append]
  congr 1
  show (List.filter (fun d => decide (d.w = ("add" : Str))) [d]).length = _
  rw [List.filter_cons]
  split <;> rfl
theorem marksOf_mem {c : Change} {m : Mark} : m ∈ marksOf c ↔ ∃ j : Nat, j < adds c.ds ∧ m = (c.n, (j : Int)) := by
  unfold marksOf
  rw [List.mem_map]
  constructor
  · rintro ⟨j, hj, e⟩; exact ⟨j, List.mem_range.mp hj, e.symm⟩
  · rintro ⟨j, hj, e⟩; exact ⟨j, List.mem_range.mpr hj, e.symm⟩
theorem deed_run {s : MSt} {A A' : Mark → Prop} {z : Nat} {n : Str} {d : Deed} (h : RunOk s A z) (hA : ∀ m, A' m ↔ A m ∨ (d.w = "add" ∧ m = (n, (s.own : Int)))) (new : ¬ A (n, (s.own : Int))) (hw : d.w = "add" ∨ d.w = "set" ∨ d.w = "cut") : RunOk (mDeed n s d) A' (z + 1) := by
  unfold mDeed
  by_cases e : d.w = "add"
  · rw [if_pos (decide_eq_true e)]
    refine ⟨fun m => ?_, ?_, fun m hm => ?_, ?_, ?_, ?_⟩
    · rw [insAt_mem, hA, h.row]
      exact ⟨fun q => q.elim (fun q => .inr ⟨e, q⟩) .inl, fun q => q.elim .inr fun q => .inl q.2⟩
    · refine insAt_perm.nodup_iff.mpr (List.nodup_cons.mpr ⟨fun q => new ((h.row _).mp q), h.nd⟩)
    · by_cases q : m = (n, (s.own : Int))
      · exact ⟨_, by rw [q]; exact getM_put⟩
      · obtain ⟨y, hy⟩ := h.wd m ((insAt_mem.mp hm).resolve_left q)
        exact ⟨y, (getM_put_ne q).trans hy⟩
    · show (insAt _ _ _).length ≤ _
      rw [insAt_len]
      have := h.rl; omega
    · have := h.wl
      exact Nat.le_trans putM_len (by omega)
    · have := h.gl
      show s.gone.length ≤ _
      omega
  · rw [if_neg (by rw [decide_eq_false e]; exact Bool.false_ne_true)]
    have hA' : ∀ m, A' m ↔ A m := fun m => by
      rw [hA]
      exact ⟨fun q => q.elim id fun q => absurd q.1 e, .inl⟩
    by_cases e2 : d.w = "set"
    · rw [if_pos (decide_eq_true e2)]
      refine ⟨fun m => by rw [hA']; exact h.row m, h.nd, fun m hm => ?_, ?_, ?_, ?_⟩
      · by_cases q : m = d.m.getD ("", 0)
        · exact ⟨_, by rw [q]; exact getM_put⟩
        · obtain ⟨y, hy⟩ := h.wd m hm
          exact ⟨y, (getM_put_ne q).trans hy⟩
      · have := h.rl
        show s.row.length ≤ _
        omega
      · have := h.wl
        exact Nat.le_trans putM_len (by omega)
      · have := h.gl
        show s.gone.length ≤ _
        omega
    · rw [if_neg (by rw [decide_eq_false e2]; exact Bool.false_ne_true)]
      refine ⟨fun m => by rw [hA']; exact h.row m, h.nd, h.wd, ?_, ?_, ?_⟩
      · have := h.rl
        show s.row.length ≤ _
        omega
      · have := h.wl
        show s.words.length ≤ _
        omega
      · have := h.gl
        exact Nat.le_trans putM_len (by omega)
theorem mDeed_own (n : Str) (s : MSt) (d : Deed) : (mDeed n s d).own = s.own + if decide (d.w = ("add" : Str)) = true then 1 else 0 := by
  unfold mDeed
  split
  · rfl
  · split <;> rfl
theorem mIn_own {cs : List Change} {i : Nat} {c : Change} : ∀ k, k ≤ c.ds.length → (mIn cs i c k).own = adds (c.ds.take k)
  | 0, _ => rfl
  | k + 1, hk => by
    have e : c.ds[k]? = some c.ds[k] := List.getElem?_eq_getElem (by omega)
    rw [mIn_succ e, mDeed_own, mIn_own k (by omega), adds_take e]
theorem run_in {cs : List Change} (M : MFit cs) {i : Nat} {c : Change} (e : cs[i]? = some c) (h0 : RunOk (mAt cs i) (fun m => ∃ b ∈ cs.take i, m ∈ marksOf b) (20 * i)) : ∀ k, k ≤ c.ds.length → RunOk (mIn cs i c k) (avail cs i c k) (20 * i + k) := by
  obtain ⟨hil, hc⟩ := List.getElem?_eq_some_iff.mp e
  have new : ∀ b ∈ cs.take i, b.n ≠ c.n := fun b hb q => by
    have h1 : cs = cs.take i ++ c :: cs.drop (i + 1) := by
      rw [← hc, List.getElem_cons_drop, List.take_append_drop]
    have nd := M.nd
    rw [h1, List.map_append, List.map_cons] at nd
    exact (List.nodup_append.mp nd).2.2 b.n (List.mem_map_of_mem hb) c.n List.mem_cons_self q
  intro k
  induction k with
  | zero =>
    intro _
    refine ⟨fun m => (h0.row m).trans ⟨.inl, fun q => q.elim id fun ⟨j, hj, _⟩ => absurd hj (by simp [adds])⟩, h0.nd, h0.wd, h0.rl, h0.wl, h0.gl⟩
  | succ k ih =>
    intro hk
    have ek : c.ds[k]? = some c.ds[k] := List.getElem?_eq_getElem (by omega)
    rw [mIn_succ ek]
    have ow := mIn_own (cs := cs) (i := i) (c := c) k (by omega)
    refine deed_run (ih (by omega)) (fun m => ?_) (fun q => ?_) (M.fit i c e k _ ek).w
    · unfold avail
      rw [adds_take ek, ow]
      by_cases q : c.ds[k].w = "add"
      · rw [if_pos (decide_eq_true q)]
        constructor
        · rintro (a | ⟨j, hj, a⟩)
          · exact .inl (.inl a)
          · by_cases z : j < adds (c.ds.take k)
            · exact .inl (.inr ⟨j, z, a⟩)
            · have : j = adds (c.ds.take k) := by omega
              exact .inr ⟨q, by rw [a, this]⟩
        · rintro ((a | ⟨j, hj, a⟩) | ⟨_, a⟩)
          · exact .inl a
          · exact .inr ⟨j, by omega, a⟩
          · exact .inr ⟨_, Nat.lt_succ_self _, a⟩
      · rw [if_neg (by rw [decide_eq_false q]; exact Bool.false_ne_true)]
        exact ⟨.inl, fun a => a.elim id fun a => absurd a.1 q⟩
    · rw [ow] at q
      rcases q with ⟨b, hb, hm⟩ | ⟨j, hj, q⟩
      · obtain ⟨j, _, q⟩ := marksOf_mem.mp hm
        exact new b hb (Prod.mk.inj q).1.symm
      · have := (Prod.mk.inj q).2
        omega
theorem run_all {cs : List Change} (M : MFit cs) : ∀ i, i ≤ cs.length → RunOk (mAt cs i) (fun m => ∃ b ∈ cs.take i, m ∈ marksOf b) (20 * i)
  | 0, _ => ⟨fun m => ⟨fun h => (nomatch h), fun ⟨b, h, _⟩ => (nomatch h)⟩, List.nodup_nil, fun m h => (nomatch h), Nat.le_refl _, Nat.le_refl _, Nat.le_refl _⟩
  | i + 1, hi => by
    have h0 := run_all M i (by omega)
    have e : cs[i]? = some cs[i] := List.getElem?_eq_getElem (by omega)
    generalize cs[i] = c at e
    have h1 := run_in M e h0 c.ds.length (Nat.le_refl _)
    rw [mIn_len e] at h1
    have dl := M.dl c (List.mem_of_getElem? e)
    refine ⟨fun m => (h1.row m).trans ?_, h1.nd, h1.wd, by have := h1.rl; omega, by have := h1.wl; omega, by have := h1.gl; omega⟩
    unfold avail
    rw [List.take_length, List.take_add_one, e]
    constructor
    · rintro (⟨b, hb, a⟩ | a)
      · exact ⟨b, List.mem_append_left _ hb, a⟩
      · exact ⟨c, List.mem_append_right _ (List.mem_singleton.mpr rfl), marksOf_mem.mpr a⟩
    · rintro ⟨b, hb, a⟩
      rcases List.mem_append.mp hb with hb | hb
      · exact .inl ⟨b, hb, a⟩
      · have : b = c := List.mem_singleton.mp hb
        subst this
        exact .inr (marksOf_mem.mp a)
end LW

set_option maxHeartbeats 4000000
namespace LW
open PySem L2 PD PyProof.Rows
variable [PD.TabC]
/-! whether a list of changes keeps leanings -/
def keptBad (ahead : List Str) (c : Change) : Bool := decide (c.n ∈ ahead) || !(c.ls.all fun z => decide (z ∈ ahead))
def keptG (ahead : List Str) : List Change → Bool
  | [] => true
  | c :: r => if keptBad ahead c = true then false else keptG (ahead ++ [c.n]) r
def keptOf (chs : List Change) : Bool := keptG [] chs
end LW

set_option maxHeartbeats 4000000
namespace LW
open PySem L2 PD PyProof.Rows
variable [PD.TabC]
/-! ### notes, written -/
def markT : Option (Str × Int) → Str
  | none => "-"
  | some p => p.1 ++ " " ++ numS p.2
def deedH (d : Deed) : Str := d.w ++ " " ++ markT d.m
def deedT (d : Deed) : Str := if decide (d.w = ("cut" : Str)) = true then deedH d else deedH d ++ ": " ++ d.l.getD ""
def headW (n : Str) (ls : List Str) : List Str := "change" :: n :: (if (!ls.isEmpty) = true then "on" :: ls else [])
def headT (n : Str) (ls : List Str) : Str := Str.join " " (headW n ls)
def rowsT (c : Change) : List Str := headT c.n c.ls :: c.ds.map deedT
def noteT (c : Change) : Str := Str.join "\n" (rowsT c)
/-! ### notes, read -/
def figs : Str := "0123456789"
def isNum (z : Str) : Bool := !(decide (z = "") || decide (9 < (z.length : Int))) && (!(decide (chS ((cs z).getD 0 0) = ("0" : Str)) && !decide (z = "0")) && (cs z).all fun c => decide (c ∈ cs figs))
def readMark (t : Str) : Option (Option (Str × Int)) := if decide (t = ("-" : Str)) = true then some none else
  match Txt.split t " " with
  | [a, b] => if isNum b = true then some (some (a, (PySem.intText? b).getD 0)) else none
  | _ => none
def readDeed (row : Str) : Option Deed := if decide ((Txt.partition row " ").1 = ("cut" : Str)) = true then (readMark (Txt.partition row " ").2.2).map fun m => ⟨(Txt.partition row " ").1, m, none⟩
  else if decide ((Txt.partition (Txt.partition row " ").2.2 ": ").2.1 = ("" : Str)) = true then none
  else (readMark (Txt.partition (Txt.partition row " ").2.2 ": ").1).map fun m => ⟨(Txt.partition row " ").1, m, some (Txt.partition (Txt.partition row " ").2.2 ": ").2.2⟩
def readHead (row : Str) : Option (Str × List Str) :=
  let w := Txt.split row " "
  if (!decide (w.headD "" = ("change" : Str))) = true then none else if decide ((w.length : Int) = 2) = true then some (w.getD 1 "", [])
  else if (decide ((w.length : Int) < 4) || !decide (w.getD 2 "" = ("on" : Str))) = true then none else some (w.getD 1 "", w.drop 3)
/-! ### what may be written -/
def MarkOk (m : Option (Str × Int)) : Prop := ∀ x k, m = some (x, k) → NameOk x ∧ 0 ≤ k ∧ k < 1000000000
structure DeedOk' (d : Deed) : Prop where
  w : d.w = "add" ∨ d.w = "cut" ∨ d.w = "set"
  c : d.w = "cut" → d.l = none
  l : d.w ≠ "cut" → ∃ l, d.l = some l ∧ LineOk l
  m : MarkOk d.m
structure ChOk (c : Change) : Prop where
  n : NameOk c.n
  ls : ∀ z ∈ c.ls, NameOk z
  ll : c.ls.length ≤ 62
  dl : c.ds.length ≤ 20
  ds : ∀ d ∈ c.ds, DeedOk' d
theorem name_sgn {z : Str} (h : NameOk z) : ∀ c ∈ cs z, (97 ≤ c ∧ c ≤ 122) ∨ (48 ≤ c ∧ c ≤ 57) := fun c hc => by
  have h2 := h.2.2 c hc
  have : ∀ c ∈ cs sgn, (97 ≤ c ∧ c ≤ 122) ∨ (48 ≤ c ∧ c ≤ 57) := by decide +kernel
  exact this c h2
theorem name_ne {z : Str} (h : NameOk z) {s : Nat} (hs : s < 48 ∨ (57 < s ∧ s < 97)) : s ∉ cs z := fun m => by
  have := name_sgn h s m
  omega
theorem cs_num {n : Nat} : cs (numS (n : Int)) = TL.numL n := TL.tl_num n
theorem num_ne {k : Int} (h0 : 0 ≤ k) {s : Nat} (hs : s < 48 ∨ 57 < s) : s ∉ cs (numS k) := by
  obtain ⟨n, rfl⟩ := Int.eq_ofNat_of_zero_le h0
  rw [cs_num]
  exact TL.numL_free hs
theorem num_len {k : Int} (h0 : 0 ≤ k) (h : k < 1000000000) : (numS k).length ≤ 9 := by
  obtain ⟨n, rfl⟩ := Int.eq_ofNat_of_zero_le h0
  rw [len_cs, cs_num]
  exact TL.numL_len (by decide) (by have : (n : Int) < 1000000000 := h; omega)
theorem cs_markT (x : Str) (k : Int) : cs (markT (some (x, k))) = cs x ++ (32 :: cs (numS k)) := by
  show cs (x ++ " " ++ numS k) = _
  rw [cs_app, cs_app, List.append_assoc]; rfl
theorem markT_ne {m : Option (Str × Int)} (h : MarkOk m) {s : Nat} (hs : s = 10 ∨ s = 58) : s ∉ cs (markT m) := by
  cases m with
  | none => rcases hs with rfl | rfl <;> decide +kernel
  | some p =>
    obtain ⟨x, k⟩ := p
    obtain ⟨hx, h0, h1⟩ := h x k rfl
    rw [cs_markT]
    intro q
    rcases List.mem_append.mp q with q | q
    · rcases hs with rfl | rfl
      · exact name_ne hx (by omega) q
      · exact name_ne hx (by omega) q
    · rcases List.mem_cons.mp q with q | q
      · omega
      · rcases hs with rfl | rfl
        · exact num_ne h0 (by omega) q
        · exact num_ne h0 (by omega) q
theorem markT_len {m : Option (Str × Int)} (h : MarkOk m) : (markT m).length ≤ 22 := by
  cases m with
  | none => decide +kernel
  | some p =>
    obtain ⟨x, k⟩ := p
    obtain ⟨hx, h0, h1⟩ := h x k rfl
    have a := num_len h0 h1
    have b := hx.2.1
    show (x ++ " " ++ numS k).length ≤ 22
    rw [len_app, len_app]
    have : (" " : Str).length = 1 := by decide +kernel
    omega
theorem word_ne {w : Str} (h : w = "add" ∨ w = "cut" ∨ w = "set") {s : Nat} (hs : s = 10 ∨ s = 58 ∨ s = 32) : s ∉ cs w := by
  rcases h with rfl | rfl | rfl <;> rcases hs with rfl | rfl | rfl <;> decide +kernel
theorem word_len {w : Str} (h : w = "add" ∨ w = "cut" ∨ w = "set") : w.length = 3 := by
  rcases h with rfl | rfl | rfl <;> decide +kernel
theorem deedH_len {d : Deed} (h : DeedOk' d) : (deedH d).length ≤ 26 := by
  have a := markT_len h.m
  have b := word_len h.w
  unfold deedH
  rw [len_app, len_app]
  have : (" " : Str).length = 1 := by decide +kernel
  omega
theorem deedT_len {d : Deed} (h : DeedOk' d) : (deedT d).length ≤ 228 := by
  have a := deedH_len h
  unfold deedT
  split
  · omega
  · rename_i hw
    obtain ⟨l, e, hl⟩ := h.l (by simpa using hw)
    rw [e, len_app, len_app]
    have : (": " : Str).length = 2 := by decide +kernel
    have := hl.1
    show _ + _ + l.length ≤ _
    omega
theorem line_ne {l : Str} (h : LineOk l) {s : Nat} (hs : s < 32) : s ∉ cs l := fun m => by
  have := h.2 s m
  omega
theorem deedH_ne {d : Deed} (h : DeedOk' d) : 10 ∉ cs (deedH d) := by
  unfold deedH
  rw [cs_app, cs_app]
  intro q
  rcases List.mem_append.mp q with q | q
  · rcases List.mem_append.mp q with q | q
    · exact word_ne h.w (.inl rfl) q
    · exact absurd q (by decide +kernel)
  · exact markT_ne h.m (.inl rfl) q
theorem deedT_ne {d : Deed} (h : DeedOk' d) : 10 ∉ cs (deedT d) := by
  unfold deedT
  split
  · exact deedH_ne h
  · rename_i hw
    obtain ⟨l, e, hl⟩ := h.l (by simpa using hw)
    rw [e, cs_app, cs_app]
    intro q
    rcases List.mem_append.mp q with q | q
    · rcases List.mem_append.mp q with q | q
      · exact deedH_ne h q
      · exact absurd q (by decide +kernel)
    · exact line_ne hl (by decide) q
theorem headW_mem {n : Str} {ls : List Str} (hn : NameOk n) (hl : ∀ z ∈ ls, NameOk z) : ∀ w ∈ headW n ls, w.length ≤ 12 ∧ 32 ∉ cs w ∧ 10 ∉ cs w ∧ ∀ c ∈ cs w, c < 256 := by
  have on : ∀ z, NameOk z → z.length ≤ 12 ∧ 32 ∉ cs z ∧ 10 ∉ cs z ∧ ∀ c ∈ cs z, c < 256 := fun z h => ⟨h.2.1, name_ne h (by omega), name_ne h (by omega), fun c hc => by have := name_sgn h c hc; omega⟩
  intro w hw
  unfold headW at hw
  rcases List.mem_cons.mp hw with rfl | hw
  · exact ⟨by decide +kernel, by decide +kernel, by decide +kernel, by decide +kernel⟩
  rcases List.mem_cons.mp hw with rfl | hw
  · exact on _ hn
  split at hw
  · rcases List.mem_cons.mp hw with rfl | hw
    · exact ⟨by decide +kernel, by decide +kernel, by decide +kernel, by decide +kernel⟩
    · exact on _ (hl _ hw)
  · exact nomatch hw
theorem headW_len (n : Str) (ls : List Str) : (headW n ls).length ≤ ls.length + 3 := by
  unfold headW
  split
  · simp
  · simp
theorem joinL_mem {S : List Nat} {c : Nat} : ∀ {ps : List (List Nat)}, c ∈ TL.joinL S ps → c ∈ S ∨ ∃ p ∈ ps, c ∈ p
  | [], h => nomatch h
  | [p], h => .inr ⟨p, List.mem_cons_self, h⟩
  | p :: q :: r, h => by
    rcases List.mem_append.mp (show c ∈ p ++ (S ++ TL.joinL S (q :: r)) from h) with h | h
    · exact .inr ⟨p, List.mem_cons_self, h⟩
    rcases List.mem_append.mp h with h | h
    · exact .inl h
    · rcases joinL_mem h with h | ⟨x, hx, h⟩
      · exact .inl h
      · exact .inr ⟨x, List.mem_cons_of_mem _ hx, h⟩
theorem joinL_len {S : List Nat} {k : Nat} : ∀ {ps : List (List Nat)}, (∀ p ∈ ps, p.length ≤ k) → (TL.joinL S ps).length ≤ ps.length * (k + S.length)
  | [], _ => Nat.zero_le _
  | [p], h => by
    have := h p List.mem_cons_self
    show p.length ≤ 1 * _
    omega
  | p :: q :: r, h => by
    have h1 := h p List.mem_cons_self
    have h2 := joinL_len (S := S) (ps := q :: r) fun x hx => h x (List.mem_cons_of_mem _ hx)
    show (p ++ (S ++ TL.joinL S (q :: r))).length ≤ (r.length + 1 + 1) * (k + S.length)
    rw [List.length_append, List.length_append, Nat.succ_mul]
    have : (q :: r).length = r.length + 1 := rfl
    rw [this] at h2
    omega
theorem join_len {w : Str} {k : Nat} {zs : List Str} (h : ∀ z ∈ zs, z.length ≤ k) : (Str.join w zs).length ≤ zs.length * (k + w.length) := by
  rw [len_cs, show cs (Str.join w zs) = TL.joinL (cs w) (zs.map cs) from TL.tl_join _ _]
  have := joinL_len (S := cs w) (k := k) (ps := zs.map cs) (fun p hp => by
    obtain ⟨z, hz, rfl⟩ := List.mem_map.mp hp
    rw [← len_cs]; exact h z hz)
  rw [List.length_map, ← len_cs] at this
  exact this
theorem headT_ne {n : Str} {ls : List Str} (hn : NameOk n) (hl : ∀ z ∈ ls, NameOk z) : 10 ∉ cs (headT n ls) := by
  unfold headT
  rw [show cs (Str.join " " (headW n ls)) = TL.joinL (cs " ") ((headW n ls).map cs) from TL.tl_join _ _]
  intro q
  rcases joinL_mem q with q | ⟨p, hp, q⟩
  · exact absurd q (by decide +kernel)
  · obtain ⟨z, hz, rfl⟩ := List.mem_map.mp hp
    exact (headW_mem hn hl z hz).2.2.1 q
theorem headT_tx {n : Str} {ls : List Str} (hn : NameOk n) (hl : ∀ z ∈ ls, NameOk z) (hk : ls.length ≤ 62) : Tx0 (headT n ls) := by
  refine ⟨?_, fun c hc => ?_⟩
  · have h1 := join_len (w := " ") (k := 12) (zs := headW n ls) fun z hz => (headW_mem hn hl z hz).1
    have h2 := headW_len n ls
    have e : (" " : Str).length = 1 := by decide +kernel
    rw [e] at h1
    have h3 : (headW n ls).length * (12 + 1) ≤ 65 * 13 := Nat.mul_le_mul_right _ (by omega)
    exact Nat.le_trans h1 (Nat.le_trans h3 (by decide))
  · rcases joinL_mem (show c ∈ TL.joinL (cs " ") ((headW n ls).map cs) from TL.tl_join _ _ ▸ hc) with q | ⟨p, hp, q⟩
    · have : ∀ c ∈ cs " ", c < 256 := by decide +kernel
      exact this c q
    · obtain ⟨z, hz, rfl⟩ := List.mem_map.mp hp
      exact (headW_mem hn hl z hz).2.2.2 c q
theorem rowsT_ne {c : Change} (h : ChOk c) : ∀ p ∈ rowsT c, 10 ∉ cs p := fun p hp => by
  rcases List.mem_cons.mp hp with rfl | hp
  · exact headT_ne h.n h.ls
  · obtain ⟨d, hd, rfl⟩ := List.mem_map.mp hp
    exact deedT_ne (h.ds d hd)
theorem rowsT_len {c : Change} (h : ChOk c) : ∀ p ∈ rowsT c, p.length ≤ 1000 := fun p hp => by
  rcases List.mem_cons.mp hp with rfl | hp
  · exact (headT_tx h.n h.ls h.ll).1
  · obtain ⟨d, hd, rfl⟩ := List.mem_map.mp hp
    have := deedT_len (h.ds d hd)
    omega
theorem noteT_len {c : Change} (h : ChOk c) : (noteT c).length ≤ 21021 := by
  have := join_len (w := "\n") (zs := rowsT c) (rowsT_len h)
  have e : ("\n" : Str).length = 1 := by decide +kernel
  have e2 : (rowsT c).length = c.ds.length + 1 := by unfold rowsT; rw [List.length_cons, List.length_map]
  have h1 := h.dl
  rw [e, e2] at this
  exact Nat.le_trans this (Nat.le_trans (Nat.mul_le_mul_right _ (show c.ds.length + 1 ≤ 21 by omega)) (by decide))
/-! ### read back -/
theorem split_note {c : Change} (h : ChOk c) : Txt.split (noteT c) "\n" = rowsT c := by
  have := TL.split_join (y := "\n") (s := 10) (S := []) (by decide +kernel) (by decide +kernel) (parts := rowsT c) (by unfold rowsT; exact List.cons_ne_nil _ _) (rowsT_ne h)
  rw [TL.join_eq] at this
  exact this
theorem split_head {n : Str} {ls : List Str} (hn : NameOk n) (hl : ∀ z ∈ ls, NameOk z) : Txt.split (headT n ls) " " = headW n ls := by
  have := TL.split_join (y := " ") (s := 32) (S := []) (by decide +kernel) (by decide +kernel) (parts := headW n ls) (by unfold headW; exact List.cons_ne_nil _ _) (fun p hp => (headW_mem hn hl p hp).2.1)
  rw [TL.join_eq] at this
  exact this
theorem readHead_back {n : Str} {ls : List Str} (hn : NameOk n) (hl : ∀ z ∈ ls, NameOk z) : readHead (headT n ls) = some (n, ls) := by
  unfold readHead
  rw [split_head hn hl]
  cases ls with
  | nil => rfl
  | cons a r =>
    show (if (!decide (("change" : Str) = ("change" : Str))) = true then none else _) = _
    rw [if_neg (by decide)]
    have e : (headW n (a :: r)).length = r.length + 4 := rfl
    rw [e, if_neg (by simp; omega), if_neg (by
      rw [Bool.or_eq_true]
      rintro (q | q)
      · have := of_decide_eq_true q
        omega
      · exact absurd q (by show ¬ (!decide (("on" : Str) = ("on" : Str))) = true; decide))]
    rfl
theorem num_ok {k : Int} (h0 : 0 ≤ k) (h : k < 1000000000) : isNum (numS k) = true ∧ PySem.intText? (numS k) = some k := by
  have hl := num_len h0 h
  obtain ⟨n, rfl⟩ := Int.eq_ofNat_of_zero_le h0
  have e : cs (numS ((n : Int))) = TL.numL n := cs_num
  have hne := TL.numL_ne n
  refine ⟨?_, TL.int_num (by rw [← e, ← len_cs]; omega)⟩
  have q1 : decide (numS ((n : Int)) = ("" : Str)) = false := decide_eq_false fun q => hne (by rw [← e, q]; decide +kernel)
  have q2 : decide (9 < ((numS ((n : Int))).length : Int)) = false := decide_eq_false (by omega)
  have q4 : ((cs (numS ((n : Int)))).all fun c => decide (c ∈ cs figs)) = true := by
    rw [List.all_eq_true]
    intro c hc
    rw [e] at hc
    have := TL.numL_digits n c hc
    refine decide_eq_true ?_
    have f : cs figs = [48, 49, 50, 51, 52, 53, 54, 55, 56, 57] := by decide +kernel
    rw [f]
    simp
    omega
  have q3 : (decide (chS ((cs (numS ((n : Int)))).getD 0 0) = ("0" : Str)) && !decide (numS ((n : Int)) = ("0" : Str))) = false := by
    by_cases z : n = 0
    · subst z; decide +kernel
    · have : decide (chS ((cs (numS ((n : Int)))).getD 0 0) = ("0" : Str)) = false := by
        refine decide_eq_false fun q => ?_
        have q := congrArg cs q
        rw [e, cs_ch] at q
        have q0 : (TL.numL n).getD 0 0 = 48 := by
          have : cs ("0" : Str) = [48] := by decide +kernel
          rw [this] at q
          exact (List.cons.inj q).1
        have lead : ∀ m : Nat, m ≠ 0 → (TL.numL m).getD 0 0 ≠ 48 := fun m => by
          induction m using Nat.strongRecOn with
          | _ m ih =>
            intro hm
            by_cases h10 : m < 10
            · rw [TL.numL_lt h10]; show 48 + m ≠ 48; omega
            · rw [TL.numL_step (by omega)]
              have hd := TL.numL_ne (m / 10)
              have : (TL.numL (m / 10) ++ [48 + m % 10]).getD 0 0 = (TL.numL (m / 10)).getD 0 0 := by
                cases ez : TL.numL (m / 10) with
                | nil => exact absurd ez hd
                | cons a r => rfl
              rw [this]
              exact ih (m / 10) (by omega) (by omega)
        exact lead n z q0
      rw [this]; rfl
  unfold isNum
  rw [q1, q2, q3, q4]; rfl
theorem readMark_back {m : Option (Str × Int)} (h : MarkOk m) : readMark (markT m) = some m := by
  unfold readMark
  cases m with
  | none => rfl
  | some p =>
    obtain ⟨x, k⟩ := p
    obtain ⟨hx, h0, h1⟩ := h x k rfl
    have hd : decide (markT (some (x, k)) = ("-" : Str)) = false := decide_eq_false fun q => by
      have q := congrArg List.length (congrArg cs q)
      rw [cs_markT, List.length_append, List.length_cons, ← len_cs] at q
      have := hx.1
      have e : (cs ("-" : Str)).length = 1 := by decide +kernel
      rw [e] at q
      omega
    rw [hd, if_neg Bool.false_ne_true]
    have sp : Txt.split (markT (some (x, k))) " " = [x, numS k] := by
      have := TL.split_join (y := " ") (s := 32) (S := []) (by decide +kernel) (by decide +kernel) (parts := [x, numS k]) (List.cons_ne_nil _ _) (fun p hp => by
        rcases List.mem_cons.mp hp with rfl | hp
        · exact name_ne hx (by omega)
        · rw [List.mem_singleton.mp hp]; exact num_ne h0 (by omega))
      rw [TL.join_eq] at this
      exact this
    rw [sp]
    obtain ⟨n1, n2⟩ := num_ok h0 h1
    show (if isNum (numS k) = true then some (some (x, (PySem.intText? (numS k)).getD 0)) else none) = _
    rw [if_pos n1, n2]; rfl
theorem readDeed_back {d : Deed} (h : DeedOk' d) : readDeed (deedT d) = some d := by
  have p1 : ∀ b : Str, Txt.partition (d.w ++ (" " : Str) ++ b) (" " : Str) = (d.w, (" " : Str), b) := fun b => TL.partition_app (s := 32) (S := []) (by decide +kernel) (word_ne h.w (.inr (.inr rfl)))
  unfold readDeed deedT deedH
  by_cases hw : d.w = "cut"
  · rw [decide_eq_true hw, if_pos rfl, p1]
    show (if decide (d.w = ("cut" : Str)) = true then (readMark (markT d.m)).map _ else _) = _
    rw [decide_eq_true hw, if_pos rfl, readMark_back h.m]
    obtain ⟨w, m, l⟩ := d
    have := h.c hw
    dsimp only at this
    subst this
    rfl
  · obtain ⟨l, el, hl⟩ := h.l hw
    rw [decide_eq_false hw, if_neg Bool.false_ne_true]
    have e : d.w ++ " " ++ markT d.m ++ ": " ++ d.l.getD "" = d.w ++ " " ++ (markT d.m ++ ": " ++ l) := by
      refine cs_ext ?_
      rw [el]
      show cs (d.w ++ " " ++ markT d.m ++ ": " ++ l) = _
      simp only [cs_app, List.append_assoc]
    rw [e, p1]
    have p2 : Txt.partition (markT d.m ++ (": " : Str) ++ l) (": " : Str) = (markT d.m, (": " : Str), l) := TL.partition_app (s := 58) (S := [32]) (by decide +kernel) (markT_ne h.m (.inr rfl))
    show (if decide (d.w = ("cut" : Str)) = true then _ else if decide ((Txt.partition (markT d.m ++ ": " ++ l) ": ").2.1 = ("" : Str)) = true then none else (readMark (Txt.partition (markT d.m ++ ": " ++ l) ": ").1).map fun m => (⟨d.w, m, some (Txt.partition (markT d.m ++ ": " ++ l) ": ").2.2⟩ : Deed)) = _
    rw [p2, decide_eq_false hw, if_neg Bool.false_ne_true]
    show (if decide ((": " : Str) = ("" : Str)) = true then none else (readMark (markT d.m)).map fun m => (⟨d.w, m, some l⟩ : Deed)) = _
    rw [if_neg (by decide +kernel), readMark_back h.m]
    obtain ⟨w, m, l'⟩ := d
    dsimp only at el
    subst el
    rfl
end LW
namespace LW
open PySem L2 PD PyProof.Rows
variable [PD.TabC]
theorem sum_len {k : Nat} : ∀ {zs : List Str}, (∀ z ∈ zs, z.length ≤ k) → (zs.map (·.length)).sum ≤ zs.length * k
  | [], _ => Nat.zero_le _
  | z :: r, h => by
    have h1 := h z List.mem_cons_self
    have h2 := sum_len fun x hx => h x (List.mem_cons_of_mem _ hx)
    rw [List.map_cons, List.sum_cons, List.length_cons, Nat.succ_mul]
    omega
theorem lg_nat {k : Int} (h0 : 0 ≤ k) (h : k < 1000000000) : k.natAbs.log2 < 1920 := by
  rcases Nat.eq_zero_or_pos k.natAbs with e | e
  · rw [e]; decide
  · rw [Nat.log2_lt (by omega)]
    exact Nat.lt_of_lt_of_le (show k.natAbs < 2 ^ 30 by omega) (Nat.pow_le_pow_right (by decide) (by decide))
end LW
namespace PD
open PySem L2
variable [PD.TabC]
theorem EA.to {X : Cx} {W : WX} {ex : Addr → Prop} {es : List Expr} {ρ as bs : List Sl} (h : EA X W ex es ρ as) (q : as = bs) : EA X W ex es ρ bs := q ▸ h
end PD
namespace LW
open PySem L2 PD PyProof.Rows
variable [PD.TabC]
theorem fold3 (a b c : Str) : [a, b, c].foldl (· ++ ·) Str.empty = a ++ b ++ c := by
  show Str.empty ++ a ++ b ++ c = _
  refine cs_ext ?_
  simp only [cs_app]
  rfl
end LW

set_option maxHeartbeats 4000000
/-! changes as data: their depth, their layout; what the laws draw are changes -/
namespace LW
variable [PD.TabC]
open PySem L2 PD PyProof.Rows
def DeedOk (d : Deed) : Prop := Tx0 d.w ∧ (d.w ≠ "cut" → d.l.isSome = true) ∧ (∀ l, d.l = some l → Tx0 l) ∧ ∀ x k, d.m = some (x, k) → Tx0 x
def ChangeOk (c : Change) : Prop := Tx0 c.n ∧ (∀ z ∈ c.ls, Tx0 z) ∧ c.ls.length ≤ 1000 ∧ c.ds.length ≤ 1000 ∧ ∀ d ∈ c.ds, DeedOk d
theorem qD_tup (d : Deed) : ∃ r, qD d = .tuple (.str d.w :: qM d.m :: r) ∧ ∀ l, d.l = some l → r = [.str l] := by
  unfold qD
  cases d.l with
  | none => exact ⟨[], rfl, fun _ h => nomatch h⟩
  | some l => exact ⟨[.str l], rfl, fun _ h => by cases h; rfl⟩
theorem lay_all {α : Type} {q : α → PyData} {xs : List α} (h : ∀ x ∈ xs, (q x).canLay0 = true) : PyData.canLayAll0 (xs.map q) = true := by
  induction xs with
  | nil => rfl
  | cons a r ih => rw [List.map_cons, PyData.canLayAll0, h a List.mem_cons_self, ih fun x hx => h x (List.mem_cons_of_mem _ hx)]; rfl
theorem depth_all {α : Type} {q : α → PyData} {xs : List α} {k : Nat} (h : ∀ x ∈ xs, (q x).depth ≤ k) : PyData.depthAll (xs.map q) ≤ k := by
  induction xs with
  | nil => exact Nat.zero_le _
  | cons a r ih =>
    rw [List.map_cons, PyData.depthAll]
    exact Nat.max_le.mpr ⟨h a List.mem_cons_self, ih fun x hx => h x (List.mem_cons_of_mem _ hx)⟩
theorem lay_m {m : Option (Str × Int)} (h : ∀ x k, m = some (x, k) → Tx0 x) : (qM m).canLay0 = true ∧ (qM m).depth ≤ 1 := by
  cases m with
  | none => exact ⟨rfl, Nat.zero_le _⟩
  | some p =>
    obtain ⟨x, k⟩ := p
    refine ⟨?_, ?_⟩
    · show (PyData.strOk x && (true && true)) = true
      rw [str_ok (h x k rfl)]; rfl
    · show max 0 (max 0 0) + 1 ≤ 1
      decide
theorem lay_d {d : Deed} (h : DeedOk d) : (qD d).canLay0 = true ∧ (qD d).depth ≤ 2 := by
  obtain ⟨h1, _, h2, h3⟩ := h
  have hm := lay_m h3
  unfold qD
  cases e : d.l with
  | none =>
    refine ⟨?_, ?_⟩
    · show (PyData.strOk d.w && ((qM d.m).canLay0 && true)) = true
      rw [str_ok h1, hm.1]; rfl
    · show max 0 (max (qM d.m).depth 0) + 1 ≤ 2
      have := hm.2; omega
  | some l =>
    refine ⟨?_, ?_⟩
    · show (PyData.strOk d.w && ((qM d.m).canLay0 && (PyData.strOk l && true))) = true
      rw [str_ok h1, hm.1, str_ok (h2 l e)]; rfl
    · show max 0 (max (qM d.m).depth (max 0 0)) + 1 ≤ 2
      have := hm.2; omega
theorem lay_c {c : Change} (h : ChangeOk c) : (qC c).canLay0 = true ∧ (qC c).depth ≤ 4 := by
  obtain ⟨h1, h2, _, _, h3⟩ := h
  have e1 : PyData.canLayAll0 (c.ls.map .str) = true := lay_all (q := PyData.str) fun x hx => str_ok (h2 x hx)
  have e2 : PyData.canLayAll0 (c.ds.map qD) = true := lay_all fun x hx => (lay_d (h3 x hx)).1
  have e3 : PyData.depthAll (c.ls.map .str) ≤ 0 := depth_all (q := PyData.str) fun x hx => Nat.le_refl _
  have e4 : PyData.depthAll (c.ds.map qD) ≤ 2 := depth_all fun x hx => (lay_d (h3 x hx)).2
  refine ⟨?_, ?_⟩
  · show (PyData.strOk c.n && (PyData.canLayAll0 (c.ls.map .str) && (PyData.canLayAll0 (c.ds.map qD) && true))) = true
    rw [str_ok h1, e1, e2]; rfl
  · show max 0 (max (PyData.depthAll (c.ls.map .str) + 1) (max (PyData.depthAll (c.ds.map qD) + 1) 0)) + 1 ≤ 4
    omega
theorem shaped_c {c : Change} (h : ChangeOk c) : SeqAt.shaped (qC c) = true := by
  have := lay_c h
  unfold SeqAt.shaped
  rw [this.1, decide_eq_true (by omega)]; rfl
theorem eqv_c {c : Change} (h : ChangeOk c) : PyData.eqv (qC c) (qC c) = true := SeqAt.eqv_refl _ (lay_c h).1

theorem lay_ls {ls : List Str} (h : ∀ z ∈ ls, Tx0 z) : PyData.canLay0 (.list (ls.map .str)) = true := lay_all (q := PyData.str) fun x hx => str_ok (h x hx)
theorem shaped_ls {ls : List Str} (h : ∀ z ∈ ls, Tx0 z) : SeqAt.shaped (.list (ls.map .str)) = true := by
  have e3 : PyData.depthAll (ls.map .str) ≤ 0 := depth_all (q := PyData.str) fun x hx => Nat.le_refl _
  unfold SeqAt.shaped
  rw [lay_ls h, decide_eq_true (show (PyData.list (ls.map .str)).depth ≤ 64 by show PyData.depthAll (ls.map .str) + 1 ≤ 64; omega)]; rfl
theorem shaped_d {d : Deed} (h : DeedOk d) : SeqAt.shaped (qD d) = true := by
  have := lay_d h
  unfold SeqAt.shaped
  rw [this.1, decide_eq_true (by omega)]; rfl
theorem eqv_d {d : Deed} (h : DeedOk d) : PyData.eqv (qD d) (qD d) = true := SeqAt.eqv_refl _ (lay_d h).1
theorem eqv_ls {ls : List Str} (h : ∀ z ∈ ls, Tx0 z) : PyData.eqv (.list (ls.map .str)) (.list (ls.map .str)) = true := SeqAt.eqv_refl _ (lay_ls h)
/-! ### the drawn changes are changes -/
structure DeedG (n : Str) (ls : List Str) (d : Deed) : Prop where
  ok : DeedOk' d
  s : d.w ≠ "add" → d.m.isSome = true
  m : ∀ x k, d.m = some (x, k) → x = n ∨ x ∈ ls
structure Good (c : Change) : Prop where
  n : NameOk c.n
  ls : ∀ z ∈ c.ls, NameOk z
  ll : c.ls.length ≤ 62
  dl : c.ds.length ≤ 20
  up : c.ls.Pairwise fun a b => cs a < cs b
  own : c.n ∉ c.ls
  ds : ∀ d ∈ c.ds, DeedG c.n c.ls d
theorem Good.ok {c : Change} (h : Good c) : ChOk c := ⟨h.n, h.ls, h.ll, h.dl, fun d hd => (h.ds d hd).ok⟩
/-! leans -/
theorem lnAt_sub (c : Int) (ah : List Change) : ∀ k, k ≤ ah.length → (lnAt c ah k).Sublist ((ah.take k).map Change.n)
  | 0, _ => List.nil_sublist _
  | k + 1, hk => by
    have ih := lnAt_sub c ah k (by omega)
    have e : ah[k]? = some ah[k] := List.getElem?_eq_getElem (by omega)
    rw [lnAt, List.take_add_one, e, List.map_append]
    split
    · exact List.Sublist.append ih (List.Sublist.refl _)
    · exact ih.trans (List.sublist_append_left _ _)
theorem leansOf_sub {c : Int} {ah : List Change} {z : Str} (h : z ∈ leansOf c ah) : ∃ f ∈ ah, f.n = z := by
  have h1 := (lnAt_sub c ah ah.length (Nat.le_refl _)).subset (sortS_mem.mp h)
  rw [List.take_length] at h1
  obtain ⟨f, hf, e⟩ := List.mem_map.mp h1
  exact ⟨f, hf, e⟩
theorem leansOf_up {c : Int} {ah : List Change} (h : (ah.map Change.n).Nodup) : (leansOf c ah).Pairwise fun a b => cs a < cs b := by
  refine sortS_rise ?_
  have h1 := lnAt_sub c ah ah.length (Nat.le_refl _)
  rw [List.take_length] at h1
  exact h1.nodup h
theorem leansOf_len (c : Int) (ah : List Change) : (leansOf c ah).length ≤ ah.length := by
  unfold leansOf
  rw [sortS_len]
  exact lnAt_len c ah _
/-! deeds -/
def MkIn (n : Str) (ls : List Str) (p : Str × Int) : Prop := (p.1 = n ∨ p.1 ∈ ls) ∧ 0 ≤ p.2 ∧ p.2 < 1000000000
theorem marksOf_in {f : Change} {p : Str × Int} (h : p ∈ marksOf f) : p.1 = f.n ∧ 0 ≤ p.2 ∧ p.2 < adds f.ds := by
  obtain ⟨j, hj, rfl⟩ := List.mem_map.mp h
  have := List.mem_range.mp hj
  exact ⟨rfl, by show 0 ≤ (j : Int); omega, by show (j : Int) < _; omega⟩
theorem leanMarks_in {n : Str} {fs : List Change} {ls : List Str} {p : Str × Int} (hf : ∀ f ∈ fs, f.ds.length ≤ 20) (h : p ∈ leanMarks fs ls) : MkIn n ls p := by
  obtain ⟨f, hf1, hp⟩ := List.mem_flatMap.mp h
  obtain ⟨hf2, hl⟩ := List.mem_filter.mp hf1
  obtain ⟨e, h0, h1⟩ := marksOf_in hp
  have := adds_le f.ds
  have := hf f hf2
  exact ⟨.inr (by rw [e]; exact of_decide_eq_true hl), h0, by omega⟩
theorem known_in {n : Str} {ls : List Str} {ms : List (Str × Int)} {own : Nat} (hm : ∀ p ∈ ms, MkIn n ls p) (ho : own ≤ 20) : ∀ p ∈ knownOf n ms own, MkIn n ls p := fun p hp => by
  rcases List.mem_append.mp hp with hp | hp
  · exact hm p hp
  · obtain ⟨j, hj, rfl⟩ := List.mem_map.mp hp
    have := List.mem_range.mp hj
    exact ⟨.inl rfl, by show 0 ≤ (j : Int); omega, by show (j : Int) < _; omega⟩
theorem deedOf_good {n : Str} {ls : List Str} {ms : List (Str × Int)} {own : Nat} (hn : NameOk n) (hl : ∀ z ∈ ls, NameOk z) (hm : ∀ p ∈ ms, MkIn n ls p) (ho : own ≤ 20) (l : Int) : DeedG n ls (deedOf n ms own l) := by
  have hk := known_in hm ho
  have mk : ∀ {m : Option (Str × Int)}, (∀ p, m = some p → p ∈ knownOf n ms own) → MarkOk m ∧ ∀ x k, m = some (x, k) → x = n ∨ x ∈ ls := fun {m} h => ⟨fun x k e => by
    obtain ⟨h1, h2, h3⟩ := hk _ (h _ e)
    refine ⟨?_, h2, h3⟩
    rcases h1 with e | e
    · exact (show x = n from e) ▸ hn
    · exact hl x e, fun x k e => (hk _ (h _ e)).1⟩
  have a := mk (m := addMark n ms own l) (fun p e => by
    unfold addMark at e
    split at e
    · exact List.mem_of_getElem? e
    · cases e)
  have b := mk (m := othMark n ms own l) (fun p e => List.mem_of_getElem? e)
  unfold deedOf
  split
  · exact ⟨⟨.inl rfl, fun e => absurd (show ("add" : Str) = "cut" from e) (by decide +kernel), fun _ => ⟨_, rfl, line_ok _⟩, a.1⟩, fun e => absurd rfl e, a.2⟩
  · rename_i hadd
    have ne : (knownOf n ms own).isEmpty = false := by
      cases e : (knownOf n ms own).isEmpty with
      | false => rfl
      | true => exact absurd (by unfold isAdd; rw [e]; simp) hadd
    have sm : (othMark n ms own l).isSome = true := by
      unfold othMark
      have pos : 0 < (knownOf n ms own).length := by
        cases e : knownOf n ms own with
        | nil => rw [e] at ne; cases ne
        | cons _ _ => exact Nat.succ_pos _
      have p1 := Int.emod_nonneg (dAt n ms own l) (show ((knownOf n ms own).length : Int) ≠ 0 by omega)
      have p2 := Int.emod_lt_of_pos (dAt n ms own l) (show (0 : Int) < ((knownOf n ms own).length : Int) by omega)
      rw [List.getElem?_eq_getElem (by omega)]; rfl
    split
    · exact ⟨⟨.inr (.inl rfl), fun _ => rfl, fun e => absurd rfl e, b.1⟩, fun _ => sm, b.2⟩
    · exact ⟨⟨.inr (.inr rfl), fun e => absurd (show ("set" : Str) = "cut" from e) (by decide +kernel), fun _ => ⟨_, rfl, line_ok _⟩, b.1⟩, fun _ => sm, b.2⟩
theorem deedsAt_good {n : Str} {ls : List Str} {ms : List (Str × Int)} (hn : NameOk n) (hl : ∀ z ∈ ls, NameOk z) (hm : ∀ p ∈ ms, MkIn n ls p) (c : Int) : ∀ k, k ≤ 20 → ∀ d ∈ (deedsAt n c ms k).1, DeedG n ls d
  | 0, _, d, h => nomatch h
  | k + 1, hk, d, h => by
    rcases List.mem_append.mp (show d ∈ (deedsAt n c ms k).1 ++ [deedOf n ms (deedsAt n c ms k).2 (mixed c (k : Int))] from h) with h | h
    · exact deedsAt_good hn hl hm c k (by omega) d h
    · rw [List.mem_singleton.mp h]
      exact deedOf_good hn hl hm (Nat.le_trans (deedsAt_len n c ms k).2 (by omega)) _
theorem chsAt_good (cells : List Int) : ∀ k, k ≤ 60 → ∀ f ∈ (chsAt cells k).1, Good f
  | 0, _, f, h => nomatch h
  | k + 1, hk, f, h => by
    rcases List.mem_append.mp (show f ∈ (chsAt cells k).1 ++ [chAt cells (chsAt cells k).1 (chsAt cells k).2 k] from h) with h | h
    · exact chsAt_good cells k (by omega) f h
    · rw [List.mem_singleton.mp h]
      have ih := chsAt_good cells k (by omega)
      obtain ⟨⟨t1, t2⟩, t3⟩ := chsAt_taken cells k (by omega)
      obtain ⟨l1, l2, l3⟩ := chsAt_len cells k
      have hn : NameOk (chAt cells (chsAt cells k).1 (chsAt cells k).2 k).n := nameOf_ok _ t2 t1
      have hls : ∀ z ∈ leansOf (cell cells (4 * k + 1)) (chsAt cells k).1, NameOk z := fun z hz => by
        obtain ⟨g, hg, rfl⟩ := leansOf_sub hz
        exact (ih g hg).n
      have hll := leansOf_len (cell cells (4 * k + 1)) (chsAt cells k).1
      have hmb := manyOf_bd (cell cells (4 * k + 3))
      have nd : ((chsAt cells k).1.map Change.n).Nodup := by
        rw [l3] at t3
        exact (List.nodup_cons.mp t3).2
      refine ⟨hn, hls, ?_, ?_, leansOf_up nd, fun q => ?_, ?_⟩
      · show (leansOf _ _).length ≤ 62
        omega
      · show (deedsOf _ _ _ _).length ≤ 20
        rw [deedsOf_len]; omega
      · obtain ⟨g, hg, e⟩ := leansOf_sub (show (chAt cells (chsAt cells k).1 (chsAt cells k).2 k).n ∈ leansOf (cell cells (4 * k + 1)) (chsAt cells k).1 from q)
        refine nameOf_new (cell cells (4 * k)) t2 (taken := (chsAt cells k).2) ?_
        rw [show nameOf (cell cells (4 * k)) (chsAt cells k).2 = g.n from e.symm, l3]
        exact List.mem_cons_of_mem _ (List.mem_map_of_mem hg)
      · exact deedsAt_good hn hls (fun p hp => leanMarks_in (fun f hf => (ih f hf).dl) hp) _ _ (by omega)
theorem changesOf_good {cells : List Int} {most : Int} (h : most ≤ 60) : ∀ f ∈ changesOf cells most, Good f := chsAt_good cells _ (by
  unfold chCount
  split <;> omega)
theorem deed_tx {d : Deed} (h : DeedOk' d) : DeedOk d := ⟨by rcases h.w with e | e | e <;> rw [e] <;> exact ⟨by decide +kernel, by decide +kernel⟩, fun hc => by obtain ⟨l, e, _⟩ := h.l hc; rw [e]; rfl, fun l e => by
    by_cases hc : d.w = "cut"
    · rw [h.c hc] at e; cases e
    · obtain ⟨l', e', hl⟩ := h.l hc
      rw [e'] at e; cases e
      exact line_tx hl, fun x k e => name_tx (h.m x k e).1⟩
theorem change_tx {c : Change} (h : ChOk c) : ChangeOk c := ⟨name_tx h.n, fun z hz => name_tx (h.ls z hz), Nat.le_trans h.ll (by decide), Nat.le_trans h.dl (by decide), fun d hd => deed_tx (h.ds d hd)⟩
end LW

set_option maxHeartbeats 4000000
/-! marks as data; what the plain model tells -/
namespace LW
open PySem L2 PD PyProof.Rows K4M LamK SrtO
variable [PD.TabC]
theorem mk_eqv (a b : Mark) : PyData.eqv (qMk a) (qMk b) = decide (a = b) := by
  show ((a.1 == b.1) && ((a.2 == b.2) && true)) = _
  rw [Bool.and_true]
  by_cases e : a = b
  · subst e; simp
  · rw [decide_eq_false e]
    rw [Bool.and_eq_false_iff]
    by_cases e1 : a.1 = b.1
    · exact .inr (beq_false_of_ne fun e2 => e (Prod.ext e1 e2))
    · exact .inl (beq_false_of_ne e1)
theorem lay_mk {m : Mark} (h : Tx0 m.1) : (qMk m).canLay0 = true ∧ (qMk m).depth ≤ 1 := lay_m (m := some m) fun x k e => by cases e; exact h
theorem shaped_mk {m : Mark} (h : Tx0 m.1) : SeqAt.shaped (qMk m) = true := by
  have := lay_mk h
  unfold SeqAt.shaped
  rw [this.1, decide_eq_true (by omega)]; rfl
theorem shaped_row {r : List Mark} (h : ∀ m ∈ r, Tx0 m.1) : SeqAt.shaped (.list (r.map qMk)) = true := by
  have e2 : PyData.canLayAll0 (r.map qMk) = true := lay_all fun x hx => (lay_mk (h x hx)).1
  have e4 : PyData.depthAll (r.map qMk) ≤ 1 := depth_all fun x hx => (lay_mk (h x hx)).2
  unfold SeqAt.shaped
  rw [show (PyData.list (r.map qMk)).canLay0 = true from e2, decide_eq_true (show (PyData.list (r.map qMk)).depth ≤ 64 by show PyData.depthAll (r.map qMk) + 1 ≤ 64; omega)]; rfl
def wordOf (s : MSt) (m : Mark) : Str := match getM s.words m with
  | some (.str y) => y
  | _ => ""
def toldOf (s : MSt) : List (Mark × Str) := (s.row.filter fun m => !hasM s.gone m).map fun m => (m, wordOf s m)
def qT (p : Mark × Str) : PyData := .tuple [qMk p.1, .str p.2]
def modelV (chs : List Change) : PyData := .tuple [.list ((mRun (mOrd chs)).row.map qMk), .list ((toldOf (mRun (mOrd chs))).map qT)]
theorem wordOf_at {s : MSt} {m : Mark} {y : Str} (h : getM s.words m = some (.str y)) : wordOf s m = y := by
  unfold wordOf; rw [h]
def keyN : PyData → PyData
  | .tuple (a :: _) => a
  | d => d
def keyH (ht : List (Str × Int)) : PyData → PyData
  | .tuple (.str n :: _) => .int ((hGet ht n).getD 0)
  | d => d
theorem sort1 (chs : List Change) : sortK ltKS keyN true (chs.map qC) = (byN Change.n chs).map qC := by
  unfold sortK byN
  rw [if_pos rfl, ← List.map_reverse, List.map_reverse (l := isort _ _)]
  congr 1
  exact (isort_map (lt := fun x y : Change => ltL x.n.cps.toList y.n.cps.toList) qC fun x _ y _ => rfl).symm
theorem sort2 (chs xs : List Change) : sortK ltKI (keyH (hts chs [])) false (xs.map qC) = (isort (fun x y => ltZ (hgtN chs x) (hgtN chs y)) xs).map qC := by
  unfold sortK
  rw [if_neg Bool.false_ne_true]
  exact (isort_map (lt := fun x y : Change => ltZ (hgtN chs x) (hgtN chs y)) qC fun x _ y _ => rfl).symm
theorem hts_in {chs : List Change} {c : Change} (h : c ∈ chs) : ∃ k, hGet (hts chs []) c.n = some k := hGet_has (by
  rw [hHas_iff, hts_names]
  exact List.mem_map_of_mem h)
end LW
namespace LamK
variable [PD.TabC]
open PySem PyProof.Rows L2 LamX SrtO Srt PD
theorem blankS_get {p : Str} {N : List Str} {ρ : List Sl} {j : Nat} {n : Str} {s : Sl} (h1 : N[j]? = some n) (h2 : ρ[j]? = some s) (h3 : n ≠ p) : (blankS p N ρ)[j]? = some s := by
  unfold blankS
  rw [List.getElem?_zipWith, h1, h2]
  show some (if n = p then Sl.un else s) = some s
  rw [if_neg h3]
end LamK

set_option maxHeartbeats 4000000
/-! x, y, z = [], {}, {}: a list, two dicts by marks. -/
namespace PD
open PySem PySem.Spec PyProof.Rows L2
variable [PD.TabC]
section
variable {X : Cx} {W : WX} {a b c : Expr} {ρ : List Sl} {ds : List PyData} {T : De} {i j l : Nat} {x y z : Str} {px py pz pt pos p4 p5 pt2 : Pos} {kt k2 : Nat}
theorem sd_new3 (hc : X.calm = true) (nd : X.N.Nodup) (hi : X.N[i]? = some x) (hj : X.N[j]? = some y) (hl : X.N[l]? = some z)
    (hx : Loc X.env.scope x) (hy : Loc X.env.scope y) (hz : Loc X.env.scope z) (fx : X.fn x = true ∨ X.env.scope.names.lookup x = some .local) (fy : X.fn y = true ∨ X.env.scope.names.lookup y = some .local) (fz : X.fn z = true ∨ X.env.scope.names.lookup z = some .local) (ha : EL X W (fun C => T.ex C ρ) a ρ ds) (q : ∀ r r2 r3, T.nx (((ρ.set i (.ow r ds)).set j (om X.K r2 [])).set l (om X.K r3 [])))
    (s1 : starEach [a, .Dict [] [] p4, .Dict [] [] p5] X.env = (false, eval a X.env) :: starEach [.Dict [] [] p4, .Dict [] [] p5] X.env := by rfl) (s2 : starEach [.Dict [] [] p4, .Dict [] [] p5] X.env = (false, eval (.Dict [] [] p4) X.env) :: starEach [.Dict [] [] p5] X.env := by rfl) (s3 : starEach [.Dict [] [] p5] X.env = [(false, eval (.Dict [] [] p5) X.env)] := by rfl)
    (g1 : (assignEach [.Name x px, .Name y py, .Name z pz] X.env).map (·.2) = assign (.Name x px) X.env :: (assignEach [.Name y py, .Name z pz] X.env).map (·.2) := by rfl) (g2 : (assignEach [.Name y py, .Name z pz] X.env).map (·.2) = assign (.Name y py) X.env :: (assignEach [.Name z pz] X.env).map (·.2) := by rfl) (g3 : (assignEach [.Name z pz] X.env).map (·.2) = assign (.Name z pz) X.env :: (assignEach [] X.env).map (·.2) := by rfl)
    (g4 : (assignEach [.Name x px, .Name y py, .Name z pz] X.env).length = 3 := by rfl) (g5 : (assignEach [.Name x px, .Name y py, .Name z pz] X.env).findIdx? (·.1) = none := by rfl)
    (h1 : swapsWithSole [.Tuple [.Name x px, .Name y py, .Name z pz] kt pt] (.Tuple [a, .Dict [] [] p4, .Dict [] [] p5] k2 pt2) pos.line X.env = pure false := by rfl) (h2 : swappedStores [.Tuple [.Name x px, .Name y py, .Name z pz] kt pt] (.Tuple [a, .Dict [] [] p4, .Dict [] [] p5] k2 pt2) X.env = pure none := by rfl)
    (h3 : (assignEach [.Tuple [.Name x px, .Name y py, .Name z pz] kt pt] X.env).map (·.2) = [assign (.Tuple [.Name x px, .Name y py, .Name z pz] kt pt) X.env] := by rfl) : SD X W (.Assign [.Tuple [.Name x px, .Name y py, .Name z pz] kt pt] (.Tuple [a, .Dict [] [] p4, .Dict [] [] p5] k2 pt2) pos) ρ T := fun F0 H0 F H σ D s lk =>
  w_s (ps_asg (pe_tup (pa_cons pe_w (pa_cons pe_dnewT (pa_cons pe_dnewT pa_nil s3) s2) s1)) (pg_tup hc (pgs_cons (pg_name nd hi hx fx) (pgs_cons (pg_name nd hj hy fy) (pgs_cons (pg_name nd hl hz fz) pgs_nil g3) g2) g1) g4 g5) h1 h2 h3) (ha H0 F H σ _ s.e (lk.xc s) fun p vs F1 H1 x1 h0 f0 h1 i1 => fun r2 h2 => fun r3 h3 => by
    have E1 := s.e.own (i := i) x1 h0 f0 h1 i1
    have x2 : Ext F1 H1 F1 (upd H1 r2 (.dT [])) := Ext.kept E1.i h2
    have E2 := (E1.ext x2).set_ (i := j) (o := some (.ref r2)) (om_ok (kvs := []) (E1.i.back h2) (E1.b.back h2) upd_same .nil) fun k t b ek hb ht => by
      obtain ⟨o, _, g⟩ := E1.s k _ ek
      rw [List.mem_singleton.mp hb] at ht
      exact absurd h2 (g.held ht).2.2.ne
    have x3 : Ext F1 (upd H1 r2 (.dT [])) F1 (upd (upd H1 r2 (.dT [])) r3 (.dT [])) := Ext.kept E2.i h3
    have E3 := (E2.ext x3).set_ (i := l) (o := some (.ref r3)) (om_ok (kvs := []) (E2.i.back h3) (E2.b.back h3) upd_same .nil) fun k t b ek hb ht => by
      obtain ⟨o, _, g⟩ := E2.s k _ ek
      rw [List.mem_singleton.mp hb] at ht
      exact absurd h3 (g.held ht).2.2.ne
    refine ⟨by show 3 ≤ sizeLine; decide, fun t ht => ?_⟩
    have x4 := Ext.made (o := .tup [V.ref p, V.ref r2, V.ref r3]) E3.i ht
    exact ⟨t, _, rfl, SqT.of upd_same, rfl, .ref p, _, rfl, .ref r2, _, rfl, .ref r3, _, rfl, rfl, lk.nx _ _ _ _ (q p r2 r3) ⟨(((s.x.trans x1).trans x2).trans x3).trans x4, E3.ext x4⟩⟩)
end
end PD

set_option maxHeartbeats 4000000
namespace N14
variable [PD.TabC]
open PySem L2 PD PyProof.Rows LW K4M LamK
def modelQ : Str := (("_law_model" : Str) ++ (".<locals>." : Str)) ++ "<lambda>"
theorem hu65_of {A : Around} {k : Nat} (hr : Room k A) : A.units + 65 < cLine := by have := hr.un; omega
def atOf (o : Option Mark) (r : List Mark) : Nat := match o with
  | none => 0
  | some m => LW.pos m r + 1
theorem insAt_cut {o : Option Mark} {x : Mark} {r : List Mark} (h : ∀ m, o = some m → m ∈ r) : insAt o x r = r.take (atOf o r) ++ [x] ++ r.drop (atOf o r) := by
  cases o with
  | none => rfl
  | some m => exact insAf_cut (h m rfl)
theorem atOf_le {o : Option Mark} {r : List Mark} (h : ∀ m, o = some m → m ∈ r) : atOf o r ≤ r.length := by
  cases o with
  | none => exact Nat.zero_le _
  | some m => exact pos_lt (h m rfl)
section
variable {P : Program} {w : World} {K : PySem.W.Frag} {mg : Str → Option Value} {base : Heap}
/-! ### _law_model -/
abbrev sModel : Stmt := topS 12
abbrev nModel : List Str := ["_law_changes_here", "_law_height", "_law_order", "_law_row", "_law_words", "_law_gone", "_law_change", "_law_own", "_law_deed", "_law_at", "_law_mark"]
theorem scModel : FnScope nModel ["_law_changes_here"] (defScope sModel) := ⟨rfl, rfl, rfl, by decide +kernel, rfl, by decide +kernel, by decide +kernel⟩
theorem ndModel : (nModel).Nodup := scModel.nd
theorem loModel : (["_law_changes_here", "_law_height", "_law_order", "_law_row", "_law_words", "_law_gone", "_law_change", "_law_own", "_law_deed", "_law_at"] : List Str).all (locB (defScope sModel)) = true := by decide +kernel
theorem glModel : (["_law_heights", "sorted"] : List Str).all (glB (defScope sModel)) = true := by decide +kernel
def rModel : List Sl → DOut → Prop := fun as o => ∃ chs : List LW.Change, as = [.bo (chs.map LW.qC)] ∧ chs.length ≤ 100 ∧ (∀ c ∈ chs, c.ls.length ≤ 100) ∧ Kp chs ∧ MFit (mOrd chs) ∧ (∀ c ∈ chs, Tx0 c.n) ∧ o = .val (modelV chs)
theorem okModel {f : Addr} {fd : FuncData} {c0 P0 : Addr} (F : Fun K "_law_model" "_law_model" sModel f fd) (T : Blt mg) (cHeights : Cal P w K mg base 1 "_law_heights" 1 (rHeights K)) (hcode : fd.code = .ref c0) (TB : LamX.TabB base mg c0 P0) (mem : (P0, modelQ) ∈ PD.TabC.T) (one : ∀ p ∈ PD.TabC.T, p.1 = P0 → p.2 = modelQ) :
    FnOk P w K mg base (L2N.CX P w) 4 f fd ["_law_changes_here"] (spD K 1 rModel) := by
  refine fnDc F scModel (by decide) fun cdv A outer s H E as o hcv hr hl hR => ?_
  obtain ⟨chs, rfl, tl, ll, kp, M, tx, rfl⟩ := hR
  have hc : (cxOf (L2N.CX P w) P w K mg base nModel "_law_model" (defScope sModel) f cdv A outer s H E).calm = true := rfl
  have tk : L2N.Takes (cxOf (L2N.CX P w) P w K mg base nModel "_law_model" (defScope sModel) f cdv A outer s H E) (fun c d _ H' => E c d H') := L2N.takes_of rfl rfl rfl rfl
  have mk : Mk (cxOf (L2N.CX P w) P w K mg base nModel "_law_model" (defScope sModel) f cdv A outer s H E) := ⟨c0, P0, TB, by rw [← hcode]; exact hcv.symm, mem, one⟩
  have pm := mOrd_perm chs
  have tlo : (mOrd chs).length = chs.length := pm.length_eq
  refine sds_cons (sd_setD (i := 1) (kvs := htD (hts chs [])) ndModel rfl (loc_of loModel 1) (.inl rfl) (eo_call cHeights (hr.mono (by decide)) (gl_of glModel 0) tk (ea_b (EP'.rd (ep_v loModel 0)) ea_nil) rfl ⟨chs, rfl, by omega, fun c h => by have := ll c h; omega, kp, rfl⟩) (fun r1 => ?_))
  refine sds_cons (sd_setL (i := 2) ndModel rfl (loc_of loModel 2) (.inl rfl) (el_sortKeyR (k := 0) (p := "_law_change") (key := keyN) (xs := chs.map LW.qC) ?_ KeyK.str ?_ (EP'.rd (ep_v loModel 0)) (gl_of glModel 1) T.sorted) (fun r2 => ?_))
  · refine ⟨mk, lamS1_by (show lamS1B (defScope sModel) _ _ = true by decide +kernel), rfl, fun cl pm c' ctv u => by first | rfl | kernel_rfl, hr, fun x hx A s H f c' hA => ?_⟩
    obtain ⟨c, _, rfl⟩ := List.mem_map.mp hx
    exact ed_ixT (ds := [.str c.n, _, _]) (ed_at (i := 0) rfl (.inl rfl) rfl) ed_int (atI_nat (j := 0) rfl)
  · intro x hx
    obtain ⟨c, _, rfl⟩ := List.mem_map.mp hx
    exact ⟨c.n, rfl⟩
  rw [LW.sort1]
  refine sds_cons (sd_new3 (i := 3) (j := 4) (l := 5) (ds := []) hc ndModel rfl rfl rfl (loc_of loModel 3) (loc_of loModel 4) (loc_of loModel 5) (.inl rfl) (.inl rfl) (.inl rfl) (el_lst (ds := []) ea_nil le_b) (fun r3 r4 r5 => ?_))
  refine sds_cons (sd_for (ds := (mOrd chs).map LW.qC) (fun i ρ => ∃ s6 s7 s8 s9, ρ = [.bo (chs.map LW.qC), od K r1 (htD (hts chs [])), .ow r2 ((byN LW.Change.n chs).map LW.qC), .ow r3 ((mAt (mOrd chs) i).row.map LW.qMk), om K r4 (mAt (mOrd chs) i).words, om K r5 (mAt (mOrd chs) i).gone, s6, s7, s8, s9, .un]) (L2.passes_of rfl) hc (j := 6) ndModel rfl (loc_of loModel 6) (.inl rfl) (ED.pst (EL.dat (EL.to (el_sortKey (k := 0) (p := "_law_one") (key := LW.keyH (hts chs [])) (xs := (byN LW.Change.n chs).map LW.qC) ?_ KeyK.int ?_ (eb_v loModel 2) (gl_of glModel 1) T.sorted) ?_))) ⟨_, _, _, _, rfl⟩ (fun i d ρ1 hi hI => ?_) (fun ρ1 hI => ?_))
  · refine ⟨mk, lamS1_by (show lamS1B (defScope sModel) _ _ = true by decide +kernel), rfl, fun cl pm c' ctv u => by first | rfl | kernel_rfl, hr, fun x hx A s H f c' hA => ?_⟩
    obtain ⟨c, hc', rfl⟩ := List.mem_map.mp hx
    obtain ⟨q, hq⟩ := hts_in (byN_perm.mem_iff.mp hc')
    have e2 : LW.keyH (hts chs []) (LW.qC c) = .int q := by
      show PyData.int ((hGet (hts chs []) c.n).getD 0) = _
      rw [hq]; rfl
    rw [e2]
    exact ed_dget (k := c.n) (d := .int q) (hu_of (hA.deeper _)) (edr_o (i := 2) rfl (.inr (.inr rfl)) (blankS_get (j := 1) rfl rfl (by decide))) (ed_ixT (ds := [.str c.n, _, _]) (ed_at (i := 0) rfl (.inl rfl) rfl) ed_int (atI_nat (j := 0) rfl)) (getD_ht hq)
  · intro x hx
    obtain ⟨c, _, rfl⟩ := List.mem_map.mp hx
    exact ⟨_, rfl⟩
  · rw [LW.sort2]; rfl
  · obtain ⟨s6, s7, s8, s9, rfl⟩ := hI
    rw [List.getElem?_map] at hi
    cases hx : (mOrd chs)[i]? with
    | none => rw [hx] at hi; cases hi
    | some x =>
    rw [hx] at hi
    cases hi
    have hil : i < (mOrd chs).length := (List.getElem?_eq_some_iff.mp hx).1
    have hxm : x ∈ chs := pm.mem_iff.mp (List.mem_of_getElem? hx)
    have hdl := M.dl x (List.mem_of_getElem? hx)
    refine sds_cons (sd_set (i := 7) (d := .int ((0 : Nat) : Int)) ndModel rfl (loc_of loModel 7) (.inl rfl) ed_int ?_)
    refine sds_one (sd_for (ds := x.ds.map LW.qD) (fun k ρ => ∃ s8 s9, ρ = [.bo (chs.map LW.qC), od K r1 (htD (hts chs [])), .ow r2 ((byN LW.Change.n chs).map LW.qC), .ow r3 ((mIn (mOrd chs) i x k).row.map LW.qMk), om K r4 (mIn (mOrd chs) i x k).words, om K r5 (mIn (mOrd chs) i x k).gone, .sh (LW.qC x), .sh (.int ((mIn (mOrd chs) i x k).own : Nat)), s8, s9, .un]) (L2.passes_of rfl) hc (j := 8) ndModel rfl (loc_of loModel 8) (.inl rfl) (ED.pst (ed_ixT (ds := [_, _, .list (x.ds.map LW.qD)]) (ed_v loModel 6) ed_int (atI_nat (j := 2) rfl))) ⟨_, _, rfl⟩ (fun k d ρ1 hi hI => ?_) (fun ρ1 hI => ?_))
    · obtain ⟨s8, s9, rfl⟩ := hI
      rw [List.getElem?_map] at hi
      cases hd : x.ds[k]? with
      | none => rw [hd] at hi; cases hi
      | some d =>
      rw [hd] at hi
      cases hi
      have hkl : k < x.ds.length := (List.getElem?_eq_some_iff.mp hd).1
      have fit := M.fit i x hx k d hd
      have run := run_in M hx (run_all M i (by omega)) k (by omega)
      have e1 := mIn_succ (cs := mOrd chs) (i := i) hd
      rw [e1]
      generalize mIn (mOrd chs) i x k = st at run ⊢
      have hrl := run.rl
      have hwl := run.wl
      have hgl := run.gl
      obtain ⟨dw, dm, dl⟩ := d
      have htx : ∀ m ∈ st.row, Tx0 m.1 := fun m hm => by
        rcases (run.row m).mp hm with ⟨b, hb, h⟩ | ⟨j, _, h⟩
        · obtain ⟨j, _, e⟩ := marksOf_mem.mp h
          rw [e]
          exact tx b (pm.mem_iff.mp (List.mem_of_mem_take hb))
        · rw [h]; exact tx x hxm
      have inr : ∀ m, dm = some m → m ∈ st.row := fun m e => (run.row m).mpr (fit.a m e)
      rcases fit.w with e | e | e
      · have e : dw = "add" := e
        subst e
        have hl := fit.l (by show ("add" : Str) ≠ "cut"; decide +kernel)
        cases dl with
        | none => cases hl
        | some y =>
        have e2 : mDeed x.n st ⟨"add", dm, some y⟩ = ⟨insAt dm (x.n, (st.own : Int)) st.row, putM st.words (x.n, (st.own : Int)) (.str y), st.gone, st.own + 1⟩ := by
          unfold mDeed
          rw [if_pos (decide_eq_true rfl)]; rfl
        rw [e2]
        have eIns : (st.row.map LW.qMk).take (atOf dm st.row) ++ [PyData.tuple [.str x.n, .int (st.own : Nat)]] ++ (st.row.map LW.qMk).drop (atOf dm st.row) = (insAt dm (x.n, (st.own : Int)) st.row).map LW.qMk := by
          rw [insAt_cut inr, List.map_append, List.map_append, List.map_take, List.map_drop]; rfl
        have hat := atOf_le inr
        have hqd : LW.qD ⟨"add", dm, some y⟩ = .tuple [.str "add", LW.qM dm, .str y] := rfl
        rw [hqd]
        refine sds_one (sd_if (et_c cd_eqS (ed_ixT (ds := [.str "add", LW.qM dm, .str y]) (ed_v loModel 8) ed_int (atI_nat (j := 0) rfl)) ed_str) (fun hb => ?_) (fun hb => absurd hb (by decide +kernel)))
        refine sds_cons (sd_set (i := 9) (d := .int ((0 : Nat) : Int)) ndModel rfl (loc_of loModel 9) (.inl rfl) ed_int ?_)
        refine sds_cut [.bo (chs.map LW.qC), od K r1 (htD (hts chs [])), .ow r2 ((byN LW.Change.n chs).map LW.qC), .ow r3 (st.row.map LW.qMk), om K r4 st.words, om K r5 st.gone, .sh (LW.qC x), .sh (.int (st.own : Nat)), .sh (.tuple [.str "add", LW.qM dm, .str y]), .sh (.int (atOf dm st.row : Nat)), .un] ?_ ?_
        · have le : ∀ {s0 s1 s2 s3 s4 s5 s6 s7 s8 s9 s10 : Sl}, SlLe [s0, s1, s2, s3, s4, s5, s6, s7, s8, s9, s10] [s0, s1, s2, s3, s4, s5, s6, s7, s8, s9, s10] := .cons (.cons (.cons (.cons (.cons (.cons (.cons (.cons (.cons (.cons (.cons .nil))))))))))
          cases dm with
          | none => exact sd_if (k := false) (ET.to (et_c cd_notN (ed_ixT (ds := [.str "add", .none, .str y]) (ed_v loModel 8) ed_int (atI_nat (j := 1) rfl)) ed_non) rfl) (fun h => nomatch h) (fun _ => sds_nil le)
          | some m =>
            have hm := inr m rfl
            refine sd_if (k := true) (ET.to (et_c cd_notN (ed_ixT (ds := [.str "add", LW.qMk m, .str y]) (ed_v loModel 8) ed_int (atI_nat (j := 1) rfl)) ed_non) rfl) (fun _ => ?_) (fun h => nomatch h)
            exact sds_one (sd_set (i := 9) (d := .int ((LW.pos m st.row + 1 : Nat) : Int)) ndModel rfl (loc_of loModel 9) (.inl rfl) (ED.to (ed_add (ed_index (j := LW.pos m st.row) (d := LW.qMk m) (z := LW.qMk m) (hu65_of hr) (eb_v loModel 3) (ed_ixT (ds := [.str "add", LW.qMk m, .str y]) (ed_v loModel 8) ed_int (atI_nat (j := 1) rfl)) (shaped_row htx) (shaped_mk (htx m hm)) (by rw [List.getElem?_map, pos_at hm]; rfl) (by rw [mk_eqv]; exact decide_eq_true rfl) (fun k' z' hk hz => by
              rw [List.getElem?_map] at hz
              cases q : st.row[k']? with
              | none => rw [q] at hz; cases hz
              | some m' =>
              rw [q] at hz
              cases hz
              rw [mk_eqv]
              exact decide_eq_false (pos_no hk q))) ed_int) (by rw [Int.natCast_succ])) le)
        refine sds_cons (sd_insert (i := 3) (k := atOf dm st.row) (d := .tuple [.str x.n, .int (st.own : Nat)]) rfl (vis_of (loc_of loModel 3)) rfl (ed_v loModel 9) (ed_tup (ds := [_, _]) (ea_d (ed_ixT (ds := [.str x.n, _, _]) (ed_v loModel 6) ed_int (atI_nat (j := 0) rfl)) (ea_d (ed_v loModel 7) ea_nil)) le_b) (by omega) (by rw [List.length_map]; omega) ?_)
        rw [eIns]
        refine sds_cons (sd_mput (i := 4) (k := (x.n, (st.own : Int))) (d := .str y) (hu_of hr) rfl (vis_of (loc_of loModel 4)) rfl (ed_ixT (ds := [_, _, .str y]) (ed_v loModel 8) ed_int (atI_nat (j := 2) rfl)) (ed_tup (ds := [_, _]) (ea_d (ed_ixT (ds := [.str x.n, _, _]) (ed_v loModel 6) ed_int (atI_nat (j := 0) rfl)) (ea_d (ed_v loModel 7) ea_nil)) le_b) (by omega) ?_)
        exact sds_one (sd_set (i := 7) (d := .int ((st.own + 1 : Nat) : Int)) ndModel rfl (loc_of loModel 7) (.inl rfl) (ED.to (ed_add (ed_v loModel 7) ed_int) (by rw [Int.natCast_succ])) ⟨_, _, rfl⟩)
      · have e : dw = "set" := e
        subst e
        have hl := fit.l (by show ("set" : Str) ≠ "cut"; decide +kernel)
        have hs := fit.s (by show ("set" : Str) ≠ "add"; decide +kernel)
        cases dl with
        | none => cases hl
        | some y =>
        cases dm with
        | none => cases hs
        | some m =>
        have e2 : mDeed x.n st ⟨"set", some m, some y⟩ = ⟨st.row, putM st.words m (.str y), st.gone, st.own⟩ := by
          unfold mDeed
          rw [if_neg (show ¬ decide (("set" : Str) = ("add" : Str)) = true by decide +kernel), if_pos (decide_eq_true rfl)]; rfl
        rw [e2]
        have hqd : LW.qD ⟨"set", some m, some y⟩ = .tuple [.str "set", LW.qMk m, .str y] := rfl
        rw [hqd]
        refine sds_one (sd_if (et_c cd_eqS (ed_ixT (ds := [.str "set", LW.qMk m, .str y]) (ed_v loModel 8) ed_int (atI_nat (j := 0) rfl)) ed_str) (fun hb => absurd hb (by decide +kernel)) (fun hb => ?_))
        refine sds_one (sd_if (et_c cd_eqS (ed_ixT (ds := [.str "set", LW.qMk m, .str y]) (ed_v loModel 8) ed_int (atI_nat (j := 0) rfl)) ed_str) (fun hb => ?_) (fun hb => absurd hb (by decide +kernel)))
        exact sds_one (sd_mput (i := 4) (k := m) (d := .str y) (hu_of hr) rfl (vis_of (loc_of loModel 4)) rfl (ed_ixT (ds := [_, _, .str y]) (ed_v loModel 8) ed_int (atI_nat (j := 2) rfl)) (ed_ixT (ds := [.str "set", LW.qMk m, .str y]) (ed_v loModel 8) ed_int (atI_nat (j := 1) rfl)) (by omega) ⟨_, _, rfl⟩)
      · have e : dw = "cut" := e
        subst e
        have hl := fit.c rfl
        have hs := fit.s (by show ("cut" : Str) ≠ "add"; decide +kernel)
        have hl : dl = none := hl
        subst hl
        cases dm with
        | none => cases hs
        | some m =>
        have e2 : mDeed x.n st ⟨"cut", some m, none⟩ = ⟨st.row, st.words, putM st.gone m (.bool true), st.own⟩ := by
          unfold mDeed
          rw [if_neg (show ¬ decide (("cut" : Str) = ("add" : Str)) = true by decide +kernel), if_neg (show ¬ decide (("cut" : Str) = ("set" : Str)) = true by decide +kernel)]; rfl
        rw [e2]
        have hqd : LW.qD ⟨"cut", some m, none⟩ = .tuple [.str "cut", LW.qMk m] := rfl
        rw [hqd]
        refine sds_one (sd_if (et_c cd_eqS (ed_ixT (ds := [.str "cut", LW.qMk m]) (ed_v loModel 8) ed_int (atI_nat (j := 0) rfl)) ed_str) (fun hb => absurd hb (by decide +kernel)) (fun hb => ?_))
        refine sds_one (sd_if (et_c cd_eqS (ed_ixT (ds := [.str "cut", LW.qMk m]) (ed_v loModel 8) ed_int (atI_nat (j := 0) rfl)) ed_str) (fun hb => absurd hb (by decide +kernel)) (fun hb => ?_))
        exact sds_one (sd_mput (i := 5) (k := m) (d := .bool true) (hu_of hr) rfl (vis_of (loc_of loModel 5)) rfl ed_bl (ed_ixT (ds := [.str "cut", LW.qMk m]) (ed_v loModel 8) ed_int (atI_nat (j := 1) rfl)) (by omega) ⟨_, _, rfl⟩)
    · obtain ⟨s8, s9, rfl⟩ := hI
      rw [List.length_map, mIn_len hx]
      exact ⟨_, _, _, _, rfl⟩
  · obtain ⟨s6, s7, s8, s9, rfl⟩ := hI
    rw [List.length_map, mAt_len]
    have run := run_all M (mOrd chs).length (Nat.le_refl _)
    rw [mAt_len] at run
    show SDs _ _ _ [_, _, _, .ow r3 ((mRun (mOrd chs)).row.map LW.qMk), om K r4 (mRun (mOrd chs)).words, om K r5 (mRun (mOrd chs)).gone, _, _, _, _, _] (deOf (.val (.tuple [.list ((mRun (mOrd chs)).row.map LW.qMk), .list ((toldOf (mRun (mOrd chs))).map qT)])))
    generalize mRun (mOrd chs) = st at run ⊢
    have hrl := run.rl
    refine sds_frz (i := 3) rfl ?_
    refine sds_one (sd_ret (ed_tup (ds := [_, _]) (ea_d (ed_v loModel 3) (ea_d (EL.dat (EL.to (el_lc (j := 10) ⟨hc, ndModel, blkOk_by (N := nModel) (sc := defScope sModel) (by decide +kernel), by decide, rfl, rfl, by intro _; rfl⟩ st.row LW.qMk (fun m => !hasM st.gone m) (fun m => qT (m, wordOf st m)) (ED.pst (ed_v loModel 3)) (by omega) (fun m hm s H C cl fp => et_mknin (k := m) (hu_of hr) (ed_b 10) (emo_b 5)) (fun m hm _ s H C cl fp => ?_)) (xs := (toldOf st).map qT) (by unfold toldOf; rw [List.map_map]; rfl))) ea_nil)) le_b) rfl)
    obtain ⟨y, hy⟩ := run.wd m hm
    rw [wordOf_at hy]
    exact ed_tup (ds := [_, _]) (ea_d (ed_b 10) (ea_d (ed_mget (k := m) (d := .str y) (hu_of hr) (emo_b 4) (ed_b 10) hy) ea_nil)) le_b
end
end N14

set_option maxHeartbeats 4000000
/-! steps between told lines -/
namespace LW
open PySem L2 PD PyProof.Rows K4M LamK SrtO
variable [PD.TabC]
structure Step where
  w : Str
  k : Nat
  l : Option Str
def qS (s : Step) : PyData := match s.l with
  | none => .tuple [.str s.w, .int (s.k : Nat)]
  | some l => .tuple [.str s.w, .int (s.k : Nat), .str l]
abbrev Told := List (Mark × Str)
def mks (a : Told) : List Mark := a.map (·.1)
/-- is the line at k out -/
def goes (a b : Told) (k : Nat) : Bool := match (mks a)[k]? with
  | some m => !decide (m ∈ mks b)
  | none => false
def outsG (a b : Told) : Nat → List Step
  | 0 => []
  | i + 1 => outsG a b i ++ if goes a b (a.length - 1 - i) = true then [⟨"out", a.length - 1 - i, none⟩] else []
def outsOf (a b : Told) : List Step := (((List.range a.length).filter (goes a b)).map fun k => ⟨"out", k, none⟩).reverse
theorem outsG_len (a b : Told) : ∀ i, (outsG a b i).length ≤ i
  | 0 => Nat.le_refl _
  | i + 1 => by
    have := outsG_len a b i
    rw [outsG, List.length_append]
    split
    · rw [List.length_singleton]; omega
    · rw [List.length_nil]; omega
theorem outsG_eq (a b : Told) : ∀ i, i ≤ a.length → outsG a b i = (((List.range' (a.length - i) i).filter (goes a b)).map fun k => (⟨"out", k, none⟩ : Step)).reverse
  | 0, _ => rfl
  | i + 1, hi => by
    have e : List.range' (a.length - (i + 1)) (i + 1) = (a.length - 1 - i) :: List.range' (a.length - i) i := by
      rw [List.range'_succ, show a.length - (i + 1) + 1 = a.length - i from by omega, show a.length - (i + 1) = a.length - 1 - i from by omega]
    rw [outsG, outsG_eq a b i (by omega), e, List.filter_cons]
    split
    · rw [List.map_cons, List.reverse_cons]
    · rw [List.append_nil]
theorem outsG_all (a b : Told) : outsG a b a.length = outsOf a b := by
  rw [outsG_eq a b _ (Nat.le_refl _), Nat.sub_self, ← List.range_eq_range']; rfl
/-- the word that stands at a mark -/
def wordIn (a : Told) (m : Mark) : Str := ((a[pos m (mks a)]?).map (·.2)).getD ""
def stepAt (a : Told) (k : Nat) (p : Mark × Str) : List Step :=
  if (!decide (p.1 ∈ mks a)) = true then [⟨"put", k, some p.2⟩] else if (!decide (wordIn a p.1 = p.2)) = true then [⟨"say", k, some p.2⟩] else []
def restG (a b : Told) : Nat → List Step
  | 0 => []
  | k + 1 => restG a b k ++ match b[k]? with
    | some p => stepAt a k p
    | none => []
def dueOf (a b : Told) : List Step := outsOf a b ++ restG a b b.length
theorem stepAt_len (a : Told) (k : Nat) (p : Mark × Str) : (stepAt a k p).length ≤ 1 := by
  unfold stepAt
  split
  · exact Nat.le_refl _
  · split
    · exact Nat.le_refl _
    · exact Nat.zero_le _
theorem restG_len (a b : Told) : ∀ k, (restG a b k).length ≤ k
  | 0 => Nat.le_refl _
  | k + 1 => by
    have := restG_len a b k
    rw [restG, List.length_append]
    split
    · rename_i p _
      have := stepAt_len a k p; omega
    · rw [List.length_nil]; omega
theorem restG_succ {a b : Told} {k : Nat} {p : Mark × Str} (h : b[k]? = some p) : restG a b (k + 1) = restG a b k ++ stepAt a k p := by rw [restG, h]
theorem outsOf_len (a b : Told) : (outsOf a b).length ≤ a.length := by rw [← outsG_all]; exact outsG_len a b _
theorem mem_eqv {ms : List Mark} {m : Mark} : ((ms.map qMk).any fun z => PyData.eqv z (qMk m)) = decide (m ∈ ms) := by
  rw [List.any_map]
  by_cases h : m ∈ ms
  · rw [decide_eq_true h]
    exact List.any_eq_true.mpr ⟨m, h, by show PyData.eqv (qMk m) (qMk m) = true; rw [mk_eqv]; exact decide_eq_true rfl⟩
  · rw [decide_eq_false h]
    refine Bool.eq_false_iff.mpr fun z => ?_
    obtain ⟨x, hx, e⟩ := List.any_eq_true.mp z
    have e : PyData.eqv (qMk x) (qMk m) = true := e
    rw [mk_eqv] at e
    exact h (of_decide_eq_true e ▸ hx)
theorem word_at {a : Told} {m : Mark} (h : m ∈ mks a) : a[pos m (mks a)]? = some (m, wordIn a m) := by
  have h1 := pos_at h
  unfold mks at h1
  rw [List.getElem?_map] at h1
  unfold wordIn
  unfold mks
  cases q : a[pos m (a.map (·.1))]? with
  | none => rw [q] at h1; cases h1
  | some p =>
    rw [q] at h1
    have : p.1 = m := Option.some.inj h1
    rw [← this]; rfl
/-! steps done -/
def doneStep (ls : List Str) (s : Step) : List Str :=
  if decide (s.w = ("out" : Str)) = true then ls.eraseIdx s.k else if decide (s.w = ("put" : Str)) = true then ls.take s.k ++ [s.l.getD ""] ++ ls.drop s.k else ls.set s.k (s.l.getD "")
def doneOf (ls : List Str) (st : List Step) : List Str := st.foldl doneStep ls
structure StepFit (ls : List Str) (s : Step) : Prop where
  w : (s.w = "out" ∧ s.k < ls.length ∧ s.l = none) ∨ (s.w = "put" ∧ s.k ≤ ls.length ∧ s.l.isSome = true) ∨ (s.w = "say" ∧ s.k < ls.length ∧ s.l.isSome = true)
def Fits : List Str → List Step → Prop
  | _, [] => True
  | ls, s :: r => StepFit ls s ∧ Fits (doneStep ls s) r
theorem Fits.at : ∀ {st : List Step} {ls : List Str} {i : Nat} {s : Step}, Fits ls st → st[i]? = some s → StepFit (doneOf ls (st.take i)) s
  | _ :: _, _, 0, _, h, e => by cases e; exact h.1
  | _ :: r, _, i + 1, _, h, e => Fits.at (st := r) (i := i) h.2 e
theorem doneStep_len {ls : List Str} {s : Step} (h : StepFit ls s) : (doneStep ls s).length ≤ ls.length + 1 := by
  unfold doneStep
  split
  · rw [List.length_eraseIdx]; split <;> omega
  · split
    · rw [List.length_append, List.length_append, List.length_take, List.length_drop, List.length_singleton]; omega
    · rw [List.length_set]; omega
theorem done_len : ∀ {st : List Step} {ls : List Str}, Fits ls st → ∀ i, (doneOf ls (st.take i)).length ≤ ls.length + i
  | _, _, _, 0 => Nat.le_refl _
  | [], _, _, i + 1 => Nat.le_add_right _ _
  | s :: r, ls, h, i + 1 => by
    have h1 := done_len (st := r) h.2 i
    have h2 := doneStep_len h.1
    show (doneOf (doneStep ls s) (r.take i)).length ≤ _
    omega
theorem done_succ {st : List Step} {ls : List Str} {i : Nat} {s : Step} (h : st[i]? = some s) : doneOf ls (st.take (i + 1)) = doneStep (doneOf ls (st.take i)) s := by
  unfold doneOf
  rw [List.take_add_one, h, List.foldl_append]; rfl
end LW

set_option maxHeartbeats 4000000
/-! for j in range(a, -1, -1); x in, not in a list of any data. -/
namespace PD
open PySem PySem.Spec PyProof.Rows L2
variable [PD.TabC]
section
variable {X : Cx} {W : WX} {ex : Addr → Prop} {a b e c : Expr} {ρ : List Sl} {d : PyData} {ds : List PyData} {body : List Stmt} {pos p p2 tpos : Pos} {T : De}
/-- for j in range(a, b, -1) -/
theorem sd_rngD {j : Nat} {n : Str} {hi lo : Int} (I : Nat → List Sl → Prop) (hp : PassesOwn (model X.prog X.w) X.A X.env X.xe) (hc : X.calm = true) (nd : X.N.Nodup) (hN : X.N[j]? = some n) (hl : Loc X.env.scope n) (hfn : X.fn n = true ∨ X.env.scope.names.lookup n = some .local)
    (hg : Gl X ("range" : Str)) (hm : X.mg ("range" : Str) = none) (ha : ED X W (fun C => T.ex C ρ) a ρ (.int hi)) (hb : ED X W (fun C => T.ex C ρ) b ρ (.int lo)) (hcc : ED X W (fun C => T.ex C ρ) c ρ (.int (-1))) (h1 : -(2 ^ 62) ≤ hi ∧ hi < 2 ^ 62) (h2 : -(2 ^ 62) ≤ lo ∧ lo < 2 ^ 62) (h0 : I 0 ρ)
    (hs : ∀ (i : Nat) ρ', i < (hi - lo).toNat → I i ρ' → SDs X W body (ρ'.set j (.sh (.int (hi - i)))) { T with nx := I (i + 1), ct := I (i + 1), bk := T.nx }) (hd : ∀ ρ', I (hi - lo).toNat ρ' → T.nx ρ')
    (s1 : starEach [a, b, c] X.env = (false, eval a X.env) :: starEach [b, c] X.env := by rfl) (s2 : starEach [b, c] X.env = (false, eval b X.env) :: starEach [c] X.env := by rfl) (s3 : starEach [c] X.env = [(false, eval c X.env)] := by rfl) (hpl : (backTo p2 (starEach [b, c] X.env)).any (·.1) = false := by rfl)
    (hf : ∀ x, foldedSetIterable (.Call (.Name "range" p) [a, b, c] [] p2) X.env x = pure x := by intro _; rfl) : SD X W (.For (.Name n tpos) (.Call (.Name "range" p) [a, b, c] [] p2) body [] pos) ρ T := fun F0 H0 F H σ D s l =>
  w_s (ps_for hp hc (pi_range3 hg hm (pa_cons pe_w (pa_cons pe_w (pa_cons pe_w pa_nil s3) s2) s1) s1 hpl) (pg_name nd hN hl hfn) pss_w hf) (ha H0 F H σ _ s.e (l.xc s) fun v F1 H1 x1 i1 => hb H0 F1 H1 σ _ (s.e.ext x1) ((l.xc s).ext x1) fun v2 F2 H2 x2 i2 => hcc H0 F2 H2 σ _ ((s.e.ext x1).ext x2) (((l.xc s).ext x1).ext x2) fun v3 F3 H3 x3 i3 => by
    have s1 := s.go ((x1.trans x2).trans x3)
    refine ⟨hi, lo, -1, (hi - lo).toNat, by rw [i1.int_eq, i2.int_eq, i3.int_eq], RgC.neg h1.1 h1.2 h2.1 h2.2, for_rangeC (fun i σ' H' => ∃ F' ρ', I i ρ' ∧ S2 X.K F0 H0 F' H' σ' ρ') ⟨F3, ρ, h0, s1⟩ ?_ ?_⟩
    · rintro i σ' H' hi' ⟨F', ρ', hI, s'⟩
      have e0 : hi + (i : Int) * (-1) = hi - (i : Int) := by omega
      rw [e0]
      refine hs i ρ' hi' hI F' H0 F' H' (σ'.set j (some (.int (hi - i)))) _ ⟨s'.x.at, s'.e.set (s := .sh (.int (hi - i))) (.int _) rfl⟩ ?_
      have l' := l.re s'.x
      have nx : ∀ ρ2 σ2 F2 H2, I (i + 1) ρ2 → S2 X.K F' H0 F2 H2 σ2 ρ2 → ∃ F3 ρ3, I (i + 1) ρ3 ∧ S2 X.K F0 H0 F3 H2 σ2 ρ3 := fun ρ2 σ2 F2 H2 q s2 => ⟨F2, ρ2, q, s2.on s'.x⟩
      exact ⟨nx, l'.rt, l'.rl, l'.nx, nx, l'.ex, l'.ro⟩
    · rintro σ' H' ⟨F', ρ', hI, s'⟩
      exact l.nx ρ' σ' F' H' (hd ρ' hI) s')
/-- e not in a list of any data -/
theorem et_niD (hu : X.A.units + 65 < cLine) (ha : ED X W ex a ρ d) (hb : EB X W ex b ρ ds) (sd : SeqAt.shaped d = true) (sl : SeqAt.shaped (.list ds) = true) (hm : behindInMarks .NotIn b = false := by rfl) : ET X W ex (.Compare a [.NotIn] [b] pos) ρ (!ds.any fun z => PyData.eqv z d) := fun B F H σ Q E c q =>
  w_t (pt_cmpR (op_notInD hu) pe_w pe_w hm) (ha B F H σ _ E c fun v F1 H1 x1 i1 => hb B F1 H1 σ _ (E.ext x1) (c.ext x1) fun p vs F2 H2 x2 hs i2 =>
    ⟨d, ds, ((i1.mono x2.f).mono x2.i).dp, .lst hs (i2.mono x2.i).dp, sd, sl, _, rfl, q F2 H2 (x1.trans x2)⟩)
theorem et_inD (hu : X.A.units + 65 < cLine) (ha : ED X W ex a ρ d) (hb : EB X W ex b ρ ds) (sd : SeqAt.shaped d = true) (sl : SeqAt.shaped (.list ds) = true) (hm : behindInMarks .In b = false := by rfl) : ET X W ex (.Compare a [.In] [b] pos) ρ (ds.any fun z => PyData.eqv z d) := fun B F H σ Q E c q =>
  w_t (pt_cmpR (op_inD hu) pe_w pe_w hm) (ha B F H σ _ E c fun v F1 H1 x1 i1 => hb B F1 H1 σ _ (E.ext x1) (c.ext x1) fun p vs F2 H2 x2 hs i2 =>
    ⟨d, ds, ((i1.mono x2.f).mono x2.i).dp, .lst hs (i2.mono x2.i).dp, sd, sl, _, rfl, q F2 H2 (x1.trans x2)⟩)
end
end PD

set_option maxHeartbeats 4000000
namespace N14
variable [PD.TabC]
open PySem L2 PD PyProof.Rows LW K4M LamK
section
variable {P : Program} {w : World} {K : PySem.W.Frag} {mg : Str → Option Value} {base : Heap}
/-! ### _law_due -/
abbrev sDue : Stmt := topS 16
abbrev nDue : List Str := ["_law_one", "_law_other", "_law_before", "_law_after", "_law_found", "_law_at", "_law_pair"]
theorem scDue : FnScope nDue ["_law_one", "_law_other"] (defScope sDue) := ⟨rfl, rfl, rfl, by decide +kernel, rfl, by decide +kernel, by decide +kernel⟩
theorem ndDue : (nDue).Nodup := scDue.nd
theorem loDue : (["_law_one", "_law_other", "_law_before", "_law_after", "_law_found", "_law_at", "_law_pair"] : List Str).all (locB (defScope sDue)) = true := by decide +kernel
theorem glDue : (["range", "len", "enumerate"] : List Str).all (glB (defScope sDue)) = true := by decide +kernel
def rDue : List Sl → DOut → Prop := fun as o => ∃ a b : Told, as = [.bo (a.map qT), .bo (b.map qT)] ∧ a.length ≤ 2000 ∧ b.length ≤ 2000 ∧ (∀ p ∈ a, Tx0 p.1.1) ∧ (∀ p ∈ b, Tx0 p.1.1) ∧ o = .new ((dueOf a b).map qS)
theorem okDue {f : Addr} {fd : FuncData} (F : Fun K "_law_due" "_law_due" sDue f fd) (T : Blt mg) : FnOk P w K mg base (L2N.CX P w) 1 f fd ["_law_one", "_law_other"] (spD K 2 rDue) := by
  refine fnD F scDue (by decide) fun cdv A outer s H E as o hr hl hR => ?_
  obtain ⟨a, b, rfl, al, bl, at1, bt1, rfl⟩ := hR
  have hc : (cxOf (L2N.CX P w) P w K mg base nDue "_law_due" (defScope sDue) f cdv A outer s H E).calm = true := rfl
  have tka : ∀ m ∈ mks a, Tx0 m.1 := fun m hm => by
    obtain ⟨p, hp, e⟩ := List.mem_map.mp hm
    exact e ▸ at1 p hp
  have tkb : ∀ m ∈ mks b, Tx0 m.1 := fun m hm => by
    obtain ⟨p, hp, e⟩ := List.mem_map.mp hm
    exact e ▸ bt1 p hp
  have lma : (mks a).length = a.length := List.length_map _
  have hml : (a.map qT).length = a.length := List.length_map _
  have hmb : (b.map qT).length = b.length := List.length_map _
  refine sds_cons (sd_lc (i := 2) (j := 6) ⟨hc, ndDue, blkOk_by (N := nDue) (sc := defScope sDue) (by decide +kernel), by decide, rfl, rfl, by intro _; rfl⟩ rfl rfl a qT (fun _ => true) (fun p => LW.qMk p.1) (ep_v loDue 0) (by omega) (fun x hx s H C cl fp => rfl) (fun x hx _ s H C cl fp => ed_ixT (ds := [LW.qMk x.1, .str x.2]) (ed_b 6) ed_int (atI_nat (j := 0) rfl)) rfl (fun r2 => ?_))
  rw [show ((a.filter fun _ => true).map fun p => LW.qMk p.1) = (mks a).map LW.qMk from by rw [lc_all]; unfold mks; rw [List.map_map]; rfl]
  refine sds_cons (sd_lc (i := 3) (j := 6) ⟨hc, ndDue, blkOk_by (N := nDue) (sc := defScope sDue) (by decide +kernel), by decide, rfl, rfl, by intro _; rfl⟩ rfl rfl b qT (fun _ => true) (fun p => LW.qMk p.1) (ep_v loDue 1) (by omega) (fun x hx s H C cl fp => rfl) (fun x hx _ s H C cl fp => ed_ixT (ds := [LW.qMk x.1, .str x.2]) (ed_b 6) ed_int (atI_nat (j := 0) rfl)) rfl (fun r3 => ?_))
  rw [show ((b.filter fun _ => true).map fun p => LW.qMk p.1) = (mks b).map LW.qMk from by rw [lc_all]; unfold mks; rw [List.map_map]; rfl]
  refine sds_cons (sd_setL (i := 4) ndDue rfl (loc_of loDue 4) (.inl rfl) (el_lst (ds := []) ea_nil le_b) (fun r4 => ?_))
  refine sds_cons (sd_rngD (j := 5) (hi := (a.length : Int) - 1) (lo := -1) (fun i ρ => ∃ s5, ρ = [.bo (a.map qT), .bo (b.map qT), .ow r2 ((mks a).map LW.qMk), .ow r3 ((mks b).map LW.qMk), .ow r4 ((outsG a b i).map qS), s5, .un]) (L2.passes_of rfl) hc ndDue rfl (loc_of loDue 5) (.inl rfl) (gl_of glDue 0) T.range (ED.to (ed_sub (ed_len (EP'.rd (ep_v loDue 0)) (gl_of glDue 1) T.len) ed_int) (by rw [hml])) (ed_neg ed_int) (ed_neg ed_int) (by omega) (by omega) ⟨_, rfl⟩ (fun i ρ1 hi hI => ?_) (fun ρ1 hI => ?_))
  · obtain ⟨s5, rfl⟩ := hI
    have hil : i < a.length := by omega
    have ei : ((a.length : Int) - 1 - (i : Int)) = ((a.length - 1 - i : Nat) : Int) := by omega
    rw [ei]
    have hlo := outsG_len a b i
    have ea : (mks a)[a.length - 1 - i]? = some ((mks a)[a.length - 1 - i]'(by omega)) := List.getElem?_eq_getElem (by omega)
    generalize (mks a)[a.length - 1 - i]'(by omega) = m at ea
    have hm := List.mem_of_getElem? ea
    have hg : goes a b (a.length - 1 - i) = !decide (m ∈ mks b) := by unfold goes; rw [ea]
    refine sds_one (sd_if (k := goes a b (a.length - 1 - i)) (ET.to (et_niD (d := LW.qMk m) (hu65_of hr) (ed_ixL (d := LW.qMk m) (eb_v loDue 2) (ed_v loDue 5) (atI_nat (j := a.length - 1 - i) (by rw [List.getElem?_map, ea]; rfl))) (eb_v loDue 3) (shaped_mk (tka m hm)) (shaped_row tkb)) (by rw [mem_eqv, hg])) (fun hb => ?_) (fun hb => ?_))
    · have e : outsG a b (i + 1) = outsG a b i ++ [⟨"out", a.length - 1 - i, none⟩] := by rw [outsG, if_pos hb]
      rw [e, List.map_append]
      exact sds_one (sd_app (i := 4) rfl (vis_of (loc_of loDue 4)) rfl (ed_tup (ds := [_, _]) (ea_d ed_str (ea_d (ed_v loDue 5) ea_nil)) le_b) (by rw [List.length_map]; omega) ⟨_, rfl⟩)
    · have e : outsG a b (i + 1) = outsG a b i := by rw [outsG, hb, if_neg Bool.false_ne_true, List.append_nil]
      rw [e]
      exact sds_nil ⟨_, rfl⟩
  · obtain ⟨s5, rfl⟩ := hI
    have e0 : ((a.length : Int) - 1 - -1).toNat = a.length := by omega
    rw [e0, outsG_all]
    have hol := outsOf_len a b
    refine sds_cons (sd_enum (fun k ρ => ∃ s5 s6, ρ = [.bo (a.map qT), .bo (b.map qT), .ow r2 ((mks a).map LW.qMk), .ow r3 ((mks b).map LW.qMk), .ow r4 ((outsOf a b ++ restG a b k).map qS), s5, s6]) (L2.passes_of rfl) hc
      (gu_tup hc (gus_cons (gu_name (j := 5) ndDue rfl (loc_of loDue 5) (.inl rfl)) (gus_cons (gu_name (j := 6) ndDue rfl (loc_of loDue 6) (.inl rfl)) gus_nil))) (gl_of glDue 2) T.enumerate (ep_v loDue 1) ⟨_, _, by show _ = [_, _, _, _, Sl.ow r4 ((outsOf a b ++ []).map qS), _, _]; rw [List.append_nil]⟩ (fun k d ρ1 hi hI => ?_) (fun ρ1 hI => ?_))
    · obtain ⟨s5, s6, rfl⟩ := hI
      rw [List.getElem?_map] at hi
      cases hx : b[k]? with
      | none => rw [hx] at hi; cases hi
      | some p =>
      rw [hx] at hi
      cases hi
      obtain ⟨m, v⟩ := p
      have hkl : k < b.length := (List.getElem?_eq_some_iff.mp hx).1
      have hmb' : m ∈ mks b := List.mem_map_of_mem (f := (·.1)) (List.mem_of_getElem? hx)
      have hrl := restG_len a b k
      have hlen : ((outsOf a b ++ restG a b k).map qS).length < 100000 := by rw [List.length_map, List.length_append]; omega
      refine ⟨_, ⟨_, rfl, rfl, _, _, _, rfl, rfl, _, _, _, rfl, rfl, rfl, rfl⟩, ?_⟩
      rw [restG_succ hx, ← List.append_assoc]
      have eM : ∀ st : List LW.Step, (outsOf a b ++ restG a b k ++ st).map qS = (outsOf a b ++ restG a b k).map qS ++ st.map qS := fun st => List.map_append
      unfold stepAt
      refine sds_one (sd_if (k := !decide (m ∈ mks a)) (ET.to (et_niD (d := LW.qMk m) (hu65_of hr) (ed_ixT (ds := [LW.qMk m, .str v]) (ed_v loDue 6) ed_int (atI_nat (j := 0) rfl)) (eb_v loDue 2) (shaped_mk (tkb m hmb')) (shaped_row tka)) (by rw [mem_eqv])) (fun hb => ?_) (fun hb => ?_))
      · rw [if_pos hb, eM]
        exact sds_one (sd_app (i := 4) rfl (vis_of (loc_of loDue 4)) rfl (ed_tup (ds := [_, _, _]) (ea_d ed_str (ea_d (ed_v loDue 5) (ea_d (ed_ixT (ds := [LW.qMk m, .str v]) (ed_v loDue 6) ed_int (atI_nat (j := 1) rfl)) ea_nil))) le_b) hlen ⟨_, _, rfl⟩)
      · rw [hb, if_neg Bool.false_ne_true]
        have ha : m ∈ mks a := by simpa using hb
        have hwa := word_at ha
        refine sds_one (sd_if (k := !decide (wordIn a m = v)) (et_c cd_neS (ed_ixT (ds := [LW.qMk m, .str (wordIn a m)]) (ed_ixL (d := qT (m, wordIn a m)) (EP'.rd (ep_v loDue 0)) (ed_index (j := LW.pos m (mks a)) (d := LW.qMk m) (z := LW.qMk m) (hu65_of hr) (eb_v loDue 2) (ed_ixT (ds := [LW.qMk m, .str v]) (ed_v loDue 6) ed_int (atI_nat (j := 0) rfl)) (shaped_row tka) (shaped_mk (tka m ha)) (by rw [List.getElem?_map, pos_at ha]; rfl) (by rw [mk_eqv]; exact decide_eq_true rfl) (fun k' z' hk hz => by
              rw [List.getElem?_map] at hz
              cases q : (mks a)[k']? with
              | none => rw [q] at hz; cases hz
              | some m' =>
              rw [q] at hz
              cases hz
              rw [mk_eqv]
              exact decide_eq_false (pos_no hk q))) (atI_nat (j := LW.pos m (mks a)) (by rw [List.getElem?_map, hwa]; rfl))) ed_int (atI_nat (j := 1) rfl)) (ed_ixT (ds := [LW.qMk m, .str v]) (ed_v loDue 6) ed_int (atI_nat (j := 1) rfl))) (fun hb2 => ?_) (fun hb2 => ?_))
        · rw [if_pos hb2, eM]
          exact sds_one (sd_app (i := 4) rfl (vis_of (loc_of loDue 4)) rfl (ed_tup (ds := [_, _, _]) (ea_d ed_str (ea_d (ed_v loDue 5) (ea_d (ed_ixT (ds := [LW.qMk m, .str v]) (ed_v loDue 6) ed_int (atI_nat (j := 1) rfl)) ea_nil))) le_b) hlen ⟨_, _, rfl⟩)
        · rw [hb2, if_neg Bool.false_ne_true, List.append_nil]
          exact sds_nil ⟨_, _, rfl⟩
    · obtain ⟨s5, s6, rfl⟩ := hI
      rw [hmb]
      exact sds_one (sd_retO (i := 4) rfl (vis_of (loc_of loDue 4)) rfl rfl)
end
end N14

set_option maxHeartbeats 4000000
namespace N14
variable [PD.TabC]
open PySem L2 PD PyProof.Rows LW K4M LamK
theorem erase_map {α β : Type} {f : α → β} : ∀ (xs : List α) (j : Nat), (xs.map f).eraseIdx j = (xs.eraseIdx j).map f
  | [], _ => rfl
  | _ :: _, 0 => rfl
  | a :: r, j + 1 => congrArg (f a :: ·) (erase_map r j)
section
variable {P : Program} {w : World} {K : PySem.W.Frag} {mg : Str → Option Value} {base : Heap}
/-! ### _law_done -/
abbrev sDone : Stmt := topS 18
abbrev nDone : List Str := ["_law_lines", "_law_row", "_law_step"]
theorem scDone : FnScope nDone ["_law_lines", "_law_row"] (defScope sDone) := ⟨rfl, rfl, rfl, by decide +kernel, rfl, by decide +kernel, by decide +kernel⟩
theorem ndDone : (nDone).Nodup := scDone.nd
theorem loDone : (["_law_lines", "_law_row", "_law_step"] : List Str).all (locB (defScope sDone)) = true := by decide +kernel
theorem glDone : (["list"] : List Str).all (glB (defScope sDone)) = true := by decide +kernel
def rDone : List Sl → DOut → Prop := fun as o => ∃ (ls : List Str) (st : List LW.Step), as = [.bo (ls.map .str), .bo (st.map qS)] ∧ ls.length ≤ 2000 ∧ st.length ≤ 5000 ∧ Fits ls st ∧ o = .new ((doneOf ls st).map .str)
theorem okDone {f : Addr} {fd : FuncData} (F : Fun K "_law_done" "_law_done" sDone f fd) (T : Blt mg) : FnOk P w K mg base (L2N.CX P w) 1 f fd ["_law_lines", "_law_row"] (spD K 2 rDone) := by
  refine fnD F scDone (by decide) fun cdv A outer s H E as o hr hl hR => ?_
  obtain ⟨ls, st, rfl, ll, sl, ft, rfl⟩ := hR
  have hc : (cxOf (L2N.CX P w) P w K mg base nDone "_law_done" (defScope sDone) f cdv A outer s H E).calm = true := rfl
  refine sds_cons (sd_setL (i := 0) ndDone rfl (loc_of loDone 0) (.inl rfl) (el_list (EP'.rd (ep_v loDone 0)) (gl_of glDone 0) T.list) (fun r0 => ?_))
  refine sds_cons (sd_for (ds := st.map qS) (fun i ρ => ∃ s2, ρ = [.ow r0 ((doneOf ls (st.take i)).map .str), .bo (st.map qS), s2]) (L2.passes_of rfl) hc (j := 2) ndDone rfl (loc_of loDone 2) (.inl rfl) (ep_v loDone 1) ⟨_, rfl⟩ (fun i d ρ1 hi hI => ?_) (fun ρ1 hI => ?_))
  · obtain ⟨s2, rfl⟩ := hI
    rw [List.getElem?_map] at hi
    cases hx : st[i]? with
    | none => rw [hx] at hi; cases hi
    | some x =>
    rw [hx] at hi
    cases hi
    have hil : i < st.length := (List.getElem?_eq_some_iff.mp hx).1
    have fit := ft.at hx
    have len := done_len ft i
    rw [done_succ hx]
    generalize doneOf ls (st.take i) = cur at fit len ⊢
    obtain ⟨xw, xk, xl⟩ := x
    have hcl : (cur.map PyData.str).length = cur.length := List.length_map _
    rcases fit.w with ⟨e, hk, hl⟩ | ⟨e, hk, hl⟩ | ⟨e, hk, hl⟩
    · have e : xw = "out" := e
      have hl : xl = none := hl
      have hk2 : xk < cur.length := hk
      subst e hl
      have e2 : doneStep cur ⟨"out", xk, none⟩ = cur.eraseIdx xk := by unfold doneStep; rw [if_pos (decide_eq_true rfl)]
      rw [e2]
      have hq : qS ⟨"out", xk, none⟩ = .tuple [.str "out", .int (xk : Nat)] := rfl
      rw [hq]
      refine sds_one (sd_if (et_c cd_eqS (ed_ixT (ds := [.str "out", .int (xk : Nat)]) (ed_v loDone 2) ed_int (atI_nat (j := 0) rfl)) ed_str) (fun hb => ?_) (fun hb => absurd hb (by decide +kernel)))
      refine sds_one (sd_popAt (i := 0) (k := (xk : Int)) (j := xk) (d := .str (cur[xk]'hk2)) rfl (vis_of (loc_of loDone 0)) rfl (ed_ixT (ds := [.str "out", .int (xk : Nat)]) (ed_v loDone 2) ed_int (atI_nat (j := 1) rfl)) (by omega) (by rw [hcl]; have := seqIndex_of (k := (xk : Int)) (n := cur.length) (by omega) (by omega); simpa using this) (by rw [List.getElem?_map, List.getElem?_eq_getElem hk2]; rfl) ⟨.sh (.tuple [.str "out", .int (xk : Nat)]), ?_⟩)
      have : (cur.map PyData.str).eraseIdx xk = (cur.eraseIdx xk).map .str := erase_map cur xk
      rw [← this]; rfl
    · have e : xw = "put" := e
      have hk : xk ≤ cur.length := hk
      subst e
      cases xl with
      | none => cases hl
      | some y =>
      have e2 : doneStep cur ⟨"put", xk, some y⟩ = cur.take xk ++ [y] ++ cur.drop xk := by
        unfold doneStep
        rw [if_neg (show ¬ decide (("put" : Str) = ("out" : Str)) = true by decide +kernel), if_pos (decide_eq_true rfl)]; rfl
      rw [e2]
      have hq : qS ⟨"put", xk, some y⟩ = .tuple [.str "put", .int (xk : Nat), .str y] := rfl
      rw [hq]
      refine sds_one (sd_if (et_c cd_eqS (ed_ixT (ds := [.str "put", .int (xk : Nat), .str y]) (ed_v loDone 2) ed_int (atI_nat (j := 0) rfl)) ed_str) (fun hb => absurd hb (by decide +kernel)) (fun hb => ?_))
      refine sds_one (sd_if (et_c cd_eqS (ed_ixT (ds := [.str "put", .int (xk : Nat), .str y]) (ed_v loDone 2) ed_int (atI_nat (j := 0) rfl)) ed_str) (fun hb => ?_) (fun hb => absurd hb (by decide +kernel)))
      refine sds_one (sd_insert (i := 0) (k := xk) (d := .str y) rfl (vis_of (loc_of loDone 0)) rfl (ed_ixT (ds := [.str "put", .int (xk : Nat), .str y]) (ed_v loDone 2) ed_int (atI_nat (j := 1) rfl)) (ed_ixT (ds := [.str "put", .int (xk : Nat), .str y]) (ed_v loDone 2) ed_int (atI_nat (j := 2) rfl)) (by omega) (by rw [hcl]; omega) ⟨.sh (.tuple [.str "put", .int (xk : Nat), .str y]), ?_⟩)
      rw [List.map_append, List.map_append, List.map_take, List.map_drop]; rfl
    · have e : xw = "say" := e
      have hk : xk < cur.length := hk
      subst e
      cases xl with
      | none => cases hl
      | some y =>
      have e2 : doneStep cur ⟨"say", xk, some y⟩ = cur.set xk y := by
        unfold doneStep
        rw [if_neg (show ¬ decide (("say" : Str) = ("out" : Str)) = true by decide +kernel), if_neg (show ¬ decide (("say" : Str) = ("put" : Str)) = true by decide +kernel)]; rfl
      rw [e2]
      have hq : qS ⟨"say", xk, some y⟩ = .tuple [.str "say", .int (xk : Nat), .str y] := rfl
      rw [hq]
      refine sds_one (sd_if (et_c cd_eqS (ed_ixT (ds := [.str "say", .int (xk : Nat), .str y]) (ed_v loDone 2) ed_int (atI_nat (j := 0) rfl)) ed_str) (fun hb => absurd hb (by decide +kernel)) (fun hb => ?_))
      refine sds_one (sd_if (et_c cd_eqS (ed_ixT (ds := [.str "say", .int (xk : Nat), .str y]) (ed_v loDone 2) ed_int (atI_nat (j := 0) rfl)) ed_str) (fun hb => absurd hb (by decide +kernel)) (fun hb => ?_))
      refine sds_one (sd_setix (i := 0) (j := xk) (d := .str y) rfl (vis_of (loc_of loDone 0)) rfl (ed_ixT (ds := [.str "say", .int (xk : Nat), .str y]) (ed_v loDone 2) ed_int (atI_nat (j := 2) rfl)) (ed_ixT (ds := [.str "say", .int (xk : Nat), .str y]) (ed_v loDone 2) ed_int (atI_nat (j := 1) rfl)) (ix_nat (by rw [hcl]; exact hk)) ⟨.sh (.tuple [.str "say", .int (xk : Nat), .str y]), ?_⟩)
      rw [List.map_set]; rfl
  · obtain ⟨s2, rfl⟩ := hI
    rw [List.length_map, List.take_length]
    exact sds_one (sd_retO (i := 0) rfl (vis_of (loc_of loDone 0)) rfl rfl)
end
end N14

set_option maxHeartbeats 4000000
/-! the steps lead from one text to the other -/
namespace LW
open PySem L2 PD PyProof.Rows
variable [PD.TabC]
theorem done_app (ls : List Str) (st su : List Step) : doneOf ls (st ++ su) = doneOf (doneOf ls st) su := List.foldl_append
theorem fits_app : ∀ {st su : List Step} {ls : List Str}, Fits ls st → Fits (doneOf ls st) su → Fits ls (st ++ su)
  | [], _, _, _, h => h
  | s :: r, su, ls, h, k => ⟨h.1, fits_app (st := r) h.2 k⟩
theorem sub_filter : ∀ {l R : List Mark}, l.Sublist R → R.Nodup → R.filter (fun x => decide (x ∈ l)) = l
  | _, _, .slnil, _ => rfl
  | l, _, .cons (l₂ := R) x h, nd => by
    obtain ⟨n1, n2⟩ := List.nodup_cons.mp nd
    rw [List.filter_cons, if_neg (by simpa using fun z => n1 (h.subset z))]
    exact sub_filter h n2
  | _, _, .cons₂ (l₁ := l) (l₂ := R) x h, nd => by
    obtain ⟨n1, n2⟩ := List.nodup_cons.mp nd
    rw [List.filter_cons, if_pos (by simp)]
    congr 1
    refine (List.filter_congr fun y hy => ?_).trans (sub_filter h n2)
    have : y ≠ x := fun z => n1 (z ▸ hy)
    simp [this]
theorem both {R l m : List Mark} (nd : R.Nodup) (hl : l.Sublist R) (hm : m.Sublist R) : l.filter (fun x => decide (x ∈ m)) = m.filter (fun x => decide (x ∈ l)) := by
  conv => lhs; rw [← sub_filter hl nd]
  conv => rhs; rw [← sub_filter hm nd]
  rw [List.filter_filter, List.filter_filter]
  refine List.filter_congr fun x _ => ?_
  by_cases h1 : x ∈ l <;> by_cases h2 : x ∈ m <;> simp [h1, h2, sub_filter hl nd, sub_filter hm nd]
theorem erase_mid {α : Type} : ∀ (l : List α) (x : α) (r : List α), (l ++ x :: r).eraseIdx l.length = l ++ r
  | [], _, _ => rfl
  | a :: l, x, r => congrArg (a :: ·) (erase_mid l x r)
theorem set_mid {α : Type} : ∀ (l : List α) (x y : α) (r : List α), (l ++ x :: r).set l.length y = l ++ y :: r
  | [], _, _, _ => rfl
  | a :: l, x, y, r => congrArg (a :: ·) (set_mid l x y r)
def keptB (b : Told) (p : Mark × Str) : Bool := decide (p.1 ∈ mks b)
theorem outs_lead (a b : Told) : ∀ i, i ≤ a.length → Fits (a.map (·.2)) (outsG a b i) ∧ doneOf (a.map (·.2)) (outsG a b i) = (a.take (a.length - i) ++ (a.drop (a.length - i)).filter (keptB b)).map (·.2)
  | 0, _ => by
    refine ⟨trivial, ?_⟩
    rw [Nat.sub_zero, List.take_length, List.drop_length]
    show a.map _ = (a ++ []).map _
    rw [List.append_nil]
  | i + 1, hi => by
    obtain ⟨h1, h2⟩ := outs_lead a b i (by omega)
    have hj : a.length - 1 - i < a.length := by omega
    generalize ej : a.length - 1 - i = j at hj
    have e1 : a.length - i = j + 1 := by omega
    have e2 : a.length - (i + 1) = j := by omega
    rw [e1] at h2
    rw [e2, outsG, ej]
    have ea : a.drop j = a[j] :: a.drop (j + 1) := (List.getElem_cons_drop hj).symm
    have et : a.take (j + 1) = a.take j ++ [a[j]] := by rw [List.take_add_one, List.getElem?_eq_getElem hj]; rfl
    have hg : goes a b j = !keptB b a[j] := by
      unfold goes keptB mks
      rw [List.getElem?_map, List.getElem?_eq_getElem hj]; rfl
    rw [ea, List.filter_cons]
    rw [et, List.append_assoc] at h2
    by_cases q : keptB b a[j] = true
    · rw [hg, q, if_neg (by decide), if_pos rfl, List.append_nil]
      exact ⟨h1, h2⟩
    · have q : keptB b a[j] = false := Bool.eq_false_iff.mpr q
      rw [hg, q, if_pos (by decide), if_neg Bool.false_ne_true, done_app, h2]
      have len : ((a.take j).map (·.2)).length = j := by rw [List.length_map, List.length_take]; omega
      have shape : (a.take j ++ ([a[j]] ++ (a.drop (j + 1)).filter (keptB b))).map (fun p : Mark × Str => p.2) = (a.take j).map (·.2) ++ a[j].2 :: ((a.drop (j + 1)).filter (keptB b)).map (·.2) := by rw [List.map_append]; rfl
      refine ⟨fits_app h1 ?_, ?_⟩
      · rw [h2, shape]
        exact ⟨⟨.inl ⟨rfl, by show j < _; rw [List.length_append, len, List.length_cons]; omega, rfl⟩⟩, trivial⟩
      · rw [shape]
        show doneStep _ ⟨"out", j, none⟩ = _
        unfold doneStep
        rw [if_pos (decide_eq_true rfl)]
        show List.eraseIdx _ j = _
        have := erase_mid ((a.take j).map (fun p : Mark × Str => p.2)) a[j].2 (((a.drop (j + 1)).filter (keptB b)).map (·.2))
        rw [len] at this
        rw [this, List.map_append]
def restS (a b : Told) (k : Nat) : List Str := (b.take k).map (·.2) ++ ((b.drop k).filter (keptB a)).map fun q => wordIn a q.1
theorem rest_lead (a b : Told) : ∀ k, k ≤ b.length → Fits (restS a b 0) (restG a b k) ∧ doneOf (restS a b 0) (restG a b k) = restS a b k
  | 0, _ => ⟨trivial, rfl⟩
  | k + 1, hk => by
    obtain ⟨h1, h2⟩ := rest_lead a b k (by omega)
    have hx : b[k]? = some b[k] := List.getElem?_eq_getElem (by omega)
    have eb : b.drop k = b[k] :: b.drop (k + 1) := (List.getElem_cons_drop (by omega)).symm
    have et : b.take (k + 1) = b.take k ++ [b[k]] := by rw [List.take_add_one, hx]; rfl
    rw [restG_succ hx, done_app, h2]
    have len : ((b.take k).map (fun p : Mark × Str => p.2)).length = k := by rw [List.length_map, List.length_take]; omega
    have goal : restS a b (k + 1) = (b.take k).map (·.2) ++ b[k].2 :: ((b.drop (k + 1)).filter (keptB a)).map fun q => wordIn a q.1 := by
      unfold restS
      rw [et, List.map_append, List.append_assoc]; rfl
    rw [goal]
    generalize b[k] = p at *
    unfold stepAt
    by_cases q : p.1 ∈ mks a
    · have cur : restS a b k = (b.take k).map (·.2) ++ wordIn a p.1 :: ((b.drop (k + 1)).filter (keptB a)).map fun q => wordIn a q.1 := by
        unfold restS
        rw [eb, List.filter_cons, if_pos (show keptB a p = true from decide_eq_true q)]; rfl
      rw [if_neg (by simpa using q)]
      by_cases e : wordIn a p.1 = p.2
      · rw [if_neg (by simpa using e)]
        refine ⟨fits_app h1 trivial, ?_⟩
        show restS a b k = _
        rw [cur, e]
      · rw [if_pos (by simpa using e)]
        refine ⟨fits_app h1 ?_, ?_⟩
        · rw [h2, cur]
          exact ⟨⟨.inr (.inr ⟨rfl, by show k < _; rw [List.length_append, len, List.length_cons]; omega, rfl⟩)⟩, trivial⟩
        · rw [cur]
          show doneStep _ ⟨"say", k, some p.2⟩ = _
          unfold doneStep
          rw [if_neg (show ¬ decide (("say" : Str) = ("out" : Str)) = true by decide +kernel), if_neg (show ¬ decide (("say" : Str) = ("put" : Str)) = true by decide +kernel)]
          show List.set _ k p.2 = _
          have := set_mid ((b.take k).map (fun p : Mark × Str => p.2)) (wordIn a p.1) p.2 (((b.drop (k + 1)).filter (keptB a)).map fun q => wordIn a q.1)
          rw [len] at this
          exact this
    · have cur : restS a b k = (b.take k).map (·.2) ++ ((b.drop (k + 1)).filter (keptB a)).map fun q => wordIn a q.1 := by
        unfold restS
        rw [eb, List.filter_cons, if_neg (by unfold keptB; rw [decide_eq_false q]; exact Bool.false_ne_true)]
      rw [if_pos (by simpa using q)]
      refine ⟨fits_app h1 ?_, ?_⟩
      · rw [h2, cur]
        exact ⟨⟨.inr (.inl ⟨rfl, by show k ≤ _; rw [List.length_append, len]; omega, rfl⟩)⟩, trivial⟩
      · rw [cur]
        show doneStep _ ⟨"put", k, some p.2⟩ = _
        unfold doneStep
        rw [if_neg (show ¬ decide (("put" : Str) = ("out" : Str)) = true by decide +kernel), if_pos (decide_eq_true rfl)]
        show List.take k _ ++ [p.2] ++ List.drop k _ = _
        rw [List.take_append_of_le_length (by omega), List.drop_append_of_le_length (by omega), List.take_of_length_le (by omega), List.drop_of_length_le (by omega)]
        simp
theorem fst_one : ∀ {a : Told} {p q : Mark × Str}, (mks a).Nodup → p ∈ a → q ∈ a → p.1 = q.1 → p = q
  | x :: r, p, q, nd, hp, hq, e => by
    obtain ⟨n1, n2⟩ := List.nodup_cons.mp (show (x.1 :: mks r).Nodup from nd)
    rcases List.mem_cons.mp hp with hp | hp <;> rcases List.mem_cons.mp hq with hq | hq
    · rw [hp, hq]
    · exact absurd (show x.1 ∈ mks r from by rw [← hp, e]; exact List.mem_map_of_mem hq) n1
    · exact absurd (show x.1 ∈ mks r from by rw [← hq, ← e]; exact List.mem_map_of_mem hp) n1
    · exact fst_one n2 hp hq e
theorem wordIn_own {a : Told} (nd : (mks a).Nodup) {p : Mark × Str} (h : p ∈ a) : wordIn a p.1 = p.2 := by
  have h1 := List.mem_of_getElem? (word_at (a := a) (m := p.1) (List.mem_map_of_mem h))
  have := fst_one nd h1 h rfl
  exact congrArg (·.2) this
theorem kept_mks (a b : Told) : mks (a.filter (keptB b)) = (mks a).filter fun x => decide (x ∈ mks b) := by
  unfold mks
  rw [List.filter_map]; rfl
/-- done one by one, the steps lead from the one text to the other -/
theorem lead {R : List Mark} (nd : R.Nodup) {a b : Told} (ha : (mks a).Sublist R) (hb : (mks b).Sublist R) : Fits (a.map (·.2)) (dueOf a b) ∧ doneOf (a.map (·.2)) (dueOf a b) = b.map (·.2) := by
  obtain ⟨o1, o2⟩ := outs_lead a b a.length (Nat.le_refl _)
  obtain ⟨r1, r2⟩ := rest_lead a b b.length (Nat.le_refl _)
  rw [outsG_all] at o1 o2
  have mid : doneOf (a.map (·.2)) (outsOf a b) = restS a b 0 := by
    rw [o2, Nat.sub_self]
    show ((a.filter (keptB b)).map fun p => p.2) = (b.filter (keptB a)).map fun q => wordIn a q.1
    have e1 : ((a.filter (keptB b)).map fun p => p.2) = (mks (a.filter (keptB b))).map (wordIn a) := by
      unfold mks
      rw [List.map_map]
      exact List.map_congr_left fun p hp => (wordIn_own (ha.nodup nd) (List.mem_filter.mp hp).1).symm
    have e2 : ((b.filter (keptB a)).map fun q => wordIn a q.1) = (mks (b.filter (keptB a))).map (wordIn a) := by
      unfold mks
      rw [List.map_map]; rfl
    rw [e1, e2, kept_mks, kept_mks, both nd ha hb]
  have fin : restS a b b.length = b.map (·.2) := by
    unfold restS
    rw [List.take_length, List.drop_length]
    exact List.append_nil _
  refine ⟨fits_app o1 (by rw [mid]; exact r1), ?_⟩
  unfold dueOf
  rw [done_app, mid, r2, fin]
end LW

set_option maxHeartbeats 4000000
namespace LW
open PySem L2 PD PyProof.Rows
variable [PD.TabC]
/-! ### parts of a text -/
def Sub (y x : Str) : Prop := y.length ≤ x.length ∧ ∀ c ∈ cs y, c ∈ cs x
theorem Sub.tx {x y : Str} (s : Sub y x) (h : Tx0 x) : Tx0 y := ⟨Nat.le_trans s.1 h.1, fun c hc => h.2 c (s.2 c hc)⟩
theorem Sub.refl (x : Str) : Sub x x := ⟨Nat.le_refl _, fun _ h => h⟩
theorem Sub.trans {x y z : Str} (a : Sub x y) (b : Sub y z) : Sub x z := ⟨Nat.le_trans a.1 b.1, fun c h => b.2 c (a.2 c h)⟩
theorem sub_nil (x : Str) : Sub Str.empty x := ⟨Nat.zero_le _, fun c h => nomatch h⟩
theorem spl_sub (S : List Nat) : ∀ (l : List Nat) (k : Nat) (acc p : List Nat), p ∈ TL.spl S k acc l → p.length ≤ acc.length + l.length ∧ ∀ c ∈ p, c ∈ acc ∨ c ∈ l
  | [], k, acc, p, h => by
    rw [TL.spl_nil, List.mem_singleton] at h
    subst h
    exact ⟨Nat.le_add_right _ _, fun c hc => .inl hc⟩
  | x :: r, 0, acc, p, h => by
    by_cases q : TL.pre S (x :: r) = true
    · rw [TL.spl_hit q] at h
      rcases List.mem_cons.mp h with rfl | h
      · exact ⟨Nat.le_add_right _ _, fun c hc => .inl hc⟩
      · obtain ⟨h1, h2⟩ := spl_sub S r _ _ p h
        refine ⟨by rw [List.length_cons]; simp at h1; omega, fun c hc => ?_⟩
        rcases h2 c hc with h2 | h2
        · exact nomatch h2
        · exact .inr (List.mem_cons_of_mem _ h2)
    · rw [TL.spl_miss (by simpa using q)] at h
      obtain ⟨h1, h2⟩ := spl_sub S r _ _ p h
      refine ⟨by rw [List.length_append, List.length_singleton] at h1; rw [List.length_cons]; omega, fun c hc => ?_⟩
      rcases h2 c hc with h2 | h2
      · rcases List.mem_append.mp h2 with h2 | h2
        · exact .inl h2
        · rw [List.mem_singleton.mp h2]; exact .inr List.mem_cons_self
      · exact .inr (List.mem_cons_of_mem _ h2)
  | x :: r, k + 1, acc, p, h => by
    obtain ⟨h1, h2⟩ := spl_sub S r k acc p h
    exact ⟨by rw [List.length_cons]; omega, fun c hc => (h2 c hc).imp id fun q => List.mem_cons_of_mem _ q⟩
theorem spl_ne (S : List Nat) : ∀ (l : List Nat) (k : Nat) (acc : List Nat), TL.spl S k acc l ≠ []
  | [], k, acc => by rw [TL.spl_nil]; exact List.cons_ne_nil _ _
  | x :: r, 0, acc => by
    by_cases q : TL.pre S (x :: r) = true
    · rw [TL.spl_hit q]; exact List.cons_ne_nil _ _
    · rw [TL.spl_miss (by simpa using q)]; exact spl_ne S r _ _
  | x :: r, k + 1, acc => spl_ne S r k acc
theorem split_sub {x y p : Str} (hy : cs y ≠ []) (hk : y.cps.all (· < 256) = true) (h : p ∈ Txt.split x y) : Sub p x := by
  have e := TL.split_spl x y hy (TL.kind_ok hk)
  have h1 : cs p ∈ TL.spl (TL.tl y) 0 [] (TL.tl x) := e ▸ List.mem_map_of_mem h
  obtain ⟨a, b⟩ := spl_sub _ _ _ _ _ h1
  refine ⟨by rw [len_cs, len_cs]; simpa using a, fun c hc => ?_⟩
  rcases b c hc with b | b
  · exact nomatch b
  · exact b
theorem split_ne {x y : Str} (hy : cs y ≠ []) (hk : y.cps.all (· < 256) = true) : Txt.split x y ≠ [] := fun q => by
  have e := TL.split_spl x y hy (TL.kind_ok hk)
  rw [q] at e
  exact spl_ne _ _ _ _ e.symm
theorem par_sub (S : List Nat) : ∀ (l acc a b : List Nat), TL.par S acc l = some (a, b) → (a.length ≤ acc.length + l.length ∧ ∀ c ∈ a, c ∈ acc ∨ c ∈ l) ∧ b.length ≤ l.length ∧ ∀ c ∈ b, c ∈ l
  | [], acc, a, b, h => nomatch h
  | x :: r, acc, a, b, h => by
    by_cases q : TL.pre S (x :: r) = true
    · rw [TL.par_hit q] at h
      cases h
      exact ⟨⟨Nat.le_add_right _ _, fun c hc => .inl hc⟩, by rw [List.length_drop]; omega, fun c hc => List.mem_of_mem_drop hc⟩
    · rw [TL.par_miss (by simpa using q)] at h
      obtain ⟨⟨h1, h2⟩, h3, h4⟩ := par_sub S r _ a b h
      refine ⟨⟨by rw [List.length_append, List.length_singleton] at h1; rw [List.length_cons]; omega, fun c hc => ?_⟩, by rw [List.length_cons]; omega, fun c hc => List.mem_cons_of_mem _ (h4 c hc)⟩
      rcases h2 c hc with h2 | h2
      · rcases List.mem_append.mp h2 with h2 | h2
        · exact .inl h2
        · rw [List.mem_singleton.mp h2]; exact .inr List.mem_cons_self
      · exact .inr (List.mem_cons_of_mem _ h2)
theorem part_sub {x y : Str} (hy : cs y ≠ []) : Sub (Txt.partition x y).1 x ∧ Sub (Txt.partition x y).2.2 x := by
  rw [TL.partition_par x y hy]
  cases e : TL.par (TL.tl y) [] (TL.tl x) with
  | none => exact ⟨Sub.refl x, sub_nil x⟩
  | some ab =>
    obtain ⟨a, b⟩ := ab
    obtain ⟨⟨h1, h2⟩, h3, h4⟩ := par_sub _ _ _ a b e
    refine ⟨⟨by rw [len_cs, len_cs]; show a.length ≤ (TL.tl x).length; simpa using h1, fun c hc => ?_⟩, ⟨by rw [len_cs, len_cs]; exact h3, fun c hc => h4 c hc⟩⟩
    rcases h2 c hc with h2 | h2
    · exact nomatch h2
    · exact h2
theorem num_int {z : Str} (h : isNum z = true) : PySem.intText? z = some ((PySem.intText? z).getD 0) ∧ z.length ≤ 9 := by
  unfold isNum at h
  rw [Bool.and_eq_true, Bool.and_eq_true] at h
  obtain ⟨h1, _, h2⟩ := h
  simp only [Bool.not_eq_true', Bool.or_eq_false_iff, decide_eq_false_iff_not] at h1
  have hl : z.length ≤ 9 := by have := h1.2; omega
  have f : cs figs = [48, 49, 50, 51, 52, 53, 54, 55, 56, 57] := by decide +kernel
  have e := intText_digits (x := z) (fun c hc => by
    have := of_decide_eq_true (List.all_eq_true.mp h2 c hc)
    rw [f] at this
    simp at this
    omega) (fun q => h1.1 (cs_ext q)) (by omega)
  exact ⟨by rw [e]; rfl, hl⟩
end LW
namespace PD
open PySem L2 PyProof.Rows
variable [PD.TabC]
section
variable {X : Cx} {W : WX} {ex : Addr → Prop} {e1 e2 e3 : Expr} {ρ : List Sl} {d : PyData} {pos : Pos} {kk : Nat}
theorem ex_tup2 (h1 : ED X W ex e1 ρ d) (h2 : EX X W ex e2 ρ) (s1 : starEach [e1, e2] X.env = (false, eval e1 X.env) :: starEach [e2] X.env := by rfl) (s2 : starEach [e2] X.env = [(false, eval e2 X.env)] := by rfl) : EX X W ex (.Tuple [e1, e2] kk pos) ρ := fun B F H σ Q E c =>
  w_e (pe_tup (pa_cons pe_w (pa_cons pe_w pa_nil s2) s1)) (h1 B F H σ _ E c fun v F1 H1 x1 i1 => h2 B F1 H1 σ _ (E.ext x1) (c.ext x1))
theorem ex_tup3 (h1 : ED X W ex e1 ρ d) (h2 : EX X W ex e2 ρ) (s1 : starEach [e1, e2, e3] X.env = (false, eval e1 X.env) :: starEach [e2, e3] X.env := by rfl) (s2 : starEach [e2, e3] X.env = (false, eval e2 X.env) :: starEach [e3] X.env := by rfl) (s3 : starEach [e3] X.env = [(false, eval e3 X.env)] := by rfl) : EX X W ex (.Tuple [e1, e2, e3] kk pos) ρ := fun B F H σ Q E c =>
  w_e (pe_tup (pa_cons pe_w (pa_cons pe_w (pa_cons pe_w pa_nil s3) s2) s1)) (h1 B F H σ _ E c fun v F1 H1 x1 i1 => h2 B F1 H1 σ _ (E.ext x1) (c.ext x1))
theorem short2 {z y : Str} (h : (reprText z).length ≤ 10002) (k : y.length ≤ 1000) : ([reprText z, y].map (·.length)).sum ≤ 100000 := by
  show (reprText z).length + (y.length + 0) ≤ 100000
  omega
theorem cutD_drop {α : Type} (xs : List α) (k : Nat) : cutD xs (some (k : Int)) none = xs.drop k := by
  unfold cutD
  rw [HT.sIx_none, HT.sIx_nat]
  rcases Nat.le_total k xs.length with h | h
  · rw [Nat.min_eq_left h, List.take_of_length_le (by rw [List.length_drop]; exact Nat.le_refl _)]
  · rw [Nat.min_eq_right h, Nat.sub_self, List.take_zero, List.drop_eq_nil_of_le h]
theorem cutD_take {α : Type} (xs : List α) (k : Nat) : cutD xs none (some (k : Int)) = xs.take k := by
  unfold cutD
  rw [HT.sIx_none, HT.sIx_nat, List.drop_zero, Nat.sub_zero]
  rcases Nat.le_total k xs.length with h | h
  · rw [Nat.min_eq_left h]
  · rw [Nat.min_eq_right h, List.take_of_length_le (Nat.le_refl _), List.take_of_length_le h]
theorem cut3 (a b c : Str) (r : List Str) : cutD ((a :: b :: c :: r).map PyData.str) (some 3) none = r.map PyData.str := by
  have := cutD_drop ((a :: b :: c :: r).map PyData.str) 3
  rw [show ((3 : Nat) : Int) = 3 from rfl] at this
  rw [this]; rfl
end
end PD

set_option maxHeartbeats 4000000
namespace N14
variable [PD.TabC]
open PySem L2 PD PyProof.Rows LW K4M LamK
/-- names that the top leaves to the language -/
structure TxK (mg : Str → Option Value) : Prop where
  isi : mg "isinstance" = none
  tuple : mg "tuple" = none
  len : mg "len" = none
  str : mg "str" = none
  int : mg "int" = none
  bool : mg "bool" = none
  list : mg "list" = none
  all : mg "all" = none
  zip : mg "zip" = none
theorem cut2_ok (a b : PyData) (r : List PyData) : ¬ (HT.sIx (a :: b :: r).length 0 (some 2) = 0 ∧ HT.sIx (a :: b :: r).length (a :: b :: r).length none = (a :: b :: r).length) := fun h => by
  have h1 := h.1
  rw [show (2 : Int) = ((2 : Nat) : Int) from rfl, HT.sIx_nat, List.length_cons, List.length_cons] at h1
  omega
theorem cut2_eq (a b : PyData) (r : List PyData) : PyData.tuple (cutD (a :: b :: r) (some 2) none) = .tuple r := by
  have := cutD_drop (a :: b :: r) 2
  rw [show ((2 : Nat) : Int) = 2 from rfl] at this
  rw [this]; rfl
def StepOk (s : LW.Step) : Prop := Tx0 s.w ∧ ∀ l, s.l = some l → Tx0 l
def tailS (s : LW.Step) : List Str := s.l.toList
theorem qS_tup (s : LW.Step) : qS s = .tuple (.str s.w :: .int (s.k : Nat) :: (tailS s).map .str) := by
  unfold qS tailS
  cases s.l <;> rfl
theorem lay_s {s : LW.Step} (h : StepOk s) : (qS s).canLay0 = true ∧ (qS s).depth ≤ 1 := by
  unfold qS
  cases e : s.l with
  | none =>
    refine ⟨?_, ?_⟩
    · show (PyData.strOk s.w && (true && true)) = true
      rw [str_ok h.1]; rfl
    · show max 0 (max 0 0) + 1 ≤ 1
      decide
  | some l =>
    refine ⟨?_, ?_⟩
    · show (PyData.strOk s.w && (true && (PyData.strOk l && true))) = true
      rw [str_ok h.1, str_ok (h.2 l e)]; rfl
    · show max 0 (max 0 (max 0 0)) + 1 ≤ 1
      decide
theorem shaped_s {s : LW.Step} (h : StepOk s) : SeqAt.shaped (qS s) = true := by
  have := lay_s h
  unfold SeqAt.shaped
  rw [this.1, decide_eq_true (by omega)]; rfl
theorem eqv_s {s : LW.Step} (h : StepOk s) : PyData.eqv (qS s) (qS s) = true := SeqAt.eqv_refl _ (lay_s h).1
section
variable {P : Program} {w : World} {K : PySem.W.Frag} {mg : Str → Option Value} {base : Heap}
/-! ### _law_step_like -/
abbrev sStepLike : Stmt := topS 17
abbrev nStepLike : List Str := ["_law_found", "_law_due_here", "_law_one"]
theorem scStepLike : FnScope nStepLike ["_law_found", "_law_due_here"] (defScope sStepLike) := ⟨rfl, rfl, rfl, by decide +kernel, rfl, by decide +kernel, by decide +kernel⟩
theorem ndStepLike : (nStepLike).Nodup := scStepLike.nd
theorem loStepLike : (["_law_found", "_law_due_here"] : List Str).all (locB (defScope sStepLike)) = true := by decide +kernel
theorem glStepLike : (["isinstance", "tuple", "len", "str", "int", "bool", "all"] : List Str).all (glB (defScope sStepLike)) = true := by decide +kernel
def rStepLike : List Sl → DOut → Prop := fun as o => ∃ s : LW.Step, as = [.sh (qS s), .sh (qS s)] ∧ StepOk s ∧ o = .val (.bool true)
theorem okStepLike {f : Addr} {fd : FuncData} (F : Fun K "_law_step_like" "_law_step_like" sStepLike f fd) (T : TxK mg) : FnOk P w K mg base (L2N.CX P w) 1 f fd ["_law_found", "_law_due_here"] (spD K 2 rStepLike) := by
  refine fnD F scStepLike (by decide) fun cdv A outer s H E as o hr hl hR => ?_
  obtain ⟨d, rfl, hd, rfl⟩ := hR
  have hc : (cxOf (L2N.CX P w) P w K mg base nStepLike "_law_step_like" (defScope sStepLike) f cdv A outer s H E).calm = true := rfl
  have hsd := shaped_s hd
  have hev := eqv_s hd
  have hzs : (tailS d).length ≤ 1 := by
    unfold tailS
    cases d.l with
    | none => exact Nat.zero_le _
    | some _ => exact Nat.le_refl _
  rw [qS_tup d] at *
  generalize tailS d = zs at *
  refine sds_cons (sd_if (et_w (ew_or (k := !true) (et_not (et_val (ed_kind (d := .tuple (.str d.w :: .int (d.k : Nat) :: zs.map .str)) (t := "tuple") (k := true) (ed_v loStepLike 0) (show kitB "tuple" "tuple" = some true by decide +kernel) (gl_of glStepLike 0) T.isi (gl_of glStepLike 1) T.tuple (by decide +kernel)))) (fun _ => (ew_or (k := false) (ET.to (et_c cd_neI (ed_lenT (ed_v loStepLike 0) (gl_of glStepLike 2) T.len) (ed_lenT (ed_v loStepLike 1) (gl_of glStepLike 2) T.len)) (by simp)) (fun _ => (ew_or1 (k := !true) (et_not (et_val (ed_kind (d := .str d.w) (t := "str") (k := true) (ed_ixT (ed_v loStepLike 0) ed_int (atI_nat (j := 0) rfl)) (show kitB "str" "str" = some true by decide +kernel) (gl_of glStepLike 0) T.isi (gl_of glStepLike 3) T.str (by decide +kernel)))))))))) (fun hb => by cases hb) (fun hb => ?_))
  refine sds_nil ?_
  refine sds_cons (sd_if (et_w (ew_or (k := !true) (et_not (et_val (ed_kind (d := .int (d.k : Nat)) (t := "int") (k := true) (ed_ixT (ds := _ :: .int (d.k : Nat) :: _) (ed_v loStepLike 0) ed_int (atI_nat (j := 1) rfl)) (show kitB "int" "int" = some true by decide +kernel) (gl_of glStepLike 0) T.isi (gl_of glStepLike 4) T.int (by decide +kernel)))) (fun _ => (ew_or1 (k := false) (et_val (ed_kind (d := .int (d.k : Nat)) (t := "bool") (k := false) (ed_ixT (ds := _ :: .int (d.k : Nat) :: _) (ed_v loStepLike 0) ed_int (atI_nat (j := 1) rfl)) (show kitB "int" "bool" = some false by decide +kernel) (gl_of glStepLike 0) T.isi (gl_of glStepLike 5) T.bool (by decide +kernel))))))) (fun hb => by cases hb) (fun hb => ?_))
  refine sds_nil ?_
  exact sds_one (sd_ret (ed_and (k := true) (l := true) (ED.to (ed_all (bs := zs.map fun _ => true) hc (EL.rd (EL.to (el_lcT (j := 2) ⟨hc, ndStepLike, blkOk_by (N := nStepLike) (sc := defScope sStepLike) (by decide +kernel), by decide, rfl, rfl, by intro _; rfl⟩ zs PyData.str (fun _ => true) (fun _ => .bool true) (ED.to (ed_cutT (l := some 2) (u := none) (ed_v loStepLike 0) ed_int trivial (cut2_ok _ _ _)) (by rw [cut2_eq])) (by omega) (fun x hx s H C cl fp => rfl) (fun x hx _ s H C cl fp => (ed_kind (d := .str x) (t := "str") (k := true) (ed_b 2) (show kitB "str" "str" = some true by decide +kernel) gl_b T.isi gl_b T.str (by decide +kernel)))) (by rw [lc_all, List.map_map]; rfl))) (gl_of glStepLike 6) T.all) (by rw [List.all_map]; congr 1; rw [List.all_eq_true]; intro _ _; rfl)) (fun _ => (ed_one (ED.to (ed_c (cd_eqD hr.units hsd hsd) (ed_v loStepLike 0) (ed_v loStepLike 1)) (by rw [hev]))))) rfl)
end
end N14

set_option maxHeartbeats 4000000
/-! {k: v for target in a list}, the keys marks. -/
namespace PD
open PySem PySem.Spec PyProof.Rows L2
variable [PD.TabC]
/-- a mark's place in a dict is written -/
theorem d_setT {X : Cx} {pins : List (Addr × Obj)} {σ : L2.St} {H : Hp} {s : Shared} {A : Around} {E : Value → Shared → Prop} {D b : Addr} {kvs : List (List Key × V)} {k : List Key} {v : V} {u r : Value} {Q : Unit → Shared → Prop} (hu : A.units + 1 < cLine) (I : Inv X pins σ H s)
    (hD : H D = some (.dT kvs)) (hb : H b = some (.tup (k.map kV))) (hz : kvs.length < sizeLine) (ru : RelV (.ref b) u) (rv : RelV v r) (q : ∀ s', Inv X pins σ (upd H D (.dT (putK kvs k v))) s' → Q () s') : wpAny (model X.prog X.w) A (dictSet D u r) Q E s := by
  cases (show u = Value.ref b from ru)
  obtain ⟨_, ns, xs, rel, dd⟩ := dt_of I.hok hD
  have small : xs.length ≤ sizeLine := Paired.length rel ▸ Nat.le_of_lt hz
  have grown := length_putK kvs k v
  refine wpAny_dictSet_heap (hsz := small) (show A.units < cLine from by omega) (key_of I.hok hb) dd fun h' made same => q _ ?_
  obtain ⟨o, es, ep, at_, m2, m3, m4, _, m5⟩ := made
  have rel' : KT (upd H D (.dT (putK kvs k v))) (putK kvs k v) (storedH xs k b r) := (rel.put k hb rv).keeps fun c ys ec => (upd_ne (ne_of ec hD fun z => nomatch z)).trans ec
  exact d_write I (by rw [hD]; trivial) same ⟨o, at_⟩ ⟨by omega, ns, _, rel', o, es, ep, at_, m2, m3, m4, m5⟩
section
variable {X : Cx} {kx vx tg iter : Expr} {ifs : List Expr} {scope : Scope} {own : List (Str × Nat)} {pos : Pos} {wi : TI} {g : TG} {tt : TT} {tk tv : TE}
def tDcM (wi : TI) (g : TG) (tt : TT) (tk tv : TE) (vs : List Nat) : TE := fun σ H Q => wi σ H fun J H1 => ∀ D, H1 D = none →
  ∃ Wn : Nat → Nat → Hp → Prop, (∃ m, Wn 0 m (upd H1 D (.dT []))) ∧ ∀ i m H2, Wn i m H2 → (J.stop i H2 ∧ Q (.ref D) H2) ∨
    (J.go i H2 ∧ ∃ Nx : Hp → Prop, (∀ H', Nx H' → ∃ m', m' < m ∧ Wn (i + 1) m' H') ∧ ∀ x H', J.yld i H2 x H' → g x (wipe σ vs) H' fun σ2 H3 => wipe σ2 vs = wipe σ vs ∧ tt σ2 H3 fun c H4 =>
      if c = true then tk σ2 H4 fun y H5 => tv σ2 H5 fun z H6 => ∃ kvs k b, y = V.ref b ∧ H6 b = some (.tup (List.map kV k)) ∧ H6 D = some (.dT kvs) ∧ kvs.length < sizeLine ∧ Nx (upd H6 D (.dT (putK kvs k z))) else Nx H4)
theorem walk_dcM {pins : List (Addr × Obj)} {s : Shared} {σ : L2.St} {H : Hp} {Q : VK} {at1 : Pos} {use : Option (Value → Sem Unit)} {Qf : Value → Shared → Prop} (hu : X.A.units + 1 < cLine) (hc : X.calm = true) (hN : X.N.Nodup) (hi : PI X tg iter wi) (ok : BlkOk X.N X.env.scope scope own)
    (hg : ∀ (s : Shared) (H : Hp) (C : Addr) (cl : List (Str × Addr)) (fp : List Addr), PG (X.blk s H scope (compEnvC scope cl C X.env) fp) tg g) (ht : ∀ (s : Shared) (H : Hp) (C : Addr) (cl : List (Str × Addr)) (fp : List Addr), PTs (X.blk s H scope (compEnvC scope cl C X.env) fp) ifs tt)
    (hk : ∀ (s : Shared) (H : Hp) (C : Addr) (cl : List (Str × Addr)) (fp : List Addr), PE (X.blk s H scope (compEnvC scope cl C X.env) fp) kx tk) (hv : ∀ (s : Shared) (H : Hp) (C : Addr) (cl : List (Str × Addr)) (fp : List Addr), PE (X.blk s H scope (compEnvC scope cl C X.env) fp) vx tv)
    (hs : ∀ x, foldedSetIterable iter X.env x = pure x) (I : Inv X pins σ H s) (h : tDcM wi g tt tk tv (own.map (·.2)) σ H Q)
    (fin : ∀ D C s' m H', Inv X pins σ H' s' → Q (.ref D) H' → s'.heap.Ns C m → FpOk X pins H' C → compPost (model X.prog X.w) X.A X.xe use Qf (.ref D) C (.ok .next) s') :
    wpAny (model X.prog X.w) X.A (comprehension (.DictComp kx vx [⟨tg, iter, ifs, 0⟩] scope pos) scope X.env at1 newDict false (eval iter X.env) use) Qf X.xe s := by
  have clo : ∀ y ∈ scope.names, y.2 = .free → ∃ c, X.env.cells.lookup y.1 = some c := fun y hy e => (ok.free y hy e).elim (fun k => I.ok.has _ (.inl k)) fun k => I.ok.has _ (.inr k)
  refine wpAny_comprehension_free (use := use) rfl hs (closure_ok clo) ok.kind (fun y hy e => by rw [ok.uniq y hy, e]) (thn (hi.run pins s σ H _ I h) fun xv s1 q1 => thn q1 fun itv s2 q2 => ?_)
  obtain ⟨it, fp, tn, J, H2, rfl, I2, T, st2, f2, q⟩ := q2
  refine wpAny_newObj_type (newEnv_comp ?_)
  generalize hD : s2.heap.objs.size = D
  have Dn : H2 D = none := I2.hok.fresh (Nat.le_of_eq hD)
  obtain ⟨Wn, ⟨m0, w0⟩, turn⟩ := q D Dn
  generalize hs3 : ({ s2 with heap := s2.heap.push { cls := .type "dict", data := .dict #[] } } : Shared) = s3
  have heap3 : s3.heap = s2.heap.push { cls := .type "dict", data := .dict #[] } := by rw [← hs3]
  have I3 : Inv X pins σ (upd H2 D (.dT [])) s3 := by
    rw [← hs3]
    refine I2.laid (t' := s2.toks) (fun b o e => Heap.get?_push_of_some _ e) (Nat.le_of_eq hD) ?_
    rw [← hD]; exact dt_empty s2.heap I2.big
  have below : ∀ b ∈ fp, b < s2.heap.objs.size := fun b hb => let ⟨_, e, _⟩ := T.obj _ _ st2 b hb; Heap.lt_size e
  have walk : ∀ b ∈ fp, FpOk X pins (upd H2 D (.dT [])) b ∧ b < s3.heap.objs.size := fun b hb => by
    have lt := below b hb
    have z := f2 b hb
    refine ⟨⟨(upd_ne (by rw [← hD]; exact Nat.ne_of_lt lt)).trans z.1, z.2⟩, ?_⟩
    rw [heap3, Heap.size_push]
    exact Nat.lt_succ_of_lt lt
  have st3 : tn 0 s3.heap := T.keep _ _ _ st2 fun b _ o e => by rw [heap3]; exact Heap.get?_push_of_some _ e
  have I4 := block_start I3 ok hN walk
  have pg := hg s3 (upd H2 D (.dT [])) s3.heap.objs.size (cellsFrom (s3.heap.objs.size + 1) scope.names (cloFrom X.env.cells scope.names [])) fp
  have pt := ht s3 (upd H2 D (.dT [])) s3.heap.objs.size (cellsFrom (s3.heap.objs.size + 1) scope.names (cloFrom X.env.cells scope.names [])) fp
  have pk := hk s3 (upd H2 D (.dT [])) s3.heap.objs.size (cellsFrom (s3.heap.objs.size + 1) scope.names (cloFrom X.env.cells scope.names [])) fp
  have pv := hv s3 (upd H2 D (.dT [])) s3.heap.objs.size (cellsFrom (s3.heap.objs.size + 1) scope.names (cloFrom X.env.cells scope.names [])) fp
  show codeAny _ _ (.compStart (.DictComp kx vx [⟨tg, iter, ifs, 0⟩] scope pos) 0 (.ref it) (.ref D) (compEnvC scope (cellsFrom (s3.heap.objs.size + 1) scope.names (cloFrom X.env.cells scope.names [])) s3.heap.objs.size X.env))
    (compPost (model X.prog X.w) X.A X.xe use Qf (.ref D) s3.heap.objs.size) { s3 with heap := pushCells (s3.heap.push { cls := .type "dict", data := .dict #[] }) scope.names }
  generalize hce : compEnvC scope (cellsFrom (s3.heap.objs.size + 1) scope.names (cloFrom X.env.cells scope.names [])) s3.heap.objs.size X.env = ce at I4 pg pt pk pv ⊢
  have ceL : ce.locals = s3.heap.objs.size := by subst hce; rfl
  generalize hH3 : upd H2 D (.dT []) = H3 at I3 I4 pg pt pk pv w0 walk
  generalize hs4 : ({ s3 with heap := pushCells (s3.heap.push { cls := .type "dict", data := .dict #[] }) scope.names } : Shared) = s4 at I4 ⊢
  have st4 : tn 0 s4.heap := T.keep _ _ _ st3 fun b _ o e => by rw [← hs4]; exact pushCells_keeps _ _ _ _ (Heap.get?_push_of_some _ e)
  have free4 : ∀ b ∈ fp, H3 b = none := fun b hb => (walk b hb).1.1
  have still : ∀ {σ' : L2.St} {H' : Hp} {s' : Shared}, Inv (X.blk s3 H3 scope ce fp) [] σ' H' s' → (∀ b ∈ fp, H' b = none) → ∀ b ∈ fp, FpOk (X.blk s3 H3 scope ce fp) [] H' b := fun {σ' H' s'} I' n b hb =>
    have ox := I'.ok
    ⟨n b hb, (ox.exf b hb).1, ox.exfs b hb, .inl hb, fun x c e => (ox.exf b hb).2 x c e, fun p hp => (by simp at hp)⟩
  let Lp : Nat → Shared → Prop := fun n s' => ∃ i H', Inv (X.blk s3 H3 scope ce fp) [] (wipe σ (own.map (·.2))) H' s' ∧ tn i s'.heap ∧ (∀ b ∈ fp, H' b = none) ∧ Wn i n H'
  have loop : codeAny (model X.prog X.w) X.A (.compLoop (.DictComp kx vx [⟨tg, iter, ifs, 0⟩] scope pos) 0 (.ref it) (.ref D) ce) (compPost (model X.prog X.w) X.A X.xe use Qf (.ref D) s3.heap.objs.size) s4 := by
    refine compLoop_anyD Lp ?_ m0 ⟨0, H3, I4, st4, free4, w0⟩
    rintro n s5 ⟨i, H5, I5, st5, n5, w5⟩
    rcases turn i n H5 w5 with ⟨stop, last⟩ | ⟨go, Nx, next, step⟩
    · refine thnF (T.done (X.blk s3 H3 scope ce fp) rfl rfl rfl hc i [] s5 _ H5 (fun _ _ => False) I5 (still I5 n5) st5 stop) fun r s6 ⟨hr, I6⟩ => ?_
      subst hr
      have I7 : Inv X pins σ H5 s6 := I3.call' (ch := fp) I6.os I6.base I6.hok I6.bare fun b hb => let z := (walk b hb).1; ⟨z.2.2.2.1, z.2.1, z.2.2.2.2.1, z.2.2.2.2.2⟩
      have fC : FpOk X pins H5 ce.locals := I3.fpOk (Nat.le_of_eq ceL.symm) I6.free
      obtain ⟨m, hn, _⟩ := I6.loc
      have hn : s6.heap.Ns ce.locals m := hn
      rw [ceL] at hn fC
      exact fin D s3.heap.objs.size s6 m H5 I7 last hn fC
    · refine thnF (T.item (X.blk s3 H3 scope ce fp) rfl rfl rfl hc i [] s5 _ H5 (fun _ _ => False) I5 (still I5 n5) st5 go) fun r s6 ⟨u, hr, q6⟩ => ?_
      subst hr
      refine thnF q6 fun _ s7 ⟨x, H7, I7, r7, y7, st7, n7⟩ => ?_
      have P7 := I7.pinned (still I7 n7) (T.obj _ _ st7)
      refine thnF (pg.run _ s7 _ H7 x u _ P7 r7 (step x H7 y7)) fun _ s8 ⟨σ8, H8, I8, wiped, q8⟩ => ?_
      refine thnF (pt.run _ s8 σ8 H8 _ I8 q8) fun b s9 ⟨H9, I9, q9⟩ => ?_
      have over : ∀ {s' : Shared} {H' : Hp}, Inv (X.blk s3 H3 scope ce fp) ([] ++ pinsAt fp s7.heap) σ8 H' s' → Nx H' → ∃ m, m < n ∧ Lp m s' := fun {s' H'} I' nx => by
        obtain ⟨m', lt, w'⟩ := next H' nx
        have pinned : ∀ b ∈ fp, ∀ o, s7.heap.get? b = some o → s'.heap.get? b = some o ∧ H' b = none := fun b hb o e =>
          have z := I'.pin (b, o) (List.mem_append_right _ (List.mem_append_right _ (mem_pinsAt hb e)))
          ⟨z.1, z.2.1⟩
        have len8 : (wipe σ (own.map (·.2))).length = σ8.length := by rw [← wiped, wipe_length]
        refine ⟨m', lt, i + 1, H', (I'.unpinned (pins := [])).weak len8 (fun j v e => ?_), T.keep _ _ _ st7 fun b hb o e => (pinned b hb o e).1, fun b hb => ?_, w'⟩
        · rw [← wiped] at e
          exact (wipe_some e).1
        · obtain ⟨o, e, _⟩ := T.obj _ _ st7 b hb
          exact (pinned b hb o e).2
      cases b with
      | false =>
        simp only [Bool.false_eq_true, if_false] at q9 ⊢
        exact over I9 q9
      | true =>
        simp only [if_true] at q9 ⊢
        refine thnF (pk.run _ s9 σ8 H9 _ I9 q9) fun z s10 ⟨yk, H10, I10, r10, q10⟩ => ?_
        refine thnF (pv.run _ s10 σ8 H10 _ I10 q10) fun z2 s11 ⟨yv, H11, I11, r11, kvs, k, bk, ek, hbk, hD11, hz11, nx⟩ => ?_
        subst ek
        exact d_setT (X := X.blk s3 H3 scope ce fp) hu I11 hD11 hbk hz11 r10 r11 fun s12 I12 => over I12 nx
  exact codeAny_compStart_dict loop (T.self X.A 0 _ _ _ st4 loop)
theorem pe_dcM (hu : X.A.units + 1 < cLine) (hc : X.calm = true) (hN : X.N.Nodup) (hi : PI X tg iter wi) (ok : BlkOk X.N X.env.scope scope own)
    (hg : ∀ (s : Shared) (H : Hp) (C : Addr) (cl : List (Str × Addr)) (fp : List Addr), PG (X.blk s H scope (compEnvC scope cl C X.env) fp) tg g) (ht : ∀ (s : Shared) (H : Hp) (C : Addr) (cl : List (Str × Addr)) (fp : List Addr), PTs (X.blk s H scope (compEnvC scope cl C X.env) fp) ifs tt)
    (hk : ∀ (s : Shared) (H : Hp) (C : Addr) (cl : List (Str × Addr)) (fp : List Addr), PE (X.blk s H scope (compEnvC scope cl C X.env) fp) kx tk) (hv : ∀ (s : Shared) (H : Hp) (C : Addr) (cl : List (Str × Addr)) (fp : List Addr), PE (X.blk s H scope (compEnvC scope cl C X.env) fp) vx tv)
    (hs : ∀ x, foldedSetIterable iter X.env x = pure x := by intro _; rfl) : PE X (.DictComp kx vx [⟨tg, iter, ifs, 0⟩] scope pos) (tDcM wi g tt tk tv (own.map (·.2))) := by
  refine ⟨fun pins s σ H Q I h => ?_⟩
  rw [arm_eval_DictComp]
  exact walk_dcM hu hc hN hi ok hg ht hk hv hs I h fun D C s' m H' I' q hn ⟨c0, c1, c2, c3, c4, c5⟩ => ⟨m, hn, fun h'' sb => ⟨.ref D, H', I'.turned (t' := s'.toks) (fun b o hb e => (sb.2 b hb).trans e) c0 c1 c3 c4 c5, rfl, q⟩⟩
/-- y = {..}, the block's names the def's own -/
theorem ps_setDcM {i : Nat} {y : Str} {py spos : Pos} (hu : X.A.units + 1 < cLine) (hc : X.calm = true) (hN : X.N.Nodup) (hy : X.N[i]? = some y) (hyl : X.env.scope.names.lookup y = some .local) (hsw : swapsWith (.DictComp kx vx [⟨tg, iter, ifs, 0⟩] scope pos) (some (.Name y py)) spos.line X.env = pure true) (hi : PI X tg iter wi) (ok : BlkOk X.N X.env.scope scope own)
    (hg : ∀ (s : Shared) (H : Hp) (C : Addr) (cl : List (Str × Addr)) (fp : List Addr), PG (X.blk s H scope (compEnvC scope cl C X.env) fp) tg g) (ht : ∀ (s : Shared) (H : Hp) (C : Addr) (cl : List (Str × Addr)) (fp : List Addr), PTs (X.blk s H scope (compEnvC scope cl C X.env) fp) ifs tt)
    (hk : ∀ (s : Shared) (H : Hp) (C : Addr) (cl : List (Str × Addr)) (fp : List Addr), PE (X.blk s H scope (compEnvC scope cl C X.env) fp) kx tk) (hv : ∀ (s : Shared) (H : Hp) (C : Addr) (cl : List (Str × Addr)) (fp : List Addr), PE (X.blk s H scope (compEnvC scope cl C X.env) fp) vx tv)
    (hs : ∀ x, foldedSetIterable iter X.env x = pure x := by intro _; rfl) : PS X (.Assign [.Name y py] (.DictComp kx vx [⟨tg, iter, ifs, 0⟩] scope pos) spos) (tAsg (tDcM wi g tt tk tv (own.map (·.2))) (gName i)) := by
  refine ⟨fun pins s σ H D I h => ?_⟩
  rw [exec_Assign_Name_used _ _ _ _ hsw]
  refine wpAny_bind (wpAny_standAt (wpAny_bind ?_))
  have h1 : tDcM wi g tt tk tv (own.map (·.2)) σ H (fun x H1 => gName i x σ H1 D.nx) := h
  show wpAny _ X.A (do let _ ← comprehension (.DictComp kx vx [⟨tg, iter, ifs, 0⟩] scope pos) scope X.env (firstIterPos [⟨tg, iter, ifs, 0⟩] pos) newDict false (eval iter X.env) (some (assign (.Name y py) X.env))) _ _ s
  refine wpAny_bind (thn (walk_dcM (Qf := fun _ s2 => SP X pins D .next s2) hu hc hN hi ok hg ht hk hv hs I h1 fun L C s2 m H2 I2 q hn ⟨c0, c1, c2, c3, c4, c5⟩ => ?_) fun _ s2 q => wpAny_pure (wpAny_pure q))
  show wpAny _ _ (assign (.Name y py) X.env (.ref L)) _ _ _
  refine wpAny_assign_Name (store_ok2 (v := V.ref L) I2 hN hy (.inl hyl) rfl (fun s3 I3 ⟨a, sb, ha⟩ => ?_) (.inr hyl))
  have ne : C ≠ a := ha.elim (fun z => by rw [z]; exact c1) fun z e => c4 y a z e.symm
  exact ⟨m, hn.sameBut sb ne, fun h3 sb3 => ⟨_, H2, I3.turned (t' := s3.toks) (fun b o hb e => (sb3.2 b hb).trans e) c0 c1 c3 c4 c5, q⟩⟩
end
end PD

set_option maxHeartbeats 4000000
/-! {k: v for n1, n2 in a list of pairs}, the keys marks: a dict of one's own. -/
namespace PD
open PySem PySem.Spec PyProof.Rows L2
variable [PD.TabC]
/-- a dict by marks of one's own -/
def mdP (K : PySem.W.Frag) (kvs : List (Mark × PyData)) : OP := fun v fp F H => ∃ l vs, v = .ref l ∧ fp = [l] ∧ H l = some (.dT vs) ∧ KmIs K F vs kvs
/-- the dict as it grows -/
def CmM (K : PySem.W.Frag) (F1 H1 : Hp) (D : Addr) (kvs : List (Mark × PyData)) (H : Hp) : Prop := ∃ F vs, Ext F1 H1 F H ∧ F D = none ∧ H D = some (.dT vs) ∧ KmIs K F vs kvs
def mkvs {α : Type} (km : α → Mark) (vd : α → PyData) (xs : List α) : List (Mark × PyData) := xs.foldl (fun kvs x => putM kvs (km x) (vd x)) []
theorem mkvs_snoc {α : Type} {km : α → Mark} {vd : α → PyData} {xs : List α} {i : Nat} {x : α} (h : xs[i]? = some x) : mkvs km vd (xs.take (i + 1)) = putM (mkvs km vd (xs.take i)) (km x) (vd x) := by
  unfold mkvs
  rw [List.take_add_one, h, List.foldl_append]; rfl
theorem putM_len' {kvs : List (Mark × PyData)} {k : Mark} {d : PyData} : (putM kvs k d).length ≤ kvs.length + 1 := by
  unfold putM
  split
  · rw [List.length_map]; omega
  · rw [List.length_append]; exact Nat.le_refl _
theorem mkvs_len {α : Type} {km : α → Mark} {vd : α → PyData} {xs : List α} : ∀ i, i ≤ xs.length → (mkvs km vd (xs.take i)).length ≤ i
  | 0, _ => Nat.le_refl _
  | i + 1, h => by
    rw [mkvs_snoc (List.getElem?_eq_getElem (show i < xs.length by omega))]
    have := mkvs_len (km := km) (vd := vd) (xs := xs) i (by omega)
    exact Nat.le_trans putM_len' (by omega)
section
variable {X : Cx} {W : WX} {ex : Addr → Prop} {iter kx vx : Expr} {ρ : List Sl} {pos p3 p4 tpos : Pos} {scope : Scope} {n1 n2 : Str} {j1 j2 kk : Nat}
theorem dcM_over {α : Type} (hu : X.A.units + 1 < cLine) (L : LcOk2 X scope n1 j1 n2 j2 iter) (xs : List α) (q1 q2 : α → PyData) (km : α → Mark) (vd : α → PyData) (h : EP' X W ex iter ρ (xs.map fun x => .tuple [q1 x, q2 x])) (hz : xs.length ≤ 50000)
    (hK : ∀ x ∈ xs, Blk X scope fun Y => ED Y noW noX kx ((((ρ.set j2 .un).set j1 .un).set j1 (.sh (q1 x))).set j2 (.sh (q2 x))) (mkD (km x)))
    (hV : ∀ x ∈ xs, Blk X scope fun Y => ED Y noW noX vx ((((ρ.set j2 .un).set j1 .un).set j1 (.sh (q1 x))).set j2 (.sh (q2 x))) (vd x))
    {B F H : Hp} {σ : L2.St} (E : En X.K B F H σ ρ) (c : Xc W ex F H σ) {Q : VK} (k : ∀ r vs F' H', Ext F H F' H' → H r = none → F' r = none → H' r = some (.dT vs) → KmIs X.K F' vs (mkvs km vd xs) → Q (.ref r) H') :
    tDcM (iList X.K (WE X iter)) (gTup X.K 2 (gCons (gName j1) (gCons (gName j2) gNil))) tYes (WEB X scope kx) (WEB X scope vx) [j1, j2] σ H Q := by
  refine h B F H σ _ E c fun r vs F1 H1 x1 hr i1 => ?_
  have E1 := E.ext x1
  have hsq : ∀ H', Ex H1 H' → SqL X.K H' r vs := fun H' y => by
    rcases hr with hr | hr
    · exact (E1.b.trans y).sql hr
    · exact (x1.i.trans y).sql hr
  have hvl : vs.length = xs.length := by rw [i1.len, List.length_map]
  refine ⟨r, rfl, ⟨vs, hsq H1 (Ex.refl H1)⟩, fun D hD => ⟨fun i m H' => m = xs.length - i ∧ i ≤ xs.length ∧ CmM X.K F1 H1 D (mkvs km vd (xs.take i)) H', ⟨_, rfl, Nat.zero_le _, F1, [], Ext.kept x1.i hD, x1.i.back hD, upd_same, .nil⟩, ?_⟩⟩
  rintro i m H' ⟨rfl, him, F', kv, y, f0, hh, ia⟩
  have qa := hsq H' y.h
  by_cases hi : i < xs.length
  · have hx : xs[i]? = some xs[i] := List.getElem?_eq_getElem hi
    have hm : xs[i] ∈ xs := List.getElem_mem hi
    obtain ⟨v, hv, iv⟩ := i1.get (show (xs.map fun x => PyData.tuple [q1 x, q2 x])[i]? = some (.tuple [q1 xs[i], q2 xs[i]]) by rw [List.getElem?_map, hx]; rfl)
    have hln := mkvs_len (km := km) (vd := vd) (xs := xs) i him
    generalize xs[i] = x at hx hm iv
    refine .inr ⟨⟨vs, v, qa, hv⟩, fun H4 => CmM X.K F1 H1 D (mkvs km vd (xs.take (i + 1))) H4, fun H4 q => ⟨xs.length - (i + 1), by omega, rfl, by omega, q⟩, ?_⟩
    rintro v' H3 ⟨rfl, fa⟩
    have ev : v' = v := Option.some.inj ((fa vs qa).symm.trans hv)
    subst ev
    cases iv with
    | tup ht ja =>
    cases ja with
    | cons a1 ja =>
    cases ja with
    | cons a2 ja =>
    cases ja
    rename_i t u1 u2
    refine ⟨t, _, rfl, SqT.of (y.i.g (y.f.g ht)), rfl, u1, _, rfl, u2, _, rfl, rfl, wipe2 L.ne, ?_⟩
    dsimp only [tYes]
    rw [if_pos rfl]
    intro s3 H0 C cl fp
    have En4 : ∀ {F4 H4 : Hp}, Ext F1 H1 F4 H4 → En X.K B F4 H4 (((wipe σ [j1, j2]).set j1 (some u1)).set j2 (some u2)) ((((ρ.set j2 .un).set j1 .un).set j1 (.sh (q1 x))).set j2 (.sh (q2 x))) := fun {F4 H4} x4 => ((((E1.ext x4).wipe j2).wipe j1).set (s := .sh (q1 x)) (a1.mono x4.f) rfl).set (s := .sh (q2 x)) (a2.mono x4.f) rfl
    refine hK x hm s3 H0 C cl fp B F' H3 _ _ (En4 y) xcN fun kv' F5 H5 x5 i5 => ?_
    intro s3 H0 C cl fp
    refine hV x hm s3 H0 C cl fp B F5 H5 _ _ (En4 (y.trans x5)) xcN fun vv F6 H6 x6 i6 => ?_
    obtain ⟨bk, rfl, hbk⟩ := i5.mark
    have x56 := x5.trans x6
    have nD : H3 D ≠ none := by rw [hh]; exact fun q => nomatch q
    have f6 : F6 D = none := (x56.n D nD).trans f0
    have h6 := x56.h.g hh
    have y6 := y.trans x56
    refine ⟨kv, kM (km x), bk, rfl, x6.i.g (x6.f.g hbk), h6, by rw [ia.len]; exact Nat.lt_of_le_of_lt hln (Nat.lt_of_lt_of_le (show i < 100000 by omega) (by decide)), F6, _, ⟨y6.f, y6.h.mut hD, y6.i.mut f6, y6.n, y6.t.mut h6⟩, f6, upd_same, ?_⟩
    rw [mkvs_snoc hx]
    exact (ia.mono x56.f).put (km x) i6
  · have ei : i = xs.length := by omega
    refine .inl ⟨⟨vs, qa, by omega⟩, ?_⟩
    rw [ei, List.take_length] at ia
    exact k D kv F' H' (x1.trans y) (x1.h.back hD) f0 hh ia
theorem eo_dcM {α : Type} (hu : X.A.units + 1 < cLine) (L : LcOk2 X scope n1 j1 n2 j2 iter) (xs : List α) (q1 q2 : α → PyData) (km : α → Mark) (vd : α → PyData) (h : EP' X W ex iter ρ (xs.map fun x => .tuple [q1 x, q2 x])) (hz : xs.length ≤ 50000)
    (hK : ∀ x ∈ xs, Blk X scope fun Y => ED Y noW noX kx ((((ρ.set j2 .un).set j1 .un).set j1 (.sh (q1 x))).set j2 (.sh (q2 x))) (mkD (km x)))
    (hV : ∀ x ∈ xs, Blk X scope fun Y => ED Y noW noX vx ((((ρ.set j2 .un).set j1 .un).set j1 (.sh (q1 x))).set j2 (.sh (q2 x))) (vd x))
    (tg : ∀ (s : Shared) (H : Hp) (C : Addr) (cl : List (Str × Addr)) (fp : List Addr), PG (X.blk s H scope (compEnvC scope cl C X.env) fp) (.Tuple [.Name n1 p3, .Name n2 p4] kk tpos) (gTup X.K 2 (gCons (gName j1) (gCons (gName j2) gNil)))) :
    EOw X W ex (.DictComp kx vx [⟨.Tuple [.Name n1 p3, .Name n2 p4] kk tpos, iter, [], 0⟩] scope pos) ρ (mdP X.K (mkvs km vd xs)) := fun B F H σ Q E c k =>
  w_e (pe_dcM (own := [(n1, j1), (n2, j2)]) hu L.calm L.nd (pi_list pe_w) L.blk tg (fun _ _ _ _ _ => pts_nil) (fun _ _ _ _ _ => pe_wb) (fun _ _ _ _ _ => pe_wb) L.fset)
    (dcM_over hu L xs q1 q2 km vd h hz hK hV E c fun r vs F1 H1 x1 h0 f0 h1 kv => k (.ref r) [r] F1 H1 x1 (fun a ha => by
      rw [List.mem_singleton.mp ha]
      exact ⟨h0, f0, .of h1⟩) ⟨r, vs, rfl, rfl, h1, kv⟩)
/-- y = {..}, the block's names the def's own -/
theorem sd_dcM {T : De} {y : Str} {i : Nat} {py spos : Pos} {α : Type} (hu : X.A.units + 1 < cLine) (L : LcOk2 X scope n1 j1 n2 j2 iter) (xs : List α) (q1 q2 : α → PyData) (km : α → Mark) (vd : α → PyData) (h : EP' X W (fun C => T.ex C ρ) iter ρ (xs.map fun x => .tuple [q1 x, q2 x])) (hz : xs.length ≤ 50000)
    (hK : ∀ x ∈ xs, Blk X scope fun Y => ED Y noW noX kx ((((ρ.set j2 .un).set j1 .un).set j1 (.sh (q1 x))).set j2 (.sh (q2 x))) (mkD (km x)))
    (hV : ∀ x ∈ xs, Blk X scope fun Y => ED Y noW noX vx ((((ρ.set j2 .un).set j1 .un).set j1 (.sh (q1 x))).set j2 (.sh (q2 x))) (vd x))
    (tg : ∀ (s : Shared) (H : Hp) (C : Addr) (cl : List (Str × Addr)) (fp : List Addr), PG (X.blk s H scope (compEnvC scope cl C X.env) fp) (.Tuple [.Name n1 p3, .Name n2 p4] kk tpos) (gTup X.K 2 (gCons (gName j1) (gCons (gName j2) gNil))))
    (hy : X.N[i]? = some y) (hyl : X.env.scope.names.lookup y = some .local) (hsw : swapsWith (.DictComp kx vx [⟨.Tuple [.Name n1 p3, .Name n2 p4] kk tpos, iter, [], 0⟩] scope pos) (some (.Name y py)) spos.line X.env = pure true) (q : ∀ r, T.nx (ρ.set i (om X.K r (mkvs km vd xs)))) :
    SD X W (.Assign [.Name y py] (.DictComp kx vx [⟨.Tuple [.Name n1 p3, .Name n2 p4] kk tpos, iter, [], 0⟩] scope pos) spos) ρ T := fun F0 H0 F H σ D s l =>
  w_s (ps_setDcM (own := [(n1, j1), (n2, j2)]) hu L.calm L.nd hy hyl hsw (pi_list pe_w) L.blk tg (fun _ _ _ _ _ => pts_nil) (fun _ _ _ _ _ => pe_wb) (fun _ _ _ _ _ => pe_wb) L.fset)
    (dcM_over (Q := fun v H' => D.nx (σ.set i (some v)) H') hu L xs q1 q2 km vd h hz hK hV s.e (l.xc s) fun r vs F1 H1 x1 h0 f0 h1 kv => l.nx _ _ F1 H1 (q r) ⟨s.x.trans x1, (s.e.ext x1).set_ (o := some (.ref r)) (om_ok f0 (s.e.b.back h0) h1 kv) fun j t b ej hb ht => by
      obtain ⟨o, _, h2⟩ := s.e.s j _ ej
      rw [List.mem_singleton.mp hb] at ht
      exact absurd h0 (h2.held ht).2.2.ne⟩)
end
section
variable {X : Cx} {W : WX} {e : Expr} {ρ : List Sl} {pos p : Pos} {T : De} {n : Str} {i : Nat} {kvs : List (Mark × PyData)}
/-- x = e, a new dict by marks -/
theorem sd_setM (nd : X.N.Nodup) (hN : X.N[i]? = some n) (hl : Loc X.env.scope n) (hfn : X.fn n = true ∨ X.env.scope.names.lookup n = some .local) (h : EOw X W (fun C => T.ex C ρ) e ρ (mdP X.K kvs)) (q : ∀ l, T.nx (ρ.set i (om X.K l kvs)))
    (hw : swapsWith e (some (.Name n p)) pos.line X.env = pure false := by rfl) : SD X W (.Assign [.Name n p] e pos) ρ T := fun F0 H0 F H σ D s lk =>
  w_s (ps_set nd hN hl pe_w hw hfn) (h H0 F H σ _ s.e (lk.xc s) fun v fp F1 H1 x1 n1 ⟨l, vs, ev, ef, hh, kv⟩ => by
    subst ev ef
    have q1 := n1 l (List.mem_singleton.mpr rfl)
    refine lk.nx _ _ F1 H1 (q l) ⟨s.x.trans x1, (s.e.ext x1).set_ (o := some (.ref l)) (om_ok q1.2.1 (s.e.b.back q1.1) hh kv) fun j t b ej hb ht => ?_⟩
    obtain ⟨o, _, h2⟩ := s.e.s j _ ej
    exact absurd (n1 b hb).1 (h2.held ht).2.2.ne)
end
end PD

set_option maxHeartbeats 4000000
/-! [e for i, (a, b) in enumerate(a list of pairs) if c] -/
namespace PD
open PySem PySem.Spec PyProof.Rows L2
variable [PD.TabC]
theorem wipe3 {σ : L2.St} {j k l : Nat} {a b c : Option V} (h1 : j ≠ k) (h2 : j ≠ l) (h3 : k ≠ l) : wipe ((((wipe σ [j, k, l]).set j a).set k b).set l c) [j, k, l] = wipe σ [j, k, l] := by
  show (((((((σ.set l none).set k none).set j none).set j a).set k b).set l c).set l none |>.set k none |>.set j none) = ((σ.set l none).set k none).set j none
  refine List.ext_getElem? fun i => ?_
  simp only [List.getElem?_set, List.length_set]
  by_cases q1 : j = i
  · rw [if_pos q1, if_pos q1]
  · simp only [if_neg q1]
    by_cases q2 : k = i
    · rw [if_pos q2, if_pos q2]
    · simp only [if_neg q2]
      by_cases q3 : l = i
      · rw [if_pos q3, if_pos q3]
      · simp only [if_neg q3]
section
variable {X : Cx} {W : WX} {ex : Addr → Prop} {e elt : Expr} {ifs : List Expr} {ρ : List Sl} {pos p p2 p3 p4 p5 tpos tpos2 : Pos} {scope : Scope} {n0 n1 n2 : Str} {j0 j1 j2 kk kk2 : Nat}
structure LcOk3 (X : Cx) (scope : Scope) (ifs : List Expr) (n0 : Str) (j0 : Nat) (n1 : Str) (j1 : Nat) (n2 : Str) (j2 : Nat) (iter : Expr) : Prop where
  calm : X.calm = true
  nd : X.N.Nodup
  blk : BlkOk X.N X.env.scope scope [(n0, j0), (n1, j1), (n2, j2)]
  one : ifs.length ≤ 1
  e1 : j0 ≠ j1
  e2 : j0 ≠ j2
  e3 : j1 ≠ j2
  fset : ∀ x, foldedSetIterable iter X.env x = pure x
abbrev gE (K : PySem.W.Frag) (j0 j1 j2 : Nat) : TG := gTup K 2 (gCons (gName j0) (gCons (gTup K 2 (gCons (gName j1) (gCons (gName j2) gNil))) gNil))
abbrev ρE (ρ : List Sl) (j0 j1 j2 i : Nat) (a b : PyData) : List Sl := (((((ρ.set j2 .un).set j1 .un).set j0 .un).set j0 (.sh (.int (i : Nat)))).set j1 (.sh a)).set j2 (.sh b)
theorem lcE_over {α : Type} {it : Expr} (L : LcOk3 X scope ifs n0 j0 n1 j1 n2 j2 it) (xs : List α) (q1 q2 : α → PyData) (bt : Nat → Bool) (g : Nat → PyData) (h : EP' X W ex e ρ (xs.map fun x => .tuple [q1 x, q2 x])) (hz : xs.length ≤ 50000)
    (hT : ∀ (i : Nat) x, xs[i]? = some x → Blk X scope fun Y => TsD Y ifs (ρE ρ j0 j1 j2 i (q1 x) (q2 x)) (bt i)) (hG : ∀ (i : Nat) x, xs[i]? = some x → bt i = true → Blk X scope fun Y => ED Y noW noX elt (ρE ρ j0 j1 j2 i (q1 x) (q2 x)) (g i))
    {B F H : Hp} {σ : L2.St} (E : En X.K B F H σ ρ) (c : Xc W ex F H σ) {Q : VK} (k : ∀ r vs F' H', Ext F H F' H' → H r = none → F' r = none → H' r = some (.lst vs) → IsAll X.K F' vs (((List.range xs.length).filter bt).map g) → Q (.ref r) H') :
    tLc (iEnum X.K (tCons (WE X e) tNil)) (gE X.K j0 j1 j2) (WTB X scope ifs) (WEB X scope elt) [j0, j1, j2] σ H Q := by
  refine h B F H σ _ E c fun a vs F1 H1 x1 hr i1 => ?_
  have E1 := E.ext x1
  have hsq : ∀ H', Ex H1 H' → SqL X.K H' a vs := fun H' y => by
    rcases hr with hr | hr
    · exact (E1.b.trans y).sql hr
    · exact (x1.i.trans y).sql hr
  have hvl : vs.length = xs.length := by rw [i1.len, List.length_map]
  refine ⟨a, vs, rfl, hsq H1 (Ex.refl H1), fun D hD => ⟨fun i m H' => m = xs.length - i ∧ i ≤ xs.length ∧ Cm X.K F1 H1 D (((List.range i).filter bt).map g) H', ⟨_, rfl, Nat.zero_le _, F1, [], Ext.kept x1.i hD, x1.i.back hD, upd_same, .nil⟩, ?_⟩⟩
  rintro i m H' ⟨rfl, him, hc⟩
  obtain ⟨F', acc, y, f0, hh, ia⟩ := hc
  have qa := hsq H' y.h
  by_cases hi : i < xs.length
  · have hx : xs[i]? = some xs[i] := List.getElem?_eq_getElem hi
    obtain ⟨v, hv, iv⟩ := i1.get (show (xs.map fun x => PyData.tuple [q1 x, q2 x])[i]? = some (.tuple [q1 xs[i], q2 xs[i]]) by rw [List.getElem?_map, hx]; rfl)
    generalize xs[i] = x at hx iv
    refine .inr ⟨⟨vs, v, qa, hv⟩, fun H4 => Cm X.K F1 H1 D (((List.range (i + 1)).filter bt).map g) H4, fun H4 q => ⟨xs.length - (i + 1), by omega, rfl, by omega, q⟩, ?_⟩
    rintro z H3 ⟨t, v', rfl, nt, rfl, fa⟩
    have ev : v' = v := Option.some.inj ((fa vs qa).symm.trans hv)
    subst ev
    cases iv with
    | tup ht ja =>
    cases ja with
    | cons a1 ja =>
    cases ja with
    | cons a2 ja =>
    cases ja
    rename_i t2 u1 u2
    have x3 : Ext F' H' (upd F' t (.tup [.int (i : Nat), .ref t2])) (upd H' t (.tup [.int (i : Nat), .ref t2])) := Ext.made y.i nt
    have tD : D ≠ t := fun q => by rw [q, nt] at hh; cases hh
    have hc3 : Cm X.K F1 H1 D (((List.range i).filter bt).map g) (upd H' t (.tup [.int (i : Nat), .ref t2])) := ⟨_, acc, y.trans x3, (upd_ne tD).trans f0, (upd_ne tD).trans hh, ia.mono x3.f⟩
    refine ⟨t, _, rfl, SqT.of upd_same, rfl, .int (i : Nat), _, rfl, .ref t2, _, rfl, ⟨t2, _, rfl, SqT.of (x3.h.g (y.i.g (y.f.g ht))), rfl, u1, _, rfl, u2, _, rfl, rfl, rfl, wipe3 L.e1 L.e2 L.e3, ?_⟩⟩
    rw [List.range_succ, List.filter_append, List.map_append]
    have T := cm_turn (α := α) (X := X) (σ := σ) (B := B) (t := WTB X scope ifs) (te := WEB X scope elt) (σ2 := (((wipe σ [j0, j1, j2]).set j0 (some (.int (i : Nat)))).set j1 (some u1)).set j2 (some u2)) (ρ2 := ρE ρ j0 j1 j2 i (q1 x) (q2 x)) (out := ((List.range i).filter bt).map g) (k := bt i) (r := g i)
      (fun F H Q E4 k2 s H0 C cl fp => pts_run (hT i x hx s H0 C cl fp) E4 k2) (fun hk F H Q E4 k2 s H0 C cl fp => hG i x hx hk s H0 C cl fp B F H _ Q E4 xcN k2)
      (fun F H x4 => (((((E1.ext x4).wipe j2).wipe j1).wipe j0).set (s := .sh (.int (i : Nat))) (.int _) rfl |>.set (s := .sh (q1 x)) (a1.mono x4.f) rfl).set (s := .sh (q2 x)) (a2.mono x4.f) rfl) hD (by
        rw [List.length_map]
        have := List.length_filter_le bt (List.range i)
        rw [List.length_range] at this
        omega) hc3
    have e : ((List.range i).filter bt).map g ++ ([i].filter bt).map g = if bt i = true then ((List.range i).filter bt).map g ++ [g i] else ((List.range i).filter bt).map g := by
      rw [List.filter_cons]
      split
      · rfl
      · exact List.append_nil _
    rw [e]
    exact T
  · have ei : i = xs.length := by omega
    refine .inl ⟨⟨vs, qa, by omega⟩, ?_⟩
    rw [ei] at ia
    exact k D acc F' H' (x1.trans y) (x1.h.back hD) f0 hh ia
theorem lc_tgt3 (calm : X.calm = true) (nd : X.N.Nodup) (l0 : scope.names.lookup n0 = some .local) (a0 : X.N[j0]? = some n0) (l1 : scope.names.lookup n1 = some .local) (a1 : X.N[j1]? = some n1) (l2 : scope.names.lookup n2 = some .local) (a2 : X.N[j2]? = some n2) (s : Shared) (H : Hp) (C : Addr) (cl : List (Str × Addr)) (fp : List Addr)
    (i1 : PG (X.blk s H scope (compEnvC scope cl C X.env) fp) (.Tuple [.Name n1 p4, .Name n2 p5] kk2 tpos2) (gTup X.K 2 (gCons (gName j1) (gCons (gName j2) gNil))))
    (g1 : (assignEach [.Name n0 p3, .Tuple [.Name n1 p4, .Name n2 p5] kk2 tpos2] (X.blk s H scope (compEnvC scope cl C X.env) fp).env).map (·.2) = assign (.Name n0 p3) (X.blk s H scope (compEnvC scope cl C X.env) fp).env :: (assignEach [.Tuple [.Name n1 p4, .Name n2 p5] kk2 tpos2] (X.blk s H scope (compEnvC scope cl C X.env) fp).env).map (·.2) := by rfl)
    (g2 : (assignEach [.Tuple [.Name n1 p4, .Name n2 p5] kk2 tpos2] (X.blk s H scope (compEnvC scope cl C X.env) fp).env).map (·.2) = assign (.Tuple [.Name n1 p4, .Name n2 p5] kk2 tpos2) (X.blk s H scope (compEnvC scope cl C X.env) fp).env :: (assignEach [] (X.blk s H scope (compEnvC scope cl C X.env) fp).env).map (·.2) := by rfl)
    (g3 : (assignEach [.Name n0 p3, .Tuple [.Name n1 p4, .Name n2 p5] kk2 tpos2] (X.blk s H scope (compEnvC scope cl C X.env) fp).env).length = 2 := by rfl) (g4 : (assignEach [.Name n0 p3, .Tuple [.Name n1 p4, .Name n2 p5] kk2 tpos2] (X.blk s H scope (compEnvC scope cl C X.env) fp).env).findIdx? (·.1) = none := by rfl) :
    PG (X.blk s H scope (compEnvC scope cl C X.env) fp) (.Tuple [.Name n0 p3, .Tuple [.Name n1 p4, .Name n2 p5] kk2 tpos2] kk tpos) (gE X.K j0 j1 j2) := by
  have h0 : (X.blk s H scope (compEnvC scope cl C X.env) fp).env.scope.names.lookup n0 = some .local := lookup_relabel_local (env := X.env) l0
  exact pg_tup (X := X.blk s H scope (compEnvC scope cl C X.env) fp) calm (pgs_cons (pg_name nd a0 (.inl h0) (.inr h0)) (pgs_cons i1 pgs_nil g2) g1) g3 g4
theorem el_lcE {α : Type} (L : LcOk3 X scope ifs n0 j0 n1 j1 n2 j2 (.Call (.Name "enumerate" p) [e] [] p2)) (hg : Gl X ("enumerate" : Str)) (hm : X.mg ("enumerate" : Str) = none) (xs : List α) (q1 q2 : α → PyData) (bt : Nat → Bool) (g : Nat → PyData) (h : EP' X W ex e ρ (xs.map fun x => .tuple [q1 x, q2 x])) (hz : xs.length ≤ 50000)
    (hT : ∀ (i : Nat) x, xs[i]? = some x → Blk X scope fun Y => TsD Y ifs (ρE ρ j0 j1 j2 i (q1 x) (q2 x)) (bt i)) (hG : ∀ (i : Nat) x, xs[i]? = some x → bt i = true → Blk X scope fun Y => ED Y noW noX elt (ρE ρ j0 j1 j2 i (q1 x) (q2 x)) (g i))
    (tg : ∀ (s : Shared) (H : Hp) (C : Addr) (cl : List (Str × Addr)) (fp : List Addr), PG (X.blk s H scope (compEnvC scope cl C X.env) fp) (.Tuple [.Name n0 p3, .Tuple [.Name n1 p4, .Name n2 p5] kk2 tpos2] kk tpos) (gE X.K j0 j1 j2))
    (s1 : starEach [e] X.env = [(false, eval e X.env)] := by rfl) :
    EL X W ex (.ListComp elt [⟨.Tuple [.Name n0 p3, .Tuple [.Name n1 p4, .Name n2 p5] kk2 tpos2] kk tpos, .Call (.Name "enumerate" p) [e] [] p2, ifs, 0⟩] scope pos) ρ (((List.range xs.length).filter bt).map g) := fun B F H σ Q E c k =>
  w_e (pe_lc (own := [(n0, j0), (n1, j1), (n2, j2)]) L.calm L.nd (pi_enum hg hm (pa_cons pe_w pa_nil s1) s1) L.blk tg (fun _ _ _ _ _ => pts_wb L.one) (fun _ _ _ _ _ => pe_wb) L.fset) (lcE_over L xs q1 q2 bt g h hz hT hG E c k)
/-- y = .. -/
theorem sd_lcE {α : Type} {T : De} {y : Str} {i : Nat} {py spos : Pos} (L : LcOk3 X scope ifs n0 j0 n1 j1 n2 j2 (.Call (.Name "enumerate" p) [e] [] p2)) (hg : Gl X ("enumerate" : Str)) (hm : X.mg ("enumerate" : Str) = none) (xs : List α) (q1 q2 : α → PyData) (bt : Nat → Bool) (g : Nat → PyData) (h : EP' X W (fun C => T.ex C ρ) e ρ (xs.map fun x => .tuple [q1 x, q2 x])) (hz : xs.length ≤ 50000)
    (hT : ∀ (i : Nat) x, xs[i]? = some x → Blk X scope fun Y => TsD Y ifs (ρE ρ j0 j1 j2 i (q1 x) (q2 x)) (bt i)) (hG : ∀ (i : Nat) x, xs[i]? = some x → bt i = true → Blk X scope fun Y => ED Y noW noX elt (ρE ρ j0 j1 j2 i (q1 x) (q2 x)) (g i))
    (tg : ∀ (s : Shared) (H : Hp) (C : Addr) (cl : List (Str × Addr)) (fp : List Addr), PG (X.blk s H scope (compEnvC scope cl C X.env) fp) (.Tuple [.Name n0 p3, .Tuple [.Name n1 p4, .Name n2 p5] kk2 tpos2] kk tpos) (gE X.K j0 j1 j2))
    (hy : X.N[i]? = some y) (hyl : X.env.scope.names.lookup y = some .local) (hsw : swapsWith (.ListComp elt [⟨.Tuple [.Name n0 p3, .Tuple [.Name n1 p4, .Name n2 p5] kk2 tpos2] kk tpos, .Call (.Name "enumerate" p) [e] [] p2, ifs, 0⟩] scope pos) (some (.Name y py)) spos.line X.env = pure true) (q : ∀ r, T.nx (ρ.set i (.ow r (((List.range xs.length).filter bt).map g))))
    (s1 : starEach [e] X.env = [(false, eval e X.env)] := by rfl) :
    SD X W (.Assign [.Name y py] (.ListComp elt [⟨.Tuple [.Name n0 p3, .Tuple [.Name n1 p4, .Name n2 p5] kk2 tpos2] kk tpos, .Call (.Name "enumerate" p) [e] [] p2, ifs, 0⟩] scope pos) spos) ρ T := fun F0 H0 F H σ D s l =>
  w_s (ps_setLc (own := [(n0, j0), (n1, j1), (n2, j2)]) L.calm L.nd hy hyl hsw (pi_enum hg hm (pa_cons pe_w pa_nil s1) s1) L.blk tg (fun _ _ _ _ _ => pts_wb L.one) (fun _ _ _ _ _ => pe_wb) L.fset)
    (lcE_over (Q := fun v H' => D.nx (σ.set i (some v)) H') L xs q1 q2 bt g h hz hT hG s.e (l.xc s) fun r vs F1 H1 x1 h0 f0 h1 i1 => l.nx _ _ F1 H1 (q r) ⟨s.x.trans x1, s.e.own x1 h0 f0 h1 i1⟩)
end
end PD

set_option maxHeartbeats 4000000
/-! told lines as a dict by marks -/
namespace LW
open PySem L2 PD PyProof.Rows
variable [PD.TabC]
def toldD (a : Told) : List (Mark × PyData) := mkvs (fun p : Mark × Str => p.1) (fun p => PyData.str p.2) a
theorem hasM_app (kvs : List (Mark × PyData)) (k m : Mark) (d : PyData) : hasM (kvs ++ [(k, d)]) m = (hasM kvs m || decide (k = m)) := by
  unfold hasM
  rw [List.any_append, List.any_cons, List.any_nil, Bool.or_false]
theorem told_fold : ∀ (a : Told) (acc : List (Mark × PyData)), (mks a).Nodup → (∀ m ∈ mks a, hasM acc m = false) → a.foldl (fun kvs p => putM kvs p.1 (PyData.str p.2)) acc = acc ++ a.map fun p => (p.1, PyData.str p.2)
  | [], acc, _, _ => (List.append_nil _).symm
  | p :: r, acc, nd, h => by
    obtain ⟨n1, n2⟩ := List.nodup_cons.mp (show (p.1 :: mks r).Nodup from nd)
    have e : putM acc p.1 (.str p.2) = acc ++ [(p.1, .str p.2)] := by
      unfold putM
      rw [h p.1 List.mem_cons_self, if_neg Bool.false_ne_true]
    show r.foldl _ (putM acc p.1 (.str p.2)) = _
    rw [e, told_fold r _ n2 fun m hm => by
      rw [hasM_app, h m (List.mem_cons_of_mem _ hm), Bool.false_or]
      exact decide_eq_false fun z => n1 (z ▸ hm)]
    rw [List.append_assoc]; rfl
theorem toldD_eq {a : Told} (nd : (mks a).Nodup) : toldD a = a.map fun p => (p.1, PyData.str p.2) := told_fold a [] nd fun _ _ => rfl
theorem toldD_has {a : Told} (nd : (mks a).Nodup) (m : Mark) : hasM (toldD a) m = decide (m ∈ mks a) := by
  rw [toldD_eq nd]
  unfold hasM mks
  rw [List.any_map]
  by_cases h : m ∈ a.map (·.1)
  · rw [decide_eq_true h]
    obtain ⟨p, hp, e⟩ := List.mem_map.mp h
    exact List.any_eq_true.mpr ⟨p, hp, decide_eq_true e⟩
  · rw [decide_eq_false h]
    refine Bool.eq_false_iff.mpr fun z => ?_
    obtain ⟨p, hp, e⟩ := List.any_eq_true.mp z
    exact h (List.mem_map.mpr ⟨p, hp, of_decide_eq_true e⟩)
theorem toldD_get {a : Told} (nd : (mks a).Nodup) {m : Mark} (h : m ∈ mks a) : getM (toldD a) m = some (.str (wordIn a m)) := by
  rw [toldD_eq nd]
  unfold getM
  rw [List.find?_map]
  have hm := List.mem_of_getElem? (word_at h)
  cases q : a.find? ((fun p : Mark × PyData => decide (p.1 = m)) ∘ fun p : Mark × Str => (p.1, PyData.str p.2)) with
  | none => exact absurd (show decide (m = m) = true from decide_eq_true rfl) (List.find?_eq_none.mp q _ hm)
  | some p =>
    have h1 : decide (p.1 = m) = true := List.find?_some (p := (fun p : Mark × PyData => decide (p.1 = m)) ∘ fun p : Mark × Str => (p.1, PyData.str p.2)) q
    have := fst_one nd (List.mem_of_find?_eq_some q) hm (of_decide_eq_true h1)
    rw [this]; rfl
end LW

set_option maxHeartbeats 4000000
namespace N14
variable [PD.TabC]
open PySem L2 PD PyProof.Rows LW K4M LamK
section
variable {P : Program} {w : World} {K : PySem.W.Frag} {mg : Str → Option Value} {base : Heap}
/-! ### steps -/
abbrev sSteps : Stmt := topS 1
abbrev nSteps : List Str := ["one", "other", "before", "after", "outs", "found", "place", "mark", "words", "_"]
theorem scSteps : FnScope nSteps ["one", "other"] (defScope sSteps) := ⟨rfl, rfl, rfl, by decide +kernel, rfl, by decide +kernel, by decide +kernel⟩
theorem ndSteps : (nSteps).Nodup := scSteps.nd
theorem loSteps : (["one", "other", "before", "after", "outs", "found", "place", "mark", "words"] : List Str).all (locB (defScope sSteps)) = true := by decide +kernel
theorem glSteps : (["enumerate"] : List Str).all (glB (defScope sSteps)) = true := by decide +kernel
def rSteps : List Sl → DOut → Prop := fun as o => ∃ a b : Told, as = [.bo (a.map qT), .bo (b.map qT)] ∧ a.length ≤ 2000 ∧ b.length ≤ 2000 ∧ (mks a).Nodup ∧ (mks b).Nodup ∧ (∀ p ∈ a, Tx0 p.1.1) ∧ (∀ p ∈ b, Tx0 p.1.1) ∧ o = .new ((dueOf a b).map qS)
theorem okSteps {f : Addr} {fd : FuncData} (F : Fun K "steps" "steps" sSteps f fd) (T : Blt mg) : FnOk P w K mg base (L2N.CX P w) 1 f fd ["one", "other"] (spD K 2 rSteps) := by
  refine fnD F scSteps (by decide) fun cdv A outer s H E as o hr hl hR => ?_
  obtain ⟨a, b, rfl, al, bl, na, nb, at1, bt1, rfl⟩ := hR
  have hc : (cxOf (L2N.CX P w) P w K mg base nSteps "steps" (defScope sSteps) f cdv A outer s H E).calm = true := rfl
  refine sds_cons (sd_dcM (i := 2) (j1 := 7) (j2 := 8) (hu_of hr) ⟨hc, ndSteps, blkOk_by (N := nSteps) (sc := defScope sSteps) (by decide +kernel), rfl, rfl, rfl, rfl, by decide, by intro _; rfl⟩ a (fun p => LW.qMk p.1) (fun p => .str p.2) (fun p => p.1) (fun p => .str p.2) (ep_v loSteps 0) (by omega) (fun x hx s H C cl fp => ed_b 7) (fun x hx s H C cl fp => ed_b 8) (fun s H C cl fp => lc_tgt2 hc ndSteps rfl rfl rfl rfl s H C cl fp) rfl rfl rfl (fun r2 => ?_))
  refine sds_cons (sd_setM (i := 3) ndSteps rfl (loc_of loSteps 3) (.inl rfl) (eo_dcM (j1 := 7) (j2 := 8) (hu_of hr) ⟨hc, ndSteps, blkOk_by (N := nSteps) (sc := defScope sSteps) (by decide +kernel), rfl, rfl, rfl, rfl, by decide, by intro _; rfl⟩ b (fun p => LW.qMk p.1) (fun p => .str p.2) (fun p => p.1) (fun p => .str p.2) (ep_v loSteps 1) (by omega) (fun x hx s H C cl fp => ed_b 7) (fun x hx s H C cl fp => ed_b 8) (fun s H C cl fp => lc_tgt2 hc ndSteps rfl rfl rfl rfl s H C cl fp)) (fun r3 => ?_))
  have ga : ∀ (i : Nat) (x : Mark × Str), a[i]? = some x → goes a b i = !decide (x.1 ∈ mks b) := fun i x h => by
    unfold goes
    rw [show (mks a)[i]? = some x.1 from by unfold mks; rw [List.getElem?_map, h]; rfl]
  refine sds_cons (sd_lcE (i := 4) (j0 := 6) (j1 := 7) (j2 := 9) ⟨hc, ndSteps, blkOk_by (N := nSteps) (sc := defScope sSteps) (by decide +kernel), by decide, by decide, by decide, by decide, by intro _; rfl⟩ (gl_of glSteps 0) T.enumerate a (fun p => LW.qMk p.1) (fun p => .str p.2) (goes a b) (fun k => qS ⟨"out", k, none⟩) (ep_v loSteps 0) (by omega) (fun i x hx s H C cl fp => ET.to (et_mknin (k := x.1) (hu_of hr) (ed_b 7) (emo_b 3)) (by rw [ga i x hx]; exact congrArg _ (toldD_has nb x.1))) (fun i x hx _ s H C cl fp => ed_tup (ds := [_, _]) (ea_d ed_str (ea_d (ed_b 6) ea_nil)) le_b) (fun s H C cl fp => lc_tgt3 hc ndSteps rfl rfl rfl rfl rfl rfl s H C cl fp (lc_tgt2 hc ndSteps rfl rfl rfl rfl s H C cl fp)) rfl rfl rfl (fun r4 => ?_))
  refine sds_cons (sd_setL (i := 5) (ds := (outsOf a b).map qS) ndSteps rfl (loc_of loSteps 5) (.inl rfl) (EL.to (el_rev (eb_v loSteps 4)) (by unfold outsOf; rw [← List.map_reverse, ← List.map_reverse, List.map_map]; rfl)) (fun r5 => ?_))
  have hol := outsOf_len a b
  have hmb : (b.map qT).length = b.length := List.length_map _
  refine sds_cons (sd_enum (fun k ρ => ∃ s4 s6 s7 s8, ρ = [.bo (a.map qT), .bo (b.map qT), om K r2 (toldD a), om K r3 (toldD b), s4, .ow r5 ((outsOf a b ++ restG a b k).map qS), s6, s7, s8, .un]) (L2.passes_of rfl) hc
    (gu_tup hc (gus_cons (gu_name (j := 6) ndSteps rfl (loc_of loSteps 6) (.inl rfl)) (gus_cons (gu_tup hc (gus_cons (gu_name (j := 7) ndSteps rfl (loc_of loSteps 7) (.inl rfl)) (gus_cons (gu_name (j := 8) ndSteps rfl (loc_of loSteps 8) (.inl rfl)) gus_nil))) gus_nil))) (gl_of glSteps 0) T.enumerate (ep_v loSteps 1) ⟨_, _, _, _, by show _ = [_, _, _, _, _, Sl.ow r5 ((outsOf a b ++ []).map qS), _, _, _, _]; rw [List.append_nil]; rfl⟩ (fun k d ρ1 hi hI => ?_) (fun ρ1 hI => ?_))
  · obtain ⟨s4, s6, s7, s8, rfl⟩ := hI
    rw [List.getElem?_map] at hi
    cases hx : b[k]? with
    | none => rw [hx] at hi; cases hi
    | some p =>
    rw [hx] at hi
    cases hi
    obtain ⟨m, v⟩ := p
    have hkl : k < b.length := (List.getElem?_eq_some_iff.mp hx).1
    have hrl := restG_len a b k
    have hlen : ((outsOf a b ++ restG a b k).map qS).length < 100000 := by rw [List.length_map, List.length_append]; omega
    refine ⟨_, ⟨_, rfl, rfl, _, _, _, rfl, rfl, _, _, _, rfl, ⟨_, rfl, rfl, _, _, _, rfl, rfl, _, _, _, rfl, rfl, rfl, rfl⟩, rfl, rfl⟩, ?_⟩
    rw [restG_succ hx, ← List.append_assoc]
    have eM : ∀ st : List LW.Step, (outsOf a b ++ restG a b k ++ st).map qS = (outsOf a b ++ restG a b k).map qS ++ st.map qS := fun st => List.map_append
    unfold stepAt
    refine sds_one (sd_if (k := !decide (m ∈ mks a)) (ET.to (et_mknin (k := m) (hu_of hr) (ed_v loSteps 7) (emo_v loSteps 2)) (by rw [toldD_has na])) (fun hb => ?_) (fun hb => ?_))
    · rw [if_pos hb, eM]
      exact sds_one (sd_app (i := 5) rfl (vis_of (loc_of loSteps 5)) rfl (ed_tup (ds := [_, _, _]) (ea_d ed_str (ea_d (ed_v loSteps 6) (ea_d (ed_v loSteps 8) ea_nil))) le_b) hlen ⟨_, _, _, _, rfl⟩)
    · rw [hb, if_neg Bool.false_ne_true]
      have ha : m ∈ mks a := by simpa using hb
      refine sds_one (sd_if (k := !decide (wordIn a m = v)) (et_c cd_neS (ed_mget (k := m) (d := .str (wordIn a m)) (hu_of hr) (emo_v loSteps 2) (ed_v loSteps 7) (toldD_get na ha)) (ed_v loSteps 8)) (fun hb2 => ?_) (fun hb2 => ?_))
      · rw [if_pos hb2, eM]
        exact sds_one (sd_app (i := 5) rfl (vis_of (loc_of loSteps 5)) rfl (ed_tup (ds := [_, _, _]) (ea_d ed_str (ea_d (ed_v loSteps 6) (ea_d (ed_v loSteps 8) ea_nil))) le_b) hlen ⟨_, _, _, _, rfl⟩)
      · rw [hb2, if_neg Bool.false_ne_true, List.append_nil]
        exact sds_nil ⟨_, _, _, _, rfl⟩
  · obtain ⟨s4, s6, s7, s8, rfl⟩ := hI
    rw [hmb]
    exact sds_one (sd_retO (i := 5) rfl (vis_of (loc_of loSteps 5)) rfl rfl)
end
end N14

set_option maxHeartbeats 4000000
/-! a part's row is the whole's row without the others' lines -/
namespace LW
open PySem L2 PD PyProof.Rows K4M LamK SrtO
variable [PD.TabC]
theorem insAf_out {p : Mark → Bool} {m x : Mark} (hx : p x = false) : ∀ r : List Mark, (insAf m x r).filter p = r.filter p
  | [] => by
    show List.filter p [x] = []
    rw [List.filter_cons, hx]; rfl
  | y :: r => by
    unfold insAf
    split
    · rw [List.filter_cons, List.filter_cons, List.filter_cons, hx]; rfl
    · rw [List.filter_cons, List.filter_cons, insAf_out hx r]
theorem insAf_in {p : Mark → Bool} {m x : Mark} (hx : p x = true) (hm : p m = true) : ∀ r : List Mark, (insAf m x r).filter p = insAf m x (r.filter p)
  | [] => by
    show List.filter p [x] = [x]
    rw [List.filter_cons, hx]; rfl
  | y :: r => by
    by_cases e : y = m
    · rw [insAf, if_pos e, List.filter_cons, e, if_pos hm, List.filter_cons, if_pos hx, List.filter_cons, if_pos hm, insAf, if_pos rfl]
    · rw [insAf, if_neg e, List.filter_cons, List.filter_cons, insAf_in hx hm r]
      by_cases q : p y = true
      · rw [if_pos q, if_pos q, insAf, if_neg e]
      · rw [if_neg q, if_neg q]
theorem insAt_out {p : Mark → Bool} {o : Option Mark} {x : Mark} (hx : p x = false) (r : List Mark) : (insAt o x r).filter p = r.filter p := by
  cases o with
  | none =>
    show List.filter p (x :: r) = _
    rw [List.filter_cons, hx]; rfl
  | some m => exact insAf_out hx r
theorem insAt_in {p : Mark → Bool} {o : Option Mark} {x : Mark} (hx : p x = true) (hm : ∀ m, o = some m → p m = true) (r : List Mark) : (insAt o x r).filter p = insAt o x (r.filter p) := by
  cases o with
  | none =>
    show List.filter p (x :: r) = _
    rw [List.filter_cons, if_pos hx]; rfl
  | some m => exact insAf_in hx (hm m rfl) r
theorem deeds_out {κ : Str → Bool} {n : Str} (hn : κ n = false) : ∀ (ds : List Deed) (s : MSt), ((ds.foldl (mDeed n) s).row).filter (fun m => κ m.1) = s.row.filter fun m => κ m.1
  | [], _ => rfl
  | d :: r, s => by
    show ((r.foldl (mDeed n) (mDeed n s d)).row).filter _ = _
    rw [deeds_out hn r]
    unfold mDeed
    split
    · exact insAt_out (p := fun m => κ m.1) hn s.row
    · split <;> rfl
theorem deeds_in {κ : Str → Bool} {n : Str} (hn : κ n = true) : ∀ (ds : List Deed) (s t : MSt), (∀ d ∈ ds, ∀ m, d.m = some m → κ m.1 = true) → s.own = t.own → (s.row.filter fun m => κ m.1) = t.row → ((ds.foldl (mDeed n) s).row.filter fun m => κ m.1) = (ds.foldl (mDeed n) t).row
  | [], _, _, _, _, h => h
  | d :: r, s, t, hd, ho, h => by
    refine deeds_in hn r (mDeed n s d) (mDeed n t d) (fun d hd' => hd d (List.mem_cons_of_mem _ hd')) (by rw [mDeed_own, mDeed_own, ho]) ?_
    unfold mDeed
    split
    · show List.filter _ (insAt d.m (n, (s.own : Int)) s.row) = insAt d.m (n, (t.own : Int)) t.row
      rw [insAt_in (p := fun m => κ m.1) hn (fun m e => hd d List.mem_cons_self m e), h, ho]
    · split <;> exact h
theorem rows_in {κ : Str → Bool} : ∀ (cs : List Change) (s t : MSt), (∀ c ∈ cs, κ c.n = true → ∀ d ∈ c.ds, ∀ m, d.m = some m → κ m.1 = true) → (s.row.filter fun m => κ m.1) = t.row → ((cs.foldl mChange s).row.filter fun m => κ m.1) = ((cs.filter fun c => κ c.n).foldl mChange t).row
  | [], _, _, _, h => h
  | c :: r, s, t, hc, h => by
    have hr := fun c' (h' : c' ∈ r) => hc c' (List.mem_cons_of_mem _ h')
    rw [List.filter_cons]
    by_cases q : κ c.n = true
    · rw [if_pos q]
      exact rows_in r _ _ hr (deeds_in q c.ds s.zero t.zero (hc c List.mem_cons_self q) rfl h)
    · have q : κ c.n = false := Bool.eq_false_iff.mpr q
      rw [q, if_neg Bool.false_ne_true]
      exact rows_in r (mChange s c) t hr ((deeds_out q c.ds s.zero).trans h)
/-- the row of a part -/
theorem row_part {κ : Str → Bool} (cs : List Change) (h : ∀ c ∈ cs, κ c.n = true → ∀ d ∈ c.ds, ∀ m, d.m = some m → κ m.1 = true) : (mRun (cs.filter fun c => κ c.n)).row = (mRun cs).row.filter fun m => κ m.1 := (rows_in cs _ _ h rfl).symm
theorem told_sub (s : MSt) : (mks (toldOf s)).Sublist s.row := by
  unfold mks toldOf
  rw [List.map_map]
  show ((s.row.filter _).map fun m => m).Sublist s.row
  rw [List.map_id']
  exact List.filter_sublist
/-- two parts tell their common lines in one order -/
theorem told_parts {κ μ : Str → Bool} (cs : List Change) (h : ∀ c ∈ cs, κ c.n = true → ∀ d ∈ c.ds, ∀ m, d.m = some m → κ m.1 = true) : (mks (toldOf (mRun (cs.filter fun c => κ c.n)))).Sublist (mRun cs).row := by
  refine (told_sub _).trans ?_
  rw [row_part cs h]
  exact List.filter_sublist
end LW

set_option maxHeartbeats 4000000
/-! a part's order is the whole's order without the others -/
namespace LW
open PySem L2 PD PyProof.Rows K4M LamK SrtO
variable [PD.TabC]
theorem isort_filter {α : Type} {lt : α → α → Bool} (O : Swo lt) (p : α → Bool) (xs : List α) : isort lt (xs.filter p) = (isort lt xs).filter p := by
  have a := isort_stb O (xs.filter p)
  have b := isort_stb O xs
  have c : Stb lt ((isort lt xs).filter p) (xs.filter p) := ⟨b.perm.filter p, fun x => by
    rw [List.filter_filter, List.filter_filter, List.filter_congr (fun y _ => Bool.and_comm _ _), ← List.filter_filter, b.cls x, List.filter_filter]
    exact List.filter_congr fun y _ => Bool.and_comm _ _⟩
  refine srt_one O (isort_srtd O _) ?_ ⟨a.perm.trans c.perm.symm, fun x => (a.cls x).trans (c.cls x).symm⟩
  exact List.Pairwise.filter p (isort_srtd O xs)
theorem byN_filter (p : Change → Bool) (cs : List Change) : byN Change.n (cs.filter p) = (byN Change.n cs).filter p := by
  unfold byN
  rw [← List.filter_reverse, isort_filter (swo_pull swo_L fun c : Change => c.n.cps.toList), List.filter_reverse]
theorem hGet_filter {κ : Str → Bool} {l : Str} (h : κ l = true) : ∀ (ht : List (Str × Int)), hGet (ht.filter fun p => κ p.1) l = hGet ht l
  | [] => rfl
  | p :: r => by
    have ih := hGet_filter h r
    unfold hGet at ih ⊢
    rw [List.filter_cons, List.find?_cons]
    by_cases e : p.1 = l
    · rw [if_pos (by rw [e]; exact h), List.find?_cons, decide_eq_true e]
    · rw [decide_eq_false e]
      by_cases q : κ p.1 = true
      · rw [if_pos q, List.find?_cons, decide_eq_false e]; exact ih
      · rw [if_neg q]; exact ih
theorem hts_part {κ : Str → Bool} : ∀ (xs : List Change) (ht : List (Str × Int)), (∀ c ∈ xs, κ c.n = true → ∀ l ∈ c.ls, κ l = true) → (hts xs ht).filter (fun p => κ p.1) = hts (xs.filter fun c => κ c.n) (ht.filter fun p => κ p.1)
  | [], _, _ => rfl
  | c :: r, ht, h => by
    have hr := fun c' (h' : c' ∈ r) => h c' (List.mem_cons_of_mem _ h')
    show (hts r (ht ++ [(c.n, mx (hAdd ht c.ls))])).filter _ = _
    rw [hts_part r _ hr, List.filter_append, List.filter_cons]
    by_cases q : κ c.n = true
    · rw [List.filter_cons, if_pos q, if_pos q]
      show hts _ (_ ++ [(c.n, mx (hAdd ht c.ls))]) = hts _ (_ ++ [(c.n, mx (hAdd (ht.filter fun p => κ p.1) c.ls))])
      have e : hAdd (ht.filter fun p => κ p.1) c.ls = hAdd ht c.ls := by
        unfold hAdd
        exact List.map_congr_left fun l hl => by rw [hGet_filter (h c List.mem_cons_self q l hl)]
      rw [e]
    · rw [List.filter_cons, if_neg q, if_neg q]
      show hts _ (_ ++ []) = _
      rw [List.append_nil]
theorem hgtN_part {κ : Str → Bool} {chs : List Change} (h : ∀ c ∈ chs, κ c.n = true → ∀ l ∈ c.ls, κ l = true) {c : Change} (hc : κ c.n = true) : hgtN (chs.filter fun c => κ c.n) c = hgtN chs c := by
  unfold hgtN
  have := hts_part chs [] h
  rw [show hts (chs.filter fun c => κ c.n) [] = (hts chs []).filter fun p => κ p.1 from this.symm, hGet_filter hc]
/-- the order of a part -/
theorem mOrd_part {κ : Str → Bool} {chs : List Change} (h : ∀ c ∈ chs, κ c.n = true → ∀ l ∈ c.ls, κ l = true) : mOrd (chs.filter fun c => κ c.n) = (mOrd chs).filter fun c => κ c.n := by
  unfold mOrd
  rw [← isort_filter (swo_pull swo_Z (hgtN chs)), ← byN_filter]
  refine isort_congr fun x hx y hy => ?_
  have hx := (List.mem_filter.mp (byN_perm.mem_iff.mp hx)).2
  have hy := (List.mem_filter.mp (byN_perm.mem_iff.mp hy)).2
  rw [hgtN_part h hx, hgtN_part h hy]
/-- a part keeps its leans -/
theorem kp_part {κ : Str → Bool} : ∀ {chs : List Change}, Kp chs → (∀ c ∈ chs, κ c.n = true → ∀ l ∈ c.ls, κ l = true) → Kp (chs.filter fun c => κ c.n) := by
  intro chs kp h
  have key : ∀ (i : Nat) (c : Change), (chs.filter fun c => κ c.n)[i]? = some c → ∃ j : Nat, chs[j]? = some c ∧ (chs.filter fun c => κ c.n).take i = (chs.take j).filter fun c => κ c.n := by
    clear kp h
    induction chs with
    | nil => intro i c e; simp at e
    | cons x r ih =>
      intro i c e
      rw [List.filter_cons] at e ⊢
      by_cases q : κ x.n = true
      · rw [if_pos q] at e ⊢
        cases i with
        | zero => exact ⟨0, e, rfl⟩
        | succ i =>
          obtain ⟨j, h1, h2⟩ := ih i c e
          refine ⟨j + 1, h1, ?_⟩
          rw [List.take_succ_cons, List.take_succ_cons, List.filter_cons, if_pos q, h2]
      · rw [if_neg q] at e ⊢
        obtain ⟨j, h1, h2⟩ := ih i c e
        refine ⟨j + 1, h1, ?_⟩
        rw [List.take_succ_cons, List.filter_cons, if_neg q, h2]
  refine ⟨fun i c e => ?_, fun i c e l hl => ?_⟩
  · obtain ⟨j, h1, h2⟩ := key i c e
    rw [h2]
    exact fun z => kp.new j c h1 (List.map_subset _ List.filter_sublist.subset z)
  · obtain ⟨j, h1, h2⟩ := key i c e
    have q := (List.mem_filter.mp (List.mem_of_getElem? e)).2
    obtain ⟨d, hd, en⟩ := List.mem_map.mp (kp.ln j c h1 l hl)
    rw [h2]
    refine List.mem_map.mpr ⟨d, List.mem_filter.mpr ⟨hd, ?_⟩, en⟩
    rw [en]
    exact h c (List.mem_of_getElem? h1) q l hl
end LW

set_option maxHeartbeats 4000000
/-! what a deed names stands there -/
namespace LW
open PySem L2 PD PyProof.Rows K4M LamK SrtO
variable [PD.TabC]
structure DFit (chs : List Change) (c : Change) (k : Nat) (d : Deed) : Prop where
  w : d.w = "add" ∨ d.w = "set" ∨ d.w = "cut"
  a : ∀ m, d.m = some m → (∃ b ∈ chs, b.n ∈ c.ls ∧ m ∈ marksOf b) ∨ ∃ j : Nat, j < adds (c.ds.take k) ∧ m = (c.n, (j : Int))
  s : d.w ≠ "add" → d.m.isSome = true
  l : d.w ≠ "cut" → d.l.isSome = true
  c : d.w = "cut" → d.l = none
def DrawFit (chs : List Change) : Prop := ∀ c ∈ chs, ∀ (k : Nat) (d : Deed), c.ds[k]? = some d → DFit chs c k d
theorem ahead {chs : List Change} (kp : Kp chs) {i : Nat} {c b : Change} (hi : (mOrd chs)[i]? = some c) (hb : b ∈ chs) (h : b.n ∈ c.ls) : b ∈ (mOrd chs).take i := by
  have pm := mOrd_perm chs
  have hc := pm.mem_iff.mp (List.mem_of_getElem? hi)
  have lt := hgtN_lt kp hc hb h
  obtain ⟨j, hj⟩ := List.getElem?_of_mem (pm.mem_iff.mpr hb)
  have sr : Srtd (fun x y => ltZ (hgtN chs x) (hgtN chs y)) (mOrd chs) := isort_srtd (swo_pull swo_Z (hgtN chs)) _
  obtain ⟨hil, ei⟩ := List.getElem?_eq_some_iff.mp hi
  obtain ⟨hjl, ej⟩ := List.getElem?_eq_some_iff.mp hj
  have hji : j < i := by
    rcases Nat.lt_trichotomy j i with q | q | q
    · exact q
    · subst q
      rw [hi] at hj
      cases hj
      exact absurd lt (Int.lt_irrefl _)
    · have := List.pairwise_iff_getElem.mp sr i j hil hjl q
      rw [ei, ej] at this
      exact absurd lt (of_decide_eq_false this)
  refine List.mem_of_getElem? (i := j) ?_
  rw [List.getElem?_take, if_pos hji]; exact hj
theorem mfit_of {chs : List Change} (kp : Kp chs) (df : DrawFit chs) (dl : ∀ c ∈ chs, c.ds.length ≤ 20) (nd : (chs.map Change.n).Nodup) : MFit (mOrd chs) := by
  have pm := mOrd_perm chs
  refine ⟨fun i c hi k d hd => ?_, (pm.map _).nodup_iff.mpr nd, fun c hc => dl c (pm.mem_iff.mp hc)⟩
  have f := df c (pm.mem_iff.mp (List.mem_of_getElem? hi)) k d hd
  refine ⟨f.w, fun m e => ?_, f.s, f.l, f.c⟩
  rcases f.a m e with ⟨b, hb, hl, hm⟩ | q
  · exact .inl ⟨b, ahead kp hi hb hl, hm⟩
  · exact .inr q
theorem draw_part {κ : Str → Bool} {chs : List Change} (df : DrawFit chs) (h : ∀ c ∈ chs, κ c.n = true → ∀ l ∈ c.ls, κ l = true) : DrawFit (chs.filter fun c => κ c.n) := fun c hc k d hd => by
  obtain ⟨hc, q⟩ := List.mem_filter.mp hc
  have f := df c hc k d hd
  refine ⟨f.w, fun m e => ?_, f.s, f.l, f.c⟩
  rcases f.a m e with ⟨b, hb, hl, hm⟩ | q2
  · exact .inl ⟨b, List.mem_filter.mpr ⟨hb, h c hc q b.n hl⟩, hl, hm⟩
  · exact .inr q2
theorem kp_nd {chs : List Change} (kp : Kp chs) : (chs.map Change.n).Nodup := by
  refine List.pairwise_iff_getElem.mpr fun i j hi hj h e => ?_
  rw [List.length_map] at hi hj
  rw [List.getElem_map, List.getElem_map] at e
  refine kp.new j chs[j] (List.getElem?_eq_getElem hj) ?_
  rw [← e]
  refine List.mem_map_of_mem (List.mem_of_getElem? (i := i) ?_)
  rw [List.getElem?_take, if_pos h]; exact List.getElem?_eq_getElem hi
/-- marks that a kept change's deeds name are kept -/
theorem marks_part {κ : Str → Bool} {chs : List Change} (df : DrawFit chs) (h : ∀ c ∈ chs, κ c.n = true → ∀ l ∈ c.ls, κ l = true) : ∀ c ∈ chs, κ c.n = true → ∀ d ∈ c.ds, ∀ m, d.m = some m → κ m.1 = true := fun c hc q d hd m e => by
  obtain ⟨k, hk⟩ := List.getElem?_of_mem hd
  rcases (df c hc k d hk).a m e with ⟨b, hb, hl, hm⟩ | ⟨j, _, e2⟩
  · obtain ⟨j, _, e2⟩ := marksOf_mem.mp hm
    rw [e2]; exact h c hc q b.n hl
  · rw [e2]; exact q
/-- two parts of drawn changes: their told lines stand in one row's order -/
theorem tpart_sub {κ : Str → Bool} {chs : List Change} (df : DrawFit chs) (h : ∀ c ∈ chs, κ c.n = true → ∀ l ∈ c.ls, κ l = true) : (mks (toldOf (mRun (mOrd (chs.filter fun c => κ c.n))))).Sublist (mRun (mOrd chs)).row := by
  rw [mOrd_part h]
  exact told_parts (κ := κ) (μ := κ) (mOrd chs) fun c hc => marks_part df h c ((mOrd_perm chs).mem_iff.mp hc)
end LW

set_option maxHeartbeats 4000000
/-! the drawn changes keep their leans, their deeds name what stands there -/
namespace LW
open PySem L2 PD PyProof.Rows K4M LamK SrtO
variable [PD.TabC]
theorem kp_snoc {chs : List Change} {c : Change} (kp : Kp chs) (hn : c.n ∉ chs.map Change.n) (hl : ∀ l ∈ c.ls, l ∈ chs.map Change.n) : Kp (chs ++ [c]) := by
  have key : ∀ (i : Nat) (x : Change), (chs ++ [c])[i]? = some x → (chs[i]? = some x ∧ (chs ++ [c]).take i = chs.take i) ∨ (x = c ∧ (chs ++ [c]).take i = chs) := fun i x e => by
    by_cases q : i < chs.length
    · rw [List.getElem?_append_left q] at e
      exact .inl ⟨e, List.take_append_of_le_length (by omega)⟩
    · rw [List.getElem?_append_right (by omega)] at e
      have : i - chs.length = 0 := by
        have := (List.getElem?_eq_some_iff.mp e).1
        rw [List.length_singleton] at this; omega
      have hi : i = chs.length := by omega
      subst hi
      rw [Nat.sub_self] at e
      cases e
      exact .inr ⟨rfl, List.take_left⟩
  refine ⟨fun i x e => ?_, fun i x e => ?_⟩
  · rcases key i x e with ⟨h1, h2⟩ | ⟨h1, h2⟩
    · rw [h2]; exact kp.new i x h1
    · rw [h2, h1]; exact hn
  · rcases key i x e with ⟨h1, h2⟩ | ⟨h1, h2⟩
    · rw [h2]; exact kp.ln i x h1
    · rw [h2, h1]; exact hl
theorem DFit.more {chs : List Change} {c : Change} {k : Nat} {d : Deed} (f : DFit chs c k d) (x : Change) : DFit (chs ++ [x]) c k d := ⟨f.w, fun m e => (f.a m e).elim (fun ⟨b, h1, h2, h3⟩ => .inl ⟨b, List.mem_append_left _ h1, h2, h3⟩) .inr, f.s, f.l, f.c⟩
theorem draw_snoc {chs : List Change} {c : Change} (df : DrawFit chs) (h : ∀ (k : Nat) (d : Deed), c.ds[k]? = some d → DFit chs c k d) : DrawFit (chs ++ [c]) := fun x hx k d hd => by
  rcases List.mem_append.mp hx with hx | hx
  · exact (df x hx k d hd).more c
  · have := List.mem_singleton.mp hx
    subst this
    exact (h k d hd).more x
theorem deedOf_add (n : Str) (ms : List (Str × Int)) (own : Nat) (l : Int) : decide ((deedOf n ms own l).w = ("add" : Str)) = isAdd n ms own l := by
  unfold deedOf
  cases q : isAdd n ms own l with
  | true => rw [if_pos rfl]; exact decide_eq_true rfl
  | false =>
    rw [if_neg Bool.false_ne_true]
    split
    · show decide (("cut" : Str) = ("add" : Str)) = false
      decide +kernel
    · show decide (("set" : Str) = ("add" : Str)) = false
      decide +kernel
theorem deedsAt_own (n : Str) (c : Int) (ms : List (Str × Int)) : ∀ k, (deedsAt n c ms k).2 = adds (deedsAt n c ms k).1
  | 0 => rfl
  | k + 1 => by
    have ih := deedsAt_own n c ms k
    show (if isAdd n ms (deedsAt n c ms k).2 (mixed c (k : Int)) = true then (deedsAt n c ms k).2 + 1 else (deedsAt n c ms k).2) = adds ((deedsAt n c ms k).1 ++ [deedOf n ms (deedsAt n c ms k).2 (mixed c (k : Int))])
    have e : adds ((deedsAt n c ms k).1 ++ [deedOf n ms (deedsAt n c ms k).2 (mixed c (k : Int))]) = adds (deedsAt n c ms k).1 + (if decide ((deedOf n ms (deedsAt n c ms k).2 (mixed c (k : Int))).w = ("add" : Str)) = true then 1 else 0) := by
      unfold adds
      rw [List.filter_append, List.length_append, List.filter_cons]
      split <;> rfl
    rw [e, deedOf_add, ← ih]
    split <;> rfl
theorem deedsAt_at (n : Str) (c : Int) (ms : List (Str × Int)) : ∀ (m j : Nat), j < m → (deedsAt n c ms m).1[j]? = some (deedOf n ms (deedsAt n c ms j).2 (mixed c (j : Int))) ∧ (deedsAt n c ms m).1.take j = (deedsAt n c ms j).1
  | m + 1, j, h => by
    have hl := (deedsAt_len n c ms m).1
    show ((deedsAt n c ms m).1 ++ [deedOf n ms (deedsAt n c ms m).2 (mixed c (m : Int))])[j]? = _ ∧ ((deedsAt n c ms m).1 ++ [_]).take j = _
    by_cases q : j < m
    · obtain ⟨h1, h2⟩ := deedsAt_at n c ms m j q
      rw [List.getElem?_append_left (by omega), List.take_append_of_le_length (by omega)]
      exact ⟨h1, h2⟩
    · have : j = m := by omega
      subst this
      rw [List.getElem?_append_right (by omega), hl, Nat.sub_self, List.take_append_of_le_length (by omega), List.take_of_length_le (by omega)]
      exact ⟨rfl, rfl⟩
theorem deedOf_fit {fs : List Change} {c : Change} {k : Nat} {own : Nat} (ho : own = adds (c.ds.take k)) (l : Int) : DFit fs c k (deedOf c.n (leanMarks fs c.ls) own l) := by
  have known : ∀ p ∈ knownOf c.n (leanMarks fs c.ls) own, (∃ b ∈ fs, b.n ∈ c.ls ∧ p ∈ marksOf b) ∨ ∃ j : Nat, j < adds (c.ds.take k) ∧ p = (c.n, (j : Int)) := fun p hp => by
    rcases List.mem_append.mp hp with hp | hp
    · obtain ⟨f, hf1, hp⟩ := List.mem_flatMap.mp hp
      obtain ⟨hf2, hl⟩ := List.mem_filter.mp hf1
      exact .inl ⟨f, hf2, of_decide_eq_true hl, hp⟩
    · obtain ⟨j, hj, rfl⟩ := List.mem_map.mp hp
      exact .inr ⟨j, by rw [← ho]; exact List.mem_range.mp hj, rfl⟩
  generalize leanMarks fs c.ls = ms at known
  unfold deedOf
  split
  · refine ⟨.inl rfl, fun m e => known m ?_, fun e => absurd rfl e, fun _ => rfl, fun e => absurd (show ("add" : Str) = "cut" from e) (by decide +kernel)⟩
    have e : addMark c.n ms own l = some m := e
    unfold addMark at e
    split at e
    · exact List.mem_of_getElem? e
    · cases e
  · rename_i hadd
    have ne : (knownOf c.n ms own).isEmpty = false := by
      cases e : (knownOf c.n ms own).isEmpty with
      | false => rfl
      | true => exact absurd (by unfold isAdd; rw [e]; simp) hadd
    have sm : (othMark c.n ms own l).isSome = true := by
      unfold othMark
      have pos : 0 < (knownOf c.n ms own).length := by
        cases e : knownOf c.n ms own with
        | nil => rw [e] at ne; cases ne
        | cons _ _ => exact Nat.succ_pos _
      have p1 := Int.emod_nonneg (dAt c.n ms own l) (show ((knownOf c.n ms own).length : Int) ≠ 0 by omega)
      have p2 := Int.emod_lt_of_pos (dAt c.n ms own l) (show (0 : Int) < ((knownOf c.n ms own).length : Int) by omega)
      rw [List.getElem?_eq_getElem (by omega)]; rfl
    split
    · exact ⟨.inr (.inr rfl), fun m e => known m (List.mem_of_getElem? (show othMark c.n ms own l = some m from e)), fun _ => sm, fun e => absurd rfl e, fun _ => rfl⟩
    · exact ⟨.inr (.inl rfl), fun m e => known m (List.mem_of_getElem? (show othMark c.n ms own l = some m from e)), fun _ => sm, fun _ => rfl, fun e => absurd (show ("set" : Str) = "cut" from e) (by decide +kernel)⟩
theorem lnAt_sub' (c : Int) (ah : List Change) : ∀ k, k ≤ ah.length → ∀ n ∈ lnAt c ah k, n ∈ ah.map Change.n
  | 0, _, n, h => nomatch h
  | k + 1, hk, n, h => by
    have ih := lnAt_sub' c ah k (by omega)
    rw [lnAt] at h
    split at h
    · rcases List.mem_append.mp h with h | h
      · exact ih n h
      · rw [List.mem_singleton.mp h, List.getElem?_eq_getElem (show k < ah.length by omega)]
        exact List.mem_map_of_mem (List.getElem_mem _)
    · exact ih n h
theorem drawn_fit (cells : List Int) : ∀ k, k ≤ 60 → Kp (chsAt cells k).1 ∧ DrawFit (chsAt cells k).1
  | 0, _ => by
    have no : ∀ (i : Nat) (c : Change), (chsAt cells 0).1[i]? = some c → False := fun i c e => by
      have e : ([] : List Change)[i]? = some c := e
      simp at e
    exact ⟨⟨fun i c e => (no i c e).elim, fun i c e => (no i c e).elim⟩, fun c h => (nomatch h)⟩
  | k + 1, hk => by
    obtain ⟨kp, df⟩ := drawn_fit cells k (by omega)
    obtain ⟨⟨_, t2⟩, _⟩ := chsAt_taken cells k (by omega)
    obtain ⟨_, _, l3⟩ := chsAt_len cells k
    have hn : (chAt cells (chsAt cells k).1 (chsAt cells k).2 k).n ∉ (chsAt cells k).1.map Change.n := fun q => by
      refine nameOf_new (cell cells (4 * k)) t2 (taken := (chsAt cells k).2) ?_
      rw [l3]
      have q : nameOf (cell cells (4 * k)) (chsAt cells k).2 ∈ (chsAt cells k).1.map Change.n := q
      rw [l3] at q
      exact List.mem_cons_of_mem _ q
    refine ⟨kp_snoc kp hn fun l hl => lnAt_sub' _ _ _ (Nat.le_refl _) l (sortS_mem.mp hl), draw_snoc df fun j d hd => ?_⟩
    generalize hc : chAt cells (chsAt cells k).1 (chsAt cells k).2 k = c at hd ⊢
    have e1 : c.ds = deedsOf c.n (cell cells (4 * k + 2)) (manyOf (cell cells (4 * k + 3))).toNat (leanMarks (chsAt cells k).1 c.ls) := by rw [← hc]; rfl
    have hj : j < (manyOf (cell cells (4 * k + 3))).toNat := by
      have := (List.getElem?_eq_some_iff.mp hd).1
      rw [e1] at this
      unfold deedsOf at this
      rwa [(deedsAt_len _ _ _ _).1] at this
    obtain ⟨h1, h2⟩ := deedsAt_at c.n (cell cells (4 * k + 2)) (leanMarks (chsAt cells k).1 c.ls) _ j hj
    have e2 := hd
    rw [e1] at e2
    unfold deedsOf at e2
    rw [h1] at e2
    cases e2
    refine deedOf_fit ?_ _
    rw [e1]
    unfold deedsOf
    rw [h2]
    exact deedsAt_own _ _ _ _
end LW

set_option maxHeartbeats 4000000
/-! a drawn part: closed, in order, its told lines in the whole's row -/
namespace LW
open PySem L2 PD PyProof.Rows K4M LamK SrtO
variable [PD.TabC]
theorem part_closed {chs : List Change} (kp : Kp chs) {names : List Str} (h : ∀ x ∈ names, x ∈ chs.map Change.n) : ∀ c ∈ chs, decide (c.n ∈ gndOf chs names) = true → ∀ l ∈ c.ls, decide (l ∈ gndOf chs names) = true := fun c hc q l hl => decide_eq_true (gndOf_clo kp h c hc (of_decide_eq_true q) l hl)
structure PartOk (chs : List Change) (names : List Str) : Prop where
  kp : Kp (chs.filter fun c => decide (c.n ∈ gndOf chs names))
  fit : MFit (mOrd (chs.filter fun c => decide (c.n ∈ gndOf chs names)))
  sub : (mks (toldOf (mRun (mOrd (chs.filter fun c => decide (c.n ∈ gndOf chs names)))))).Sublist (mRun (mOrd chs)).row
theorem part_ok {chs : List Change} (kp : Kp chs) (df : DrawFit chs) (dl : ∀ c ∈ chs, c.ds.length ≤ 20) {names : List Str} (h : ∀ x ∈ names, x ∈ chs.map Change.n) : PartOk chs names := by
  have cl := part_closed kp h
  have kp2 := kp_part (κ := fun x => decide (x ∈ gndOf chs names)) kp cl
  exact ⟨kp2, mfit_of kp2 (draw_part (κ := fun x => decide (x ∈ gndOf chs names)) df cl) (fun c hc => dl c (List.mem_filter.mp hc).1) (kp_nd kp2), tpart_sub (κ := fun x => decide (x ∈ gndOf chs names)) df cl⟩
theorem whole_nd {chs : List Change} (kp : Kp chs) (df : DrawFit chs) (dl : ∀ c ∈ chs, c.ds.length ≤ 20) : (mRun (mOrd chs)).row.Nodup := by
  have run := run_all (mfit_of kp df dl (kp_nd kp)) (mOrd chs).length (Nat.le_refl _)
  rw [mAt_len] at run
  exact run.nd
end LW

set_option maxHeartbeats 4000000
/-! told lines: their words, their look as data; a law's parts -/
namespace LW
open PySem L2 PD PyProof.Rows K4M LamK SrtO
variable [PD.TabC]
theorem tx_nil : Tx0 "" := ⟨by decide +kernel, by decide +kernel⟩
def WTx (s : MSt) : Prop := ∀ m y, getM s.words m = some (.str y) → Tx0 y
theorem WTx.put {s : MSt} (h : WTx s) {m : Mark} {y : Str} (hy : Tx0 y) : ∀ k z, getM (putM s.words m (.str y)) k = some (.str z) → Tx0 z := fun k z e => by
  by_cases q : k = m
  · rw [q, getM_put] at e; cases e; exact hy
  · rw [getM_put_ne q] at e; exact h k z e
theorem WTx.deed {s : MSt} (h : WTx s) {n : Str} {d : Deed} (hd : ∀ l, d.l = some l → Tx0 l) : WTx (mDeed n s d) := by
  have hl : Tx0 (d.l.getD "") := by
    cases e : d.l with
    | none => exact tx_nil
    | some l => exact hd l e
  unfold mDeed
  split
  · exact h.put hl
  · split
    · exact h.put hl
    · exact h
theorem WTx.deeds {n : Str} : ∀ {ds : List Deed} {s : MSt}, WTx s → (∀ d ∈ ds, ∀ l, d.l = some l → Tx0 l) → WTx (ds.foldl (mDeed n) s)
  | [], _, h, _ => h
  | d :: r, _, h, k => WTx.deeds (ds := r) (h.deed (k d List.mem_cons_self)) fun d' h' => k d' (List.mem_cons_of_mem _ h')
theorem WTx.run : ∀ {cs : List Change} {s : MSt}, WTx s → (∀ c ∈ cs, ∀ d ∈ c.ds, ∀ l, d.l = some l → Tx0 l) → WTx (cs.foldl mChange s)
  | [], _, h, _ => h
  | c :: r, s, h, k => WTx.run (cs := r) (WTx.deeds (s := s.zero) h (k c List.mem_cons_self)) fun d' h' => k d' (List.mem_cons_of_mem _ h')
theorem words_tx {cs : List Change} (h : ∀ c ∈ cs, ∀ d ∈ c.ds, ∀ l, d.l = some l → Tx0 l) (m : Mark) : Tx0 (wordOf (mRun cs) m) := by
  have w : WTx (mRun cs) := WTx.run (fun m y e => by cases e) h
  unfold wordOf
  split
  · rename_i y e; exact w m y e
  · exact tx_nil
/-- told lines as the laws have them -/
structure TOk (R : List Mark) (a : Told) : Prop where
  sub : (mks a).Sublist R
  len : a.length ≤ 1200
  n : ∀ p ∈ a, Tx0 p.1.1
  w : ∀ p ∈ a, Tx0 p.2
theorem lay_t {p : Mark × Str} (h1 : Tx0 p.1.1) (h2 : Tx0 p.2) : (qT p).canLay0 = true ∧ (qT p).depth ≤ 2 := by
  have hm := lay_mk h1
  refine ⟨?_, ?_⟩
  · show ((qMk p.1).canLay0 && (PyData.strOk p.2 && true)) = true
    rw [hm.1, str_ok h2]; rfl
  · show max (qMk p.1).depth (max 0 0) + 1 ≤ 2
    have := hm.2; omega
theorem lay_told {a : Told} (h1 : ∀ p ∈ a, Tx0 p.1.1) (h2 : ∀ p ∈ a, Tx0 p.2) : (PyData.list (a.map qT)).canLay0 = true ∧ (PyData.list (a.map qT)).depth ≤ 3 := by
  have e2 : PyData.canLayAll0 (a.map qT) = true := lay_all fun x hx => (lay_t (h1 x hx) (h2 x hx)).1
  have e4 : PyData.depthAll (a.map qT) ≤ 2 := depth_all fun x hx => (lay_t (h1 x hx) (h2 x hx)).2
  refine ⟨e2, ?_⟩
  show PyData.depthAll (a.map qT) + 1 ≤ 3
  omega
def two (a b : Told) : PyData := .list [.list (a.map qT), .list (b.map qT)]
theorem lay_two {R : List Mark} {a b : Told} (ha : TOk R a) (hb : TOk R b) : (two a b).canLay0 = true ∧ (two a b).depth ≤ 4 := by
  have h1 := lay_told ha.n ha.w
  have h2 := lay_told hb.n hb.w
  refine ⟨?_, ?_⟩
  · show ((PyData.list (a.map qT)).canLay0 && ((PyData.list (b.map qT)).canLay0 && true)) = true
    rw [h1.1, h2.1]; rfl
  · show max (PyData.list (a.map qT)).depth (max (PyData.list (b.map qT)).depth 0) + 1 ≤ 4
    have := h1.2
    have := h2.2
    omega
theorem shaped_two {R : List Mark} {a b : Told} (ha : TOk R a) (hb : TOk R b) : SeqAt.shaped (two a b) = true := by
  have := lay_two ha hb
  unfold SeqAt.shaped
  rw [this.1, decide_eq_true (by omega)]; rfl
theorem eqv_two {R : List Mark} {a b : Told} (ha : TOk R a) (hb : TOk R b) : PyData.eqv (two a b) (two a b) = true := SeqAt.eqv_refl _ (lay_two ha hb).1
/-- the whole: the drawn changes -/
structure Whole (chs : List Change) : Prop where
  kp : Kp chs
  df : DrawFit chs
  dl : ∀ c ∈ chs, c.ds.length ≤ 20
  tx : ∀ c ∈ chs, Tx0 c.n
  lt : ∀ c ∈ chs, ∀ d ∈ c.ds, ∀ l, d.l = some l → Tx0 l
  len : chs.length ≤ 60
theorem Whole.row {chs : List Change} (h : Whole chs) : (mRun (mOrd chs)).row.Nodup ∧ (mRun (mOrd chs)).row.length ≤ 1200 ∧ ∀ m ∈ (mRun (mOrd chs)).row, Tx0 m.1 := by
  have run := run_all (mfit_of h.kp h.df h.dl (kp_nd h.kp)) (mOrd chs).length (Nat.le_refl _)
  rw [mAt_len] at run
  have pm := mOrd_perm chs
  refine ⟨run.nd, ?_, fun m hm => ?_⟩
  · have := run.rl
    have := pm.length_eq
    have := h.len
    omega
  · obtain ⟨b, hb, hm⟩ := (run.row m).mp hm
    obtain ⟨j, _, e⟩ := marksOf_mem.mp hm
    rw [e]
    exact h.tx b (pm.mem_iff.mp (List.mem_of_mem_take hb))
/-- what a part tells -/
def toldP (chs : List Change) (names : List Str) : Told := toldOf (mRun (mOrd (chs.filter fun c => decide (c.n ∈ gndOf chs names))))
theorem Whole.told {chs : List Change} (h : Whole chs) {names : List Str} (hn : ∀ x ∈ names, x ∈ chs.map Change.n) : TOk (mRun (mOrd chs)).row (toldP chs names) := by
  have po := part_ok h.kp h.df h.dl hn
  obtain ⟨_, rl, rt⟩ := h.row
  have sub := po.sub
  refine ⟨sub, ?_, fun p hp => rt _ (sub.subset (List.mem_map_of_mem hp)), fun p hp => ?_⟩
  · have := sub.length_le
    unfold mks at this
    rw [List.length_map] at this
    exact Nat.le_trans this rl
  · obtain ⟨m, _, rfl⟩ := List.mem_map.mp hp
    exact words_tx (fun c hc => h.lt c (List.mem_filter.mp ((mOrd_perm _).mem_iff.mp hc)).1) m
theorem drawn_whole (cells : List Int) {most : Int} (hm : most ≤ 60) (hc : chCount cells most ≤ 60) : Whole (changesOf cells most) := by
  have good := changesOf_good (cells := cells) hm
  obtain ⟨kp, df⟩ := drawn_fit cells (chCount cells most) hc
  refine ⟨kp, df, fun c h => (good c h).dl, fun c h => (change_tx (good c h).ok).1, fun c h d hd => (deed_tx ((good c h).ok.ds d hd)).2.2.1, ?_⟩
  unfold changesOf
  rw [(chsAt_len _ _).1]
  exact hc
/-- the steps are steps -/
theorem due_of {a b : Told} : ∀ s ∈ dueOf a b, (s.w = "out" ∨ s.w = "put" ∨ s.w = "say") ∧ ∀ l, s.l = some l → ∃ p ∈ b, p.2 = l := fun s hs => by
  have key : ∀ k, k ≤ b.length → ∀ s ∈ restG a b k, (s.w = "out" ∨ s.w = "put" ∨ s.w = "say") ∧ ∀ l, s.l = some l → ∃ p ∈ b, p.2 = l := by
    intro k
    induction k with
    | zero => intro _ s h; exact nomatch h
    | succ k ih =>
      intro hk s h
      have hx : b[k]? = some b[k] := List.getElem?_eq_getElem (by omega)
      rw [restG_succ hx] at h
      have hm : b[k] ∈ b := List.getElem_mem _
      generalize b[k] = p at h hm
      rcases List.mem_append.mp h with h | h
      · exact ih (by omega) s h
      · unfold stepAt at h
        split at h
        · rw [List.mem_singleton.mp h]
          exact ⟨.inr (.inl rfl), fun l e => ⟨p, hm, by cases e; rfl⟩⟩
        · split at h
          · rw [List.mem_singleton.mp h]
            exact ⟨.inr (.inr rfl), fun l e => ⟨p, hm, by cases e; rfl⟩⟩
          · exact nomatch h
  rcases List.mem_append.mp hs with h | h
  · unfold outsOf at h
    obtain ⟨k, _, rfl⟩ := List.mem_map.mp (List.mem_reverse.mp h)
    exact ⟨.inl rfl, fun l e => nomatch e⟩
  · exact key _ (Nat.le_refl _) s h
theorem due_len (a b : Told) : (dueOf a b).length ≤ a.length + b.length := by
  unfold dueOf
  rw [List.length_append]
  have := outsOf_len a b
  have := restG_len a b b.length
  omega
end LW

set_option maxHeartbeats 4000000
namespace N14
variable [PD.TabC]
open PySem L2 PD PyProof.Rows LW K4M LamK
theorem step_ok {R : List Mark} {a b : Told} (hb : TOk R b) : ∀ s ∈ dueOf a b, StepOk s := fun s hs => by
  obtain ⟨h1, h2⟩ := due_of s hs
  refine ⟨?_, fun l e => ?_⟩
  · rcases h1 with e | e | e <;> rw [e] <;> exact ⟨by decide +kernel, by decide +kernel⟩
  · obtain ⟨p, hp, rfl⟩ := h2 l e
    exact hb.w p hp
section
variable {P : Program} {w : World} {K : PySem.W.Frag} {mg : Str → Option Value} {base : Heap}
/-! ### law -/
abbrev sLaw : Stmt := topS 20
abbrev nLaw : List Str := ["_law_script", "_law_changes_here", "_law_told", "_law_turn", "_law_names", "_law_handed", "_law_found", "_law_due_here", "_law_one", "_law_other", "_law_pair"]
theorem scLaw : FnScope nLaw ["_law_script"] (defScope sLaw) := ⟨rfl, rfl, rfl, by decide +kernel, rfl, by decide +kernel, by decide +kernel⟩
theorem ndLaw : (nLaw).Nodup := scLaw.nd
theorem loLaw : (["_law_script", "_law_changes_here", "_law_told", "_law_turn", "_law_names", "_law_handed", "_law_found", "_law_due_here"] : List Str).all (locB (defScope sLaw)) = true := by decide +kernel
theorem glLaw : (["_law_changes", "_law_wide", "_law_cell", "range", "_law_some", "_law_model", "_law_closed", "list", "steps", "_law_due", "isinstance", "len", "all", "zip", "_law_done"] : List Str).all (glB (defScope sLaw)) = true := by decide +kernel
/-- what the law calls -/
structure Calls (P : Program) (w : World) (K : PySem.W.Frag) (mg : Str → Option Value) (base : Heap) : Prop where
  changes : Cal P w K mg base 3 "_law_changes" 2 rChanges
  wide : Cal P w K mg base 2 "_law_wide" 3 rWide
  cell : Cal P w K mg base 1 "_law_cell" 2 rCell
  some : Cal P w K mg base 2 "_law_some" 2 rSome
  closed : Cal P w K mg base 2 "_law_closed" 2 rClosed
  model : Cal P w K mg base 4 "_law_model" 1 rModel
  steps : Cal P w K mg base 1 "steps" 2 rSteps
  due : Cal P w K mg base 1 "_law_due" 2 rDue
  like : Cal P w K mg base 1 "_law_step_like" 2 rStepLike
  done : Cal P w K mg base 1 "_law_done" 2 rDone
def rLaw : List Sl → DOut → Prop := fun as o => ∃ ns : List Int, as = [.bo (ns.map .int)] ∧ ns.length ≤ 63 ∧ o = .val (.bool true)
abbrev cxLaw (P : Program) (w : World) (K : PySem.W.Frag) (mg : Str → Option Value) (base : Heap) (f : Addr) (cdv : Value) (A : Around) (outer : List PySem.Env) (s : Shared) (H : Hp) (E : XK) : Cx := cxOf (L2N.CX P w) P w K mg base nLaw "law" (defScope sLaw) f cdv A outer s H E
/-- from the handed lists on -/
theorem law4 {f : Addr} {cdv : Value} {A : Around} {outer : List PySem.Env} {s : Shared} {H : Hp} {E : XK} (hr : Room 5 (cxLaw P w K mg base f cdv A outer s H E).A) (T : LW.Blt mg) (TK : TxK mg) (C : Calls P w K mg base) {R : List Mark} (nd : R.Nodup) {a b : Told} (ha : TOk R a) (hb : TOk R b) {s0 s1 s3 s4 : Sl} {r2 : Addr} :
    SDs (cxLaw P w K mg base f cdv A outer s H E) (fun c d _ H' => E c d H') ((defBody sLaw).drop 4) [s0, s1, .ow r2 [.list (a.map qT), .list (b.map qT)], s3, s4, .un, .un, .un, .un, .un, .un] (deOf (.val (.bool true))) := by
  have hc : (cxLaw P w K mg base f cdv A outer s H E).calm = true := rfl
  have tk : L2N.Takes (cxLaw P w K mg base f cdv A outer s H E) (fun c d _ H' => E c d H') := L2N.takes_of rfl rfl rfl rfl
  have la := ha.len
  have lb := hb.len
  have na : (mks a).Nodup := ha.sub.nodup nd
  have nb : (mks b).Nodup := hb.sub.nodup nd
  have ld := due_len a b
  have sk := step_ok (a := a) hb
  obtain ⟨fit, fin⟩ := lead nd ha.sub hb.sub
  refine sds_frz (i := 2) rfl ?_
  refine sds_cons (sd_setL (i := 5) (ds := [.list (a.map qT), .list (b.map qT)]) ndLaw rfl (loc_of loLaw 5) (.inl rfl) (el_lst (ds := [_, _]) (ea_d (EL.dat (el_list (ED.rd (ed_ixL (d := .list (a.map qT)) (ED.rd (ed_v loLaw 2)) ed_int (atI_nat (j := 0) rfl))) (gl_of glLaw 7) T.list)) (ea_d (EL.dat (el_list (ED.rd (ed_ixL (d := .list (b.map qT)) (ED.rd (ed_v loLaw 2)) ed_int (atI_nat (j := 1) rfl))) (gl_of glLaw 7) T.list)) ea_nil)) le_b) (fun r5 => ?_))
  refine sds_cons (sd_setL (i := 6) (ds := (dueOf a b).map qS) ndLaw rfl (loc_of loLaw 6) (.inl rfl) (el_call C.steps (hr.mono (by decide)) (gl_of glLaw 8) tk (ea_b (ED.rd (ed_ixL (d := .list (a.map qT)) (eb_v loLaw 5) ed_int (atI_nat (j := 0) rfl))) (ea_b (ED.rd (ed_ixL (d := .list (b.map qT)) (eb_v loLaw 5) ed_int (atI_nat (j := 1) rfl))) ea_nil)) rfl ⟨a, b, rfl, by omega, by omega, na, nb, ha.n, hb.n, rfl⟩) (fun r6 => ?_))
  refine sds_cons (sd_setL (i := 7) (ds := (dueOf a b).map qS) ndLaw rfl (loc_of loLaw 7) (.inl rfl) (el_call C.due (hr.mono (by decide)) (gl_of glLaw 9) tk (ea_b (ED.rd (ed_ixL (d := .list (a.map qT)) (ED.rd (ed_v loLaw 2)) ed_int (atI_nat (j := 0) rfl))) (ea_b (ED.rd (ed_ixL (d := .list (b.map qT)) (ED.rd (ed_v loLaw 2)) ed_int (atI_nat (j := 1) rfl))) ea_nil)) rfl ⟨a, b, rfl, by omega, by omega, ha.n, hb.n, rfl⟩) (fun r7 => ?_))
  refine sds_frz (i := 5) rfl ?_
  refine sds_frz (i := 6) rfl ?_
  refine sds_frz (i := 7) rfl ?_
  refine sds_cons (sd_if (k := false) (et_w (ew_or (k := !true) (et_not (et_val (ed_kind (d := .list ((dueOf a b).map qS)) (t := "list") (k := true) (ed_v loLaw 6) (show kitB "list" "list" = some true by decide +kernel) (gl_of glLaw 10) TK.isi (gl_of glLaw 7) TK.list (by decide +kernel)))) (fun _ => ew_or (k := false) (ET.to (et_c cd_neI (ed_len (ED.rd (ed_v loLaw 6)) (gl_of glLaw 11) TK.len) (ed_len (ED.rd (ed_v loLaw 7)) (gl_of glLaw 11) TK.len)) (by simp)) (fun _ => ew_or1 (k := false) (ET.to (et_c (cd_neD (x := two a b) (y := two a b) hr.units (shaped_two ha hb) (shaped_two ha hb)) (ed_v loLaw 5) (ed_v loLaw 2)) (by rw [eqv_two ha hb]; rfl)))))) (fun hb => by cases hb) (fun _ => ?_))
  refine sds_nil (sds_cons (sd_if (k := false) (ET.to (k := !true) (et_not (et_val (ED.to (x := .bool true) (ed_all (bs := ((dueOf a b).zip (dueOf a b)).map fun _ => true) hc (EL.rd (EL.to (el_lcZ (j1 := 8) (j2 := 9) (L := ⟨hc, ndLaw, blkOk_by (N := nLaw) (sc := defScope sLaw) (by decide +kernel), rfl, rfl, rfl, rfl, by decide, by intro _; rfl⟩) (gl_of glLaw 13) TK.zip (dueOf a b) (dueOf a b) qS qS (fun _ _ => .bool true) (ED.pst (ed_v loLaw 6)) (ED.pst (ed_v loLaw 7)) (by omega) (fun i x y hx hy s H C' cl fp => by
      rw [hx] at hy
      cases hy
      exact ed_call C.like (hr.mono (by decide)) gl_b takesN0 (ea_d (ed_b 8) (ea_d (ed_b 9) ea_nil)) rfl ⟨x, rfl, sk x (List.mem_of_getElem? hx), rfl⟩) (tg := fun s H C' cl fp => lc_tgt2 hc ndLaw rfl rfl rfl rfl s H C' cl fp)) (by rw [List.map_map]; rfl))) (gl_of glLaw 12) TK.all) (by rw [List.all_map]; congr 1; rw [List.all_eq_true]; intro _ _; rfl)))) rfl) (fun hb => by cases hb) (fun _ => ?_)))
  refine sds_nil (sds_one (sd_ret (ED.to (ed_c (cd_eqD (x := .list ((b.map (·.2)).map .str)) (y := .list ((b.map (·.2)).map .str)) hr.units (shaped_ls ?_) (shaped_ls ?_)) (EL.dat (EL.to (el_call (ds := (doneOf (a.map (·.2)) (dueOf a b)).map .str) C.done (hr.mono (by decide)) (gl_of glLaw 14) tk (ea_b (EL.rd (EL.to (xs := (a.map (·.2)).map .str) (el_lc (j := 10) ⟨hc, ndLaw, blkOk_by (N := nLaw) (sc := defScope sLaw) (by decide +kernel), by decide, rfl, rfl, by intro _; rfl⟩ a qT (fun _ => true) (fun p => .str p.2) (ED.pst (ed_ixL (d := .list (a.map qT)) (ED.rd (ed_v loLaw 2)) ed_int (atI_nat (j := 0) rfl))) (by omega) (fun x hx s H C' cl fp => rfl) (fun x hx _ s H C' cl fp => ed_ixT (ds := [_, .str x.2]) (ed_b 10) ed_int (atI_nat (j := 1) rfl))) (by rw [lc_all, List.map_map]; rfl))) (ea_b (ED.rd (ed_v loLaw 6)) ea_nil)) rfl ⟨a.map (·.2), dueOf a b, rfl, by rw [List.length_map]; omega, by omega, fit, rfl⟩) (by rw [fin]))) (EL.dat (EL.to (el_lc (j := 10) ⟨hc, ndLaw, blkOk_by (N := nLaw) (sc := defScope sLaw) (by decide +kernel), by decide, rfl, rfl, by intro _; rfl⟩ b qT (fun _ => true) (fun p => .str p.2) (ED.pst (ed_ixL (d := .list (b.map qT)) (ED.rd (ed_v loLaw 2)) ed_int (atI_nat (j := 1) rfl))) (by omega) (fun x hx s H C' cl fp => rfl) (fun x hx _ s H C' cl fp => ed_ixT (ds := [_, .str x.2]) (ed_b 10) ed_int (atI_nat (j := 1) rfl))) (by rw [lc_all, List.map_map]; rfl)))) ?_) rfl))
  · intro z hz
    obtain ⟨p, hp, rfl⟩ := List.mem_map.mp hz
    exact hb.w p hp
  · intro z hz
    obtain ⟨p, hp, rfl⟩ := List.mem_map.mp hz
    exact hb.w p hp
  · congr 1
    refine eqv_ls ?_
    intro z hz
    obtain ⟨p, hp, rfl⟩ := List.mem_map.mp hz
    exact hb.w p hp
theorem okLaw {f : Addr} {fd : FuncData} (F : Fun K "law" "law" sLaw f fd) (T : LW.Blt mg) (TK : TxK mg) (C : Calls P w K mg base) : FnOk P w K mg base (L2N.CX P w) 6 f fd ["_law_script"] (spD K 1 rLaw) := by
  refine fnD F scLaw (by decide) fun cdv A outer s H E as o hr hl hR => ?_
  obtain ⟨ns, rfl, hns, rfl⟩ := hR
  have hc : (cxLaw P w K mg base f cdv A outer s H E).calm = true := rfl
  have tk : L2N.Takes (cxLaw P w K mg base f cdv A outer s H E) (fun c d _ H' => E c d H') := L2N.takes_of rfl rfl rfl rfl
  have hr' : Room 5 (cxLaw P w K mg base f cdv A outer s H E).A := hr
  have hwl : (wideOf (ns.drop 3) (cell ns 2) 10).length ≤ 240 := by
    unfold wideOf
    split
    · have := wideN_bd (cell ns 2) (most := 10) (by decide) (by decide)
      rw [List.length_map, List.length_range]
      omega
    · rw [List.length_drop]; omega
  have hcnt : chCount (wideOf (ns.drop 3) (cell ns 2) 10) 60 ≤ 60 := by
    unfold chCount
    split <;> omega
  have good := changesOf_good (cells := wideOf (ns.drop 3) (cell ns 2) 10) (most := 60) (by decide)
  have wh := drawn_whole (wideOf (ns.drop 3) (cell ns 2) 10) (most := 60) (by decide) hcnt
  refine sds_cons (sd_setL (i := 1) ndLaw rfl (loc_of loLaw 1) (.inl rfl) (el_call C.changes (hr.mono (by decide)) (gl_of glLaw 0) tk (ea_b (ED.rd (ed_call (d := .list ((wideOf (ns.drop 3) (cell ns 2) 10).map .int)) C.wide (hr.mono (by decide)) (gl_of glLaw 1) tk (ea_d (EL.dat (EL.to (xs := (ns.drop 3).map .int) (el_cut (l := some ((3 : Nat) : Int)) (u := none) (EP'.rd (ep_v loLaw 0)) ed_int trivial) (by rw [cutD_drop, List.map_drop]))) (ea_d (ed_call (d := .int (cell ns 2)) C.cell (hr.mono (by decide)) (gl_of glLaw 2) tk (ea_b (EP'.rd (ep_v loLaw 0)) (ea_d ed_int ea_nil)) rfl ⟨ns, 2, rfl, rfl⟩) (ea_d ed_int ea_nil))) rfl ⟨ns.drop 3, cell ns 2, 10, rfl, by decide, by decide, rfl⟩)) (ea_d ed_int ea_nil)) rfl ⟨_, 60, rfl, by omega, hcnt, by decide, rfl⟩) (fun r1 => ?_))
  generalize changesOf (wideOf (ns.drop 3) (cell ns 2) 10) 60 = chs at good wh
  have len := wh.len
  have hm : (chs.map LW.qC).length = chs.length := List.length_map _
  have hsm : ∀ k, ∀ x ∈ someOf (cell ns k) chs, x ∈ chs.map LW.Change.n := fun k => someOf_mem _ _
  have hsl : ∀ k, (someOf (cell ns k) chs).length ≤ 100 := fun k => by
    have := smAt_len (cell ns k) chs chs.length
    show (smAt _ _ _).length ≤ _
    omega
  have hll : ∀ c ∈ chs, c.ls.length ≤ 100 := fun c hc => by have := (good c hc).ll; omega
  have ht : ∀ k, TOk (mRun (mOrd chs)).row (toldP chs (someOf (cell ns k) chs)) := fun k => wh.told (hsm k)
  have nd := wh.row.1
  refine sds_cons (sd_setL (i := 2) (ds := []) ndLaw rfl (loc_of loLaw 2) (.inl rfl) (el_lst (ds := []) ea_nil le_b) (fun r2 => ?_))
  refine sds_cons (sd_rng (j := 3) (k := 2) (fun i ρ => ∃ s3 s4, ρ = [.bo (ns.map .int), .ow r1 (chs.map LW.qC), .ow r2 ((List.range i).map fun k => .list ((toldP chs (someOf (cell ns k) chs)).map qT)), s3, s4, .un, .un, .un, .un, .un, .un]) (L2.passes_of rfl) hc ndLaw rfl (loc_of loLaw 3) (.inl rfl) (gl_of glLaw 3) T.range ed_int (by decide) ⟨_, _, rfl⟩ (fun i ρ' hi hI => ?_) (fun ρ' hI => ?_))
  · obtain ⟨s3, s4, rfl⟩ := hI
    have po := part_ok wh.kp wh.df wh.dl (hsm i)
    refine sds_cons (sd_setL (i := 4) (ds := (someOf (cell ns i) chs).map .str) ndLaw rfl (loc_of loLaw 4) (.inl rfl) (el_call C.some (hr.mono (by decide)) (gl_of glLaw 4) tk (ea_b (eb_v loLaw 1) (ea_d (ed_call (d := .int (cell ns i)) C.cell (hr.mono (by decide)) (gl_of glLaw 2) tk (ea_b (EP'.rd (ep_v loLaw 0)) (ea_d (ed_v loLaw 3) ea_nil)) rfl ⟨ns, i, rfl, rfl⟩) ea_nil)) rfl ⟨chs, cell ns i, rfl, by omega, rfl⟩) (fun r4 => ?_))
    refine sds_one (sd_app (i := 2) (d := .list ((toldP chs (someOf (cell ns i) chs)).map qT)) rfl (vis_of (loc_of loLaw 2)) rfl (ed_ixT (ds := [_, .list ((toldP chs (someOf (cell ns i) chs)).map qT)]) (ed_call C.model (hr.mono (by decide)) (gl_of glLaw 5) tk (ea_b (EL.rd (el_call (ds := (cloOf chs (someOf (cell ns i) chs)).map LW.qC) C.closed (hr.mono (by decide)) (gl_of glLaw 6) tk (ea_b (eb_v loLaw 1) (ea_b (eb_v loLaw 4) ea_nil)) rfl ⟨chs, someOf (cell ns i) chs, rfl, by omega, hsl i, hll, wh.kp, hsm i, rfl⟩)) ea_nil) rfl ⟨cloOf chs (someOf (cell ns i) chs), rfl, Nat.le_trans (List.length_filter_le _ _) (by omega), fun c hc => hll c (List.mem_filter.mp hc).1, po.kp, po.fit, fun c hc => wh.tx c (List.mem_filter.mp hc).1, rfl⟩) ed_int (atI_nat (j := 1) rfl)) (by rw [List.length_map, List.length_range]; omega) ⟨.sh (.int (i : Nat)), .ow r4 ((someOf (cell ns i) chs).map .str), ?_⟩)
    rw [List.range_succ, List.map_append]; rfl
  · obtain ⟨s3, s4, rfl⟩ := hI
    have h0 := ht 0
    have h1 := ht 1
    show SDs _ _ _ [_, _, .ow r2 [.list ((toldP chs (someOf (cell ns (0 : Nat)) chs)).map qT), .list ((toldP chs (someOf (cell ns (1 : Nat)) chs)).map qT)], _, _, _, _, _, _, _, _] _
    generalize toldP chs (someOf (cell ns (0 : Nat)) chs) = a at h0
    generalize toldP chs (someOf (cell ns (1 : Nat)) chs) = b at h1
    refine sds_cons (sd_if (et_c cd_eqI (ed_mod (ed_call (d := .int (cell ns 0)) C.cell (hr.mono (by decide)) (gl_of glLaw 2) tk (ea_b (EP'.rd (ep_v loLaw 0)) (ea_d ed_int ea_nil)) rfl ⟨ns, 0, rfl, rfl⟩) ed_int (by decide)) ed_int) (fun hb => ?_) (fun hb => ?_))
    · refine sds_one (sd_setix (i := 2) (k := 1) (j := 1) (d := .list (a.map qT)) rfl (vis_of (loc_of loLaw 2)) rfl (ed_ixL (eb_v loLaw 2) ed_int (atI_nat (j := 0) rfl)) ed_int rfl ?_)
      exact law4 hr' T TK C nd h0 h0
    · exact sds_nil (law4 hr' T TK C nd h0 h1)
end
end N14

set_option maxHeartbeats 4000000
namespace N14
open PySem L2 PD PyProof.Rows LW
section
variable {P : Program} {w : World} {K : PySem.W.Frag} {h : Heap} {mg : Str → Option Value}
structure BuiltK (K : PySem.W.Frag) : Prop where
  b_len : FreeK K "len"
  b_str : FreeK K "str"
  b_min : FreeK K "min"
  b_range : FreeK K "range"
  b_sorted : FreeK K "sorted"
  b_list : FreeK K "list"
  b_all : FreeK K "all"
  b_zip : FreeK K "zip"
  b_enumerate : FreeK K "enumerate"
  b_isinstance : FreeK K "isinstance"
  b_tuple : FreeK K "tuple"
  b_int : FreeK K "int"
  b_bool : FreeK K "bool"
  b_max : FreeK K "max"
structure DefsK (K : PySem.W.Frag) : Prop where
  dSteps : DefK K "steps" sSteps
  dCell : DefK K "_law_cell" sCell
  dMixed : DefK K "_law_mixed" sMixed
  dName : DefK K "_law_name" sName
  dLine : DefK K "_law_line" sLine
  dLeans : DefK K "_law_leans" sLeans
  dMarks : DefK K "_law_marks" sMarks
  dDeeds : DefK K "_law_deeds" sDeeds
  dChanges : DefK K "_law_changes" sChanges
  dHeights : DefK K "_law_heights" sHeights
  dGround : DefK K "_law_ground" sGround
  dClosed : DefK K "_law_closed" sClosed
  dSome : DefK K "_law_some" sSome
  dDue : DefK K "_law_due" sDue
  dStepLike : DefK K "_law_step_like" sStepLike
  dDone : DefK K "_law_done" sDone
  dWide : DefK K "_law_wide" sWide
  dModel : DefK K "_law_model" sModel
theorem code_of {x : Str} {f c0 P0 : Addr} {oc : Value} {od : Option Addr} {fd : FuncData} {sl : Array (Option Value)} (a : PySem.W.nsIn K mainGlobals x = some (some (.ref f))) (l : K.lookup f = some ⟨oc, od, .func fd, sl⟩) (t : PySem.W.tabIn K x = some (c0, P0)) : fd.code = .ref c0 := by
  unfold PySem.W.tabIn at t
  rw [a] at t
  dsimp only at t
  rw [l] at t
  dsimp only at t
  split at t
  · rename_i c hc
    split at t
    · split at t
      · cases t; exact hc
      · cases t
    · cases t
  · cases t
theorem law_at {l : PySem.W.OpenLaw} {fa c0 P0 : Addr} (X : K.In h) (G : h.Ns mainGlobals mg) (hfa : mg "law" = some (.ref fa)) {ft : Addr} {fdt : FuncData} {toc toc2 : Value} {tod tod2 : Option Addr} {tsl tsl2 : Array (Option Value)} {tvs : Array Value} (ta : PySem.W.nsIn K mainGlobals "_law_model" = some (some (.ref ft))) (tl : K.lookup ft = some ⟨toc, tod, .func fdt, tsl⟩) (tc : fdt.code = .ref c0) (tl2 : K.lookup c0 = some ⟨toc2, tod2, .fields tvs, tsl2⟩) (tv : tvs[11]? = some (.ref P0)) (hn : K.lookup P0 = none) (tabs : ∀ c P : Addr, PySem.W.tabIn K "_law_model" = some (c, P) → PySem.W.CodeHd h c P ∧ h.get? P = some { cls := .none, data := .fields #[] })
    (B : BuiltK K) (D : DefsK K) (L : DefK K "law" sLaw) : LamX.LawAtS l w K (L2N.CX l.prog w) 6 63 "_law_script" mg fa h := by
  have ht : PySem.W.tabIn K "_law_model" = some (c0, P0) := by
    unfold PySem.W.tabIn
    rw [ta]
    dsimp only
    rw [tl]
    dsimp only
    rw [tc]
    dsimp only
    rw [tl2]
    dsimp only
    rw [tv]
  have hC := tabs c0 P0 ht
  letI tc : PD.TabC := ⟨[(P0, modelQ)]⟩
  obtain ⟨fl, oc, od, kV, doc, pm, an, cdv, ct, osl, la, ll, lc, lk⟩ := L
  have e := hfa.symm.trans (PySem.W.mg_of X G la)
  cases e
  have FL := fun_mk (st := sLaw) ll lc lk
  refine ⟨PySem.W.fnOf "law" "law" (defArgs sLaw) (defBody sLaw) (defScope sLaw) .none kV doc pm an cdv ct, [(c0, P0)], spD K 1 rLaw, fun p hp => ?_, fun p hp => ?_, fun p hp => ?_, fun s u => .of_eq rfl, fun H a ns hlen _ hT hS => ?_, fun base _ _ hTB => ?_⟩
  · rw [List.mem_singleton.mp hp]; exact hC.2
  · rw [List.mem_singleton.mp hp]; exact hn
  · rw [List.mem_singleton.mp hp]; exact hC.1
  · refine ⟨H, [.bo (ns.map .int)], .val (.bool true), ⟨Ex.refl H, fun p hp => ?_⟩, .cons ⟨a, ns.map V.int, rfl, hS, IsAll.ints ns⟩ .nil, rfl, ⟨ns, rfl, hlen, rfl⟩, fun v F' H' _ i => i.bl_eq⟩
    have hp : p ∈ [(P0, modelQ)] := hp
    rw [List.mem_singleton.mp hp]
    exact ⟨#[], hT (c0, P0) (List.mem_singleton.mpr rfl), (by trivial), fun pos cv z => by cases z⟩
  have b_len := PySem.W.mg_none_of X G B.b_len
  have b_str := PySem.W.mg_none_of X G B.b_str
  have b_min := PySem.W.mg_none_of X G B.b_min
  have b_range := PySem.W.mg_none_of X G B.b_range
  have b_sorted := PySem.W.mg_none_of X G B.b_sorted
  have b_list := PySem.W.mg_none_of X G B.b_list
  have b_all := PySem.W.mg_none_of X G B.b_all
  have b_zip := PySem.W.mg_none_of X G B.b_zip
  have b_enumerate := PySem.W.mg_none_of X G B.b_enumerate
  have b_isinstance := PySem.W.mg_none_of X G B.b_isinstance
  have b_tuple := PySem.W.mg_none_of X G B.b_tuple
  have b_int := PySem.W.mg_none_of X G B.b_int
  have b_bool := PySem.W.mg_none_of X G B.b_bool
  have b_max := PySem.W.mg_none_of X G B.b_max
  have TB : LW.Blt mg := ⟨b_len, b_str, b_min, b_range, b_sorted, b_list, b_enumerate⟩
  have TK : TxK mg := ⟨b_isinstance, b_tuple, b_len, b_str, b_int, b_bool, b_list, b_all, b_zip⟩
  have cSteps : Cal l.prog w K mg base 1 "steps" 2 rSteps := cal_of X G ["one", "other"] D.dSteps (b2 fun _ _ _ _ _ _ _ _ => rfl) fun f fd F => okSteps F TB
  have cCell : Cal l.prog w K mg base 1 "_law_cell" 2 rCell := cal_of X G ["_law_script", "_law_k"] D.dCell (b2 fun _ _ _ _ _ _ _ _ => rfl) fun f fd F => okCell F TB
  have cMixed : Cal l.prog w K mg base 1 "_law_mixed" 2 rMixed := cal_of X G ["_law_cell_here", "_law_k"] D.dMixed (b2 fun _ _ _ _ _ _ _ _ => rfl) fun f fd F => okMixed F
  have cName : Cal l.prog w K mg base 2 "_law_name" 2 rName := cal_of X G ["_law_cell_here", "_law_taken"] D.dName (b2 fun _ _ _ _ _ _ _ _ => rfl) fun f fd F => okName F TB cMixed
  have cLine : Cal l.prog w K mg base 1 "_law_line" 1 rLine := cal_of X G ["_law_cell_here"] D.dLine (b1 fun _ _ _ _ _ _ _ => rfl) fun f fd F => okLine F TB
  have cLeans : Cal l.prog w K mg base 2 "_law_leans" 2 rLeans := cal_of X G ["_law_cell_here", "_law_ahead"] D.dLeans (b2 fun _ _ _ _ _ _ _ _ => rfl) fun f fd F => okLeans F TB cMixed
  have cMarks : Cal l.prog w K mg base 1 "_law_marks" 1 rMarks := cal_of X G ["_law_change"] D.dMarks (b1 fun _ _ _ _ _ _ _ => rfl) fun f fd F => okMarks F TB
  have cDeeds : Cal l.prog w K mg base 2 "_law_deeds" 4 rDeeds := cal_of X G ["_law_name_here", "_law_cell_here", "_law_many", "_law_marks_here"] D.dDeeds (b4 fun _ _ _ _ _ _ _ _ _ _ => rfl) fun f fd F => okDeeds F TB cMixed cLine
  have cChanges : Cal l.prog w K mg base 3 "_law_changes" 2 rChanges := cal_of X G ["_law_cells", "_law_most"] D.dChanges (b2 fun _ _ _ _ _ _ _ _ => rfl) fun f fd F => okChanges F TB cName cLeans cMarks cDeeds
  have cHeights : Cal l.prog w K mg base 1 "_law_heights" 1 (rHeights K) := cal_of X G ["_law_changes_here"] D.dHeights (b1 fun _ _ _ _ _ _ _ => rfl) fun f fd F => okHeights F b_max
  have cGround : Cal l.prog w K mg base 1 "_law_ground" 2 rGround := cal_of X G ["_law_changes_here", "_law_names"] D.dGround (b2 fun _ _ _ _ _ _ _ _ => rfl) fun f fd F => okGround F TB
  have cClosed : Cal l.prog w K mg base 2 "_law_closed" 2 rClosed := cal_of X G ["_law_changes_here", "_law_names"] D.dClosed (b2 fun _ _ _ _ _ _ _ _ => rfl) fun f fd F => okClosed F cGround
  have cSome : Cal l.prog w K mg base 2 "_law_some" 2 rSome := cal_of X G ["_law_changes_here", "_law_cell_here"] D.dSome (b2 fun _ _ _ _ _ _ _ _ => rfl) fun f fd F => okSome F TB cMixed
  have cDue : Cal l.prog w K mg base 1 "_law_due" 2 rDue := cal_of X G ["_law_one", "_law_other"] D.dDue (b2 fun _ _ _ _ _ _ _ _ => rfl) fun f fd F => okDue F TB
  have cStepLike : Cal l.prog w K mg base 1 "_law_step_like" 2 rStepLike := cal_of X G ["_law_found", "_law_due_here"] D.dStepLike (b2 fun _ _ _ _ _ _ _ _ => rfl) fun f fd F => okStepLike F TK
  have cDone : Cal l.prog w K mg base 1 "_law_done" 2 rDone := cal_of X G ["_law_lines", "_law_row"] D.dDone (b2 fun _ _ _ _ _ _ _ _ => rfl) fun f fd F => okDone F TB
  have cWide : Cal l.prog w K mg base 2 "_law_wide" 3 rWide := cal_of X G ["_law_cells", "_law_flag", "_law_most"] D.dWide (b3 fun _ _ _ _ _ _ _ _ _ => rfl) fun f fd F => okWide F TB cMixed
  have cModel : Cal l.prog w K mg base 4 "_law_model" 1 rModel := by
    obtain ⟨f2, oc2, od2, kV2, doc2, pm2, an2, cdv2, ct2, osl2, a2, l2, c2, kk2⟩ := D.dModel
    have F2 := fun_mk (st := sModel) l2 c2 kk2
    exact ⟨f2, _, ["_law_changes_here"], okModel F2 TB cHeights (code_of a2 l2 ht) (hTB (c0, P0) (List.mem_singleton.mpr rfl)) (List.mem_singleton.mpr rfl) (fun p hp _ => by
      have hp : p ∈ [(P0, modelQ)] := hp
      rw [List.mem_singleton.mp hp]), PySem.W.mg_of X G a2, kk2, F2.binds (b1 fun _ _ _ _ _ _ _ => rfl)⟩
  exact okLaw FL TB TK ⟨cChanges, cWide, cCell, cSome, cClosed, cModel, cSteps, cDue, cStepLike, cDone⟩
/-- the law row's walk; what is known of the tables of code objects is told -/
theorem walk_law {l : PySem.W.OpenLaw} {q : Program} {loose : List Str} {XP : (Str → Option Value) → Heap → Prop} {YP : World → Heap → Prop} {d : DefRec} {K : Params → PySem.W.Frag} (hn : l.most = some 63) (hdf : d.params.defaults = []) (hY : ∀ (w : World) (h : Heap), YP w h → (K w.params).In h)
    (hq : ((recsOf q).find? fun e => e.name == ("_law_model" : Str)).isSome = true)
    (F : ∀ (w : World) (mg : Str → Option Value) (fa : Addr) (h : Heap), (K w.params).In h → h.Ns mainGlobals mg → mg d.name = some (.ref fa) → (∀ c P : Addr, PySem.W.tabIn (K w.params) "_law_model" = some (c, P) → PySem.W.CodeHd h c P ∧ h.get? P = some { cls := .none, data := .fields #[] }) →
      LamX.LawAtS l w (K w.params) (L2N.CX l.prog w) 6 63 "_law_script" mg fa h) :
    PySem.W.WalkO q loose XP YP l.row.toRowW d [] (fun f vs => PySem.call f vs) := by
  refine Att.attach_callB hn hdf fun w s₀ s₁ mg mb fa o pm cd doc a vs ns G Y ho hd hcd hmg hobj hints hlen hbits hg => ?_
  have KX := hY w _ Y
  obtain ⟨r, hr⟩ := Option.isSome_iff_exists.mp hq
  obtain ⟨fd, cs, sp, hT, nT, C, hb, hsp, hF⟩ := F w mg fa _ KX G.T.g hmg fun c P ht => PySem.W.tab_of G.T KX hr ht
  exact LamX.law_callTs KX G.T.g G.T.b G.T.builtins G.T.nolimit hg hT nT C G.T.bmain hobj hints (Nat.le_trans hlen (by decide)) ⟨rfl, by decide, by decide⟩ hF hb (fun H hH hS => hsp H a ns hlen hbits hH hS) fun H e s' z => by
    obtain ⟨a, B, H', cls, d, _, _, _, _, _, _, _, hE⟩ := z
    exact hE
end
end N14

set_option maxHeartbeats 0
open PySem PySem.W PyProof.Rows
theorem PySem.Challenge.cw_patchweave_k14_steps_between_texts_holds : PySem.Challenge.rw_patchweave_k14_steps_between_texts.Holds := by
  w_on; o_law; k_head; (case hw => w_witness2)
  k_fill
  refine N14.walk_law (l := PySem.Challenge.rw_patchweave_k14_steps_between_texts) rfl rfl (fun w h Y => PySem.W.km_in_of Y) ?hq ?F
  case hq => decide +kernel
  case F =>
    intro w mg fa h KX G hmg tabs
    refine' N14.law_at KX G hmg ?ta ?tl ?tc ?tl2 ?tv ?tn tabs ?blt ?dfs ?lw
    (case ta => k_is); (case tl => k_is); (case tc => rfl); (case tl2 => k_is); (case tv => rfl); (case tn => first | rfl | kernel_rfl)
    case blt =>
      refine' N14.BuiltK.mk ?f0 ?f1 ?f2 ?f3 ?f4 ?f5 ?f6 ?f7 ?f8 ?f9 ?f10 ?f11 ?f12 ?f13
      case f0 => (unfold PD.FreeK; k_is)
      case f1 => (unfold PD.FreeK; k_is)
      case f2 => (unfold PD.FreeK; k_is)
      case f3 => (unfold PD.FreeK; k_is)
      case f4 => (unfold PD.FreeK; k_is)
      case f5 => (unfold PD.FreeK; k_is)
      case f6 => (unfold PD.FreeK; k_is)
      case f7 => (unfold PD.FreeK; k_is)
      case f8 => (unfold PD.FreeK; k_is)
      case f9 => (unfold PD.FreeK; k_is)
      case f10 => (unfold PD.FreeK; k_is)
      case f11 => (unfold PD.FreeK; k_is)
      case f12 => (unfold PD.FreeK; k_is)
      case f13 => (unfold PD.FreeK; k_is)
    case dfs =>
      refine' N14.DefsK.mk ?d0 ?d1 ?d2 ?d3 ?d4 ?d5 ?d6 ?d7 ?d8 ?d9 ?d10 ?d11 ?d12 ?d13 ?d14 ?d15 ?d16 ?d17
      case d0 =>
        refine' PD.defK_mk ?d0a ?d0l ?d0c ?d0k
        (case d0a => k_is); (case d0l => k_is); (case d0c => k_is); (case d0k => k_is)
      case d1 =>
        refine' PD.defK_mk ?d1a ?d1l ?d1c ?d1k
        (case d1a => k_is); (case d1l => k_is); (case d1c => k_is); (case d1k => k_is)
      case d2 =>
        refine' PD.defK_mk ?d2a ?d2l ?d2c ?d2k
        (case d2a => k_is); (case d2l => k_is); (case d2c => k_is); (case d2k => k_is)
      case d3 =>
        refine' PD.defK_mk ?d3a ?d3l ?d3c ?d3k
        (case d3a => k_is); (case d3l => k_is); (case d3c => k_is); (case d3k => k_is)
      case d4 =>
        refine' PD.defK_mk ?d4a ?d4l ?d4c ?d4k
        (case d4a => k_is); (case d4l => k_is); (case d4c => k_is); (case d4k => k_is)
      case d5 =>
        refine' PD.defK_mk ?d5a ?d5l ?d5c ?d5k
        (case d5a => k_is); (case d5l => k_is); (case d5c => k_is); (case d5k => k_is)
      case d6 =>
        refine' PD.defK_mk ?d6a ?d6l ?d6c ?d6k
        (case d6a => k_is); (case d6l => k_is); (case d6c => k_is); (case d6k => k_is)
      case d7 =>
        refine' PD.defK_mk ?d7a ?d7l ?d7c ?d7k
        (case d7a => k_is); (case d7l => k_is); (case d7c => k_is); (case d7k => k_is)
      case d8 =>
        refine' PD.defK_mk ?d8a ?d8l ?d8c ?d8k
        (case d8a => k_is); (case d8l => k_is); (case d8c => k_is); (case d8k => k_is)
      case d9 =>
        refine' PD.defK_mk ?d9a ?d9l ?d9c ?d9k
        (case d9a => k_is); (case d9l => k_is); (case d9c => k_is); (case d9k => k_is)
      case d10 =>
        refine' PD.defK_mk ?d10a ?d10l ?d10c ?d10k
        (case d10a => k_is); (case d10l => k_is); (case d10c => k_is); (case d10k => k_is)
      case d11 =>
        refine' PD.defK_mk ?d11a ?d11l ?d11c ?d11k
        (case d11a => k_is); (case d11l => k_is); (case d11c => k_is); (case d11k => k_is)
      case d12 =>
        refine' PD.defK_mk ?d12a ?d12l ?d12c ?d12k
        (case d12a => k_is); (case d12l => k_is); (case d12c => k_is); (case d12k => k_is)
      case d13 =>
        refine' PD.defK_mk ?d13a ?d13l ?d13c ?d13k
        (case d13a => k_is); (case d13l => k_is); (case d13c => k_is); (case d13k => k_is)
      case d14 =>
        refine' PD.defK_mk ?d14a ?d14l ?d14c ?d14k
        (case d14a => k_is); (case d14l => k_is); (case d14c => k_is); (case d14k => k_is)
      case d15 =>
        refine' PD.defK_mk ?d15a ?d15l ?d15c ?d15k
        (case d15a => k_is); (case d15l => k_is); (case d15c => k_is); (case d15k => k_is)
      case d16 =>
        refine' PD.defK_mk ?d16a ?d16l ?d16c ?d16k
        (case d16a => k_is); (case d16l => k_is); (case d16c => k_is); (case d16k => k_is)
      case d17 =>
        refine' PD.defK_mk ?d17a ?d17l ?d17c ?d17k
        (case d17a => k_is); (case d17l => k_is); (case d17c => k_is); (case d17k => k_is)
    case lw =>
      refine' PD.defK_mk ?lwa ?lwl ?lwc ?lwk
      (case lwa => k_is); (case lwl => k_is); (case lwc => k_is); (case lwk => k_is)
