import PyProof.Rows.All
import Wide.All
import OpenK.AllK
import Wide.FinOn
import HandS.ForMost
import HandS.ForExc
import HandS.FStr
import HandS.RaiseMore
import HandS.TryMany
import HandS.HotCalls
import HandS.ExcIs
import HandS.Wide
import HandS.ExcCtx
import HandS.Star
import HandS.Hot
import HandS.Dict
import HandS.ForDict
import HandS.IsInst
import HandS.Text
import HandS.RaiseFrom
import HandS.SuiteRaise
import HandS.TupSets
import HandS.SetTxt0
import HandS.SetFor
import HandS.Strs
import PyProof.Rows.SortShellAny
import PySem.Challenge.RW_patchweave_k03_texts_read
set_option Elab.async false
set_option linter.all false
set_option maxRecDepth 100000
set_option maxHeartbeats 4000000
/-! Pure data over the layer: what an expression, a statement of a def comes to, told by plain data alone. -/
namespace PD
open PySem L2

/-! ### the strongest readings -/
def WE (X : Cx) (e : Expr) : TE := fun σ H Q => ∀ (pins : List (Addr × Obj)) (s : Shared), Inv X pins σ H s → wpAny (model X.prog X.w) X.A (eval e X.env) (EP X pins σ Q) X.xe s
def WT (X : Cx) (e : Expr) : TT := fun σ H Q => ∀ (pins : List (Addr × Obj)) (s : Shared), Inv X pins σ H s → wpAny (model X.prog X.w) X.A (isTrue e X.env (eval e X.env)) (TP X pins σ Q) X.xe s
def WW (X : Cx) (e : Expr) : TT := fun σ H Q => ∀ (whole : Sem Value) (pins : List (Addr × Obj)) (s : Shared), Inv X pins σ H s → wpAny (model X.prog X.w) X.A (isTrue e X.env whole) (TP X pins σ Q) X.xe s
def WA (X : Cx) (es : List Expr) : TA := fun σ H Q => ∀ (pos : Pos) (pins : List (Addr × Obj)) (s : Shared), Inv X pins σ H s → wpAny (model X.prog X.w) X.A (spliced (backTo pos (starEach es X.env))) (AP X pins σ Q) X.xe s
def WS (X : Cx) (st : Stmt) : TS := fun D σ H => ∀ (pins : List (Addr × Obj)) (s : Shared), Inv X pins σ H s → wpAny (model X.prog X.w) X.A (exec st X.env) (SP X pins D) X.xe s
def WSs (X : Cx) (st : List Stmt) : TS := fun D σ H => ∀ (pins : List (Addr × Obj)) (s : Shared), Inv X pins σ H s → wpAny (model X.prog X.w) X.A (execs st X.env) (SP X pins D) X.xe s
section
variable {X : Cx} {e : Expr} {es : List Expr} {st : Stmt} {sts : List Stmt} {σ : L2.St} {H : Hp} {D : Ends}
theorem pe_w : PE X e (WE X e) := ⟨fun pins s _ _ _ I h => h pins s I⟩
theorem pt_w : PT X e (WT X e) := ⟨fun pins s _ _ _ I h => h pins s I⟩
theorem pw_w : PW X e (WW X e) := ⟨fun whole pins s _ _ _ I h => h whole pins s I⟩
theorem pa_w : PA X es (WA X es) := ⟨fun pos pins s _ _ _ I h => h pos pins s I⟩
theorem ps_w : PS X st (WS X st) := ⟨fun pins s _ _ _ I h => h pins s I⟩
theorem pss_w : PSs X sts (WSs X sts) := ⟨fun pins s _ _ _ I h => h pins s I⟩
theorem w_e {t : TE} (h : PE X e t) {Q : VK} (q : t σ H Q) : WE X e σ H Q := fun pins s I => h.run pins s σ H Q I q
theorem w_t {t : TT} (h : PT X e t) {Q : Bool → Hp → Prop} (q : t σ H Q) : WT X e σ H Q := fun pins s I => h.run pins s σ H Q I q
theorem w_w {t : TT} (h : PW X e t) {Q : Bool → Hp → Prop} (q : t σ H Q) : WW X e σ H Q := fun whole pins s I => h.run whole pins s σ H Q I q
theorem w_a {t : TA} (h : PA X es t) {Q : List V → Hp → Prop} (q : t σ H Q) : WA X es σ H Q := fun pos pins s I => h.run pos pins s σ H Q I q
theorem w_s {t : TS} (h : PS X st t) (q : t D σ H) : WS X st D σ H := fun pins s I => h.run pins s σ H D I q
theorem w_ss {t : TS} (h : PSs X sts t) (q : t D σ H) : WSs X sts D σ H := fun pins s I => h.run pins s σ H D I q
theorem WE.imp {Q Q' : VK} (h : WE X e σ H Q) (k : ∀ v H', Q v H' → Q' v H') : WE X e σ H Q' := fun pins s I =>
  wpAny_mono (h pins s I) (fun _ _ ⟨v, H', I', r, q⟩ => ⟨v, H', I', r, k v H' q⟩) fun _ _ x => x
end

/-! ### heaps -/
def Ex (H H' : Hp) : Prop := ∀ a o, H a = some o → H' a = some o
theorem Ex.refl (H : Hp) : Ex H H := fun _ _ h => h
theorem Ex.trans {H H1 H2 : Hp} (a : Ex H H1) (b : Ex H1 H2) : Ex H H2 := fun x o h => b x o (a x o h)
theorem Ex.back {H H' : Hp} (e : Ex H H') {a : Addr} (h : H' a = none) : H a = none := by
  cases q : H a with
  | none => rfl
  | some o => rw [e a o q] at h; cases h
theorem Ex.new {H : Hp} {p : Addr} {o : HO} (h : H p = none) : Ex H (upd H p o) := fun a u e => by
  rw [upd_ne (ne_of_none e h)]; exact e
theorem Ex.mut {H H' : Hp} {p : Addr} {o : HO} (e : Ex H H') (h : H p = none) : Ex H (upd H' p o) := fun a u q => by
  rw [upd_ne (ne_of_none q h)]; exact e a u q
theorem Ex.rd {H H' : Hp} (e : Ex H H') {a : Addr} {u : HO} (h : Rd H a u) : Rd H' a u := by
  rcases h with h | ⟨o, h⟩
  · exact .inl (e _ _ h)
  · exact .inr ⟨o, e _ _ h⟩
theorem Ex.sql {K : PySem.W.Frag} {H H' : Hp} (e : Ex H H') {a : Addr} {xs : List V} (h : SqL K H a xs) : SqL K H' a xs := by
  rcases h with h | h
  · exact .inl (e.rd h)
  · exact .inr h
theorem Ex.sqt {K : PySem.W.Frag} {H H' : Hp} (e : Ex H H') {a : Addr} {xs : List V} (h : SqT K H a xs) : SqT K H' a xs := by
  rcases h with h | h
  · exact .inl (e.rd h)
  · exact .inr h
/-- F the part that nobody changes any more; what is new in it was nowhere ahead -/
structure Ext (F H F' H' : Hp) : Prop where
  f : Ex F F'
  h : Ex H H'
  i : Ex F' H'
  n : ∀ a, H a ≠ none → F' a = F a
theorem Ext.refl {F H : Hp} (i : Ex F H) : Ext F H F H := ⟨Ex.refl F, Ex.refl H, i, fun _ _ => rfl⟩
theorem Ex.ne {H H' : Hp} (e : Ex H H') {a : Addr} (h : H a ≠ none) : H' a ≠ none := fun z => h (e.back z)
theorem Ext.trans {F H F1 H1 F2 H2 : Hp} (a : Ext F H F1 H1) (b : Ext F1 H1 F2 H2) : Ext F H F2 H2 :=
  ⟨a.f.trans b.f, a.h.trans b.h, b.i, fun x hx => (b.n x (a.h.ne hx)).trans (a.n x hx)⟩
/-- a thing is made and told for ever -/
theorem Ext.made {F H : Hp} (i : Ex F H) {p : Addr} {o : HO} (h : H p = none) : Ext F H (upd F p o) (upd H p o) := by
  have hf : F p = none := i.back h
  refine ⟨Ex.new hf, Ex.new h, fun a u e => ?_, fun a ha => ?_⟩
  · by_cases q : a = p
    · subst q; rw [upd_same] at e ⊢; exact e
    · rw [upd_ne q] at e ⊢; exact i _ _ e
  · rw [upd_ne (fun q => ha (by rw [q]; exact h))]
/-- a thing that is made, held back -/
theorem Ext.kept {F H : Hp} (i : Ex F H) {p : Addr} {o : HO} (h : H p = none) : Ext F H F (upd H p o) :=
  ⟨Ex.refl F, Ex.new h, i.trans (Ex.new h), fun _ _ => rfl⟩
/-- what was held back is told for ever -/
theorem Ext.told {F H F' H' : Hp} (x : Ext F H F' H') {p : Addr} {o : HO} (hp : H p = none) (hf : F' p = none) (h : H' p = some o) : Ext F H (upd F' p o) H' := by
  refine ⟨x.f.trans (Ex.new hf), x.h, fun a u e => ?_, fun a ha => ?_⟩
  · by_cases q : a = p
    · subst q; rw [upd_same] at e; rw [h]; exact e
    · rw [upd_ne q] at e; exact x.i _ _ e
  · rw [upd_ne (fun q => ha (by rw [q]; exact hp))]; exact x.n a ha

/-! ### data -/
mutual
inductive Is (K : PySem.W.Frag) (F : Hp) : V → PyData → Prop
  | non : Is K F .non .none
  | bl (b : Bool) : Is K F (.bl b) (.bool b)
  | int (i : Int) : Is K F (.int i) (.int i)
  | str (x : Str) : Is K F (.str x) (.str x)
  | lst {a : Addr} {xs : List V} {ds : List PyData} : F a = some (.lst xs) → IsAll K F xs ds → Is K F (.ref a) (.list ds)
  | tup {a : Addr} {xs : List V} {ds : List PyData} : SqT K F a xs → IsAll K F xs ds → Is K F (.ref a) (.tuple ds)
inductive IsAll (K : PySem.W.Frag) (F : Hp) : List V → List PyData → Prop
  | nil : IsAll K F [] []
  | cons {v : V} {vs : List V} {d : PyData} {ds : List PyData} : Is K F v d → IsAll K F vs ds → IsAll K F (v :: vs) (d :: ds)
end
section
variable {K : PySem.W.Frag} {F F' : Hp}
mutual
theorem Is.mono (e : Ex F F') : ∀ {v : V} {d : PyData}, Is K F v d → Is K F' v d
  | _, _, .non => .non
  | _, _, .bl b => .bl b
  | _, _, .int i => .int i
  | _, _, .str x => .str x
  | _, _, .lst h a => .lst (e _ _ h) (IsAll.mono e a)
  | _, _, .tup h a => .tup (e.sqt h) (IsAll.mono e a)
theorem IsAll.mono (e : Ex F F') : ∀ {vs : List V} {ds : List PyData}, IsAll K F vs ds → IsAll K F' vs ds
  | _, _, .nil => .nil
  | _, _, .cons h a => .cons (Is.mono e h) (IsAll.mono e a)
end
mutual
theorem Is.dp : ∀ {v : V} {d : PyData}, Is K F v d → Dp K F v d
  | _, _, .non => .non
  | _, _, .bl b => .bl b
  | _, _, .int i => .int i
  | _, _, .str x => .str x
  | _, _, .lst h a => .lst (SqL.of h) (IsAll.dp a)
  | _, _, .tup h a => .tup h (IsAll.dp a)
theorem IsAll.dp : ∀ {vs : List V} {ds : List PyData}, IsAll K F vs ds → DpAll K F vs ds
  | _, _, .nil => .nil
  | _, _, .cons h a => .cons (Is.dp h) (IsAll.dp a)
end
theorem IsAll.len : ∀ {vs : List V} {ds : List PyData}, IsAll K F vs ds → vs.length = ds.length
  | _, _, .nil => rfl
  | _, _, .cons _ a => congrArg (· + 1) (IsAll.len a)
theorem IsAll.get : ∀ {vs : List V} {ds : List PyData} {i : Nat} {d : PyData}, IsAll K F vs ds → ds[i]? = some d → ∃ v, vs[i]? = some v ∧ Is K F v d
  | _, _, _, _, .nil, e => by simp at e
  | _, _, 0, _, .cons h _, e => by cases e; exact ⟨_, rfl, h⟩
  | _, _, i + 1, _, .cons _ a, e => IsAll.get (i := i) a e
theorem IsAll.get' : ∀ {vs : List V} {ds : List PyData} {i : Nat} {v : V}, IsAll K F vs ds → vs[i]? = some v → ∃ d, ds[i]? = some d ∧ Is K F v d
  | _, _, _, _, .nil, e => by simp at e
  | _, _, 0, _, .cons h _, e => by cases e; exact ⟨_, rfl, h⟩
  | _, _, i + 1, _, .cons _ a, e => IsAll.get' (i := i) a e
theorem IsAll.append : ∀ {vs ws : List V} {ds es : List PyData}, IsAll K F vs ds → IsAll K F ws es → IsAll K F (vs ++ ws) (ds ++ es)
  | _, _, _, _, .nil, b => b
  | _, _, _, _, .cons h a, b => .cons h (IsAll.append a b)
theorem IsAll.take : ∀ {vs : List V} {ds : List PyData} (n : Nat), IsAll K F vs ds → IsAll K F (vs.take n) (ds.take n)
  | _, _, 0, _ => .nil
  | _, _, _ + 1, .nil => .nil
  | _, _, n + 1, .cons h a => .cons h (IsAll.take n a)
theorem IsAll.drop : ∀ {vs : List V} {ds : List PyData} (n : Nat), IsAll K F vs ds → IsAll K F (vs.drop n) (ds.drop n)
  | _, _, 0, a => a
  | _, _, _ + 1, .nil => .nil
  | _, _, n + 1, .cons _ a => IsAll.drop n a
theorem IsAll.dropLast : ∀ {vs : List V} {ds : List PyData}, IsAll K F vs ds → IsAll K F vs.dropLast ds.dropLast
  | _, _, .nil => .nil
  | _, _, .cons _ .nil => .nil
  | _, _, .cons h (.cons h2 a) => .cons h (IsAll.dropLast (.cons h2 a))
theorem IsAll.set : ∀ {vs : List V} {ds : List PyData} {v : V} {d : PyData} (n : Nat), IsAll K F vs ds → Is K F v d → IsAll K F (vs.set n v) (ds.set n d)
  | _, _, _, _, _, .nil, _ => .nil
  | _, _, _, _, 0, .cons _ a, q => .cons q a
  | _, _, _, _, n + 1, .cons h a, q => .cons h (IsAll.set n a q)
theorem IsAll.erase : ∀ {vs : List V} {ds : List PyData} (n : Nat), IsAll K F vs ds → IsAll K F (vs.eraseIdx n) (ds.eraseIdx n)
  | _, _, _, .nil => .nil
  | _, _, 0, .cons _ a => a
  | _, _, n + 1, .cons h a => .cons h (IsAll.erase n a)
theorem IsAll.strs : ∀ (zs : List Str), IsAll K F (zs.map V.str) (zs.map PyData.str)
  | [] => .nil
  | z :: zs => .cons (.str z) (IsAll.strs zs)
theorem IsAll.ints : ∀ (zs : List Int), IsAll K F (zs.map V.int) (zs.map PyData.int)
  | [] => .nil
  | z :: zs => .cons (.int z) (IsAll.ints zs)
theorem IsAll.bools : ∀ (zs : List Bool), IsAll K F (zs.map V.bl) (zs.map PyData.bool)
  | [] => .nil
  | z :: zs => .cons (.bl z) (IsAll.bools zs)
theorem Is.str_eq {v : V} {z : Str} (h : Is K F v (.str z)) : v = .str z := by cases h; rfl
theorem Is.int_eq {v : V} {z : Int} (h : Is K F v (.int z)) : v = .int z := by cases h; rfl
theorem Is.bl_eq {v : V} {z : Bool} (h : Is K F v (.bool z)) : v = .bl z := by cases h; rfl
theorem Is.non_eq {v : V} (h : Is K F v .none) : v = .non := by cases h; rfl
theorem IsAll.strs_eq : ∀ {zs : List Str} {vs : List V}, IsAll K F vs (zs.map PyData.str) → vs = zs.map V.str
  | [], _, h => by cases h; rfl
  | z :: zs, _, h => by
    cases h with
    | cons h a => rw [h.str_eq, IsAll.strs_eq a]; rfl
theorem IsAll.ints_eq : ∀ {zs : List Int} {vs : List V}, IsAll K F vs (zs.map PyData.int) → vs = zs.map V.int
  | [], _, h => by cases h; rfl
  | z :: zs, _, h => by
    cases h with
    | cons h a => rw [h.int_eq, IsAll.ints_eq a]; rfl
theorem IsAll.bools_eq : ∀ {zs : List Bool} {vs : List V}, IsAll K F vs (zs.map PyData.bool) → vs = zs.map V.bl
  | [], _, h => by cases h; rfl
  | z :: zs, _, h => by
    cases h with
    | cons h a => rw [h.bl_eq, IsAll.bools_eq a]; rfl
end

/-! ### slots: data that nobody changes; a list that can be read; a list of one's own; a value as it is -/
inductive Sl where
  | un
  | sh (d : PyData)
  | bo (ds : List PyData)
  | ow (l : Addr) (ds : List PyData)
  | raw (v : V)
  /-- a thing of one's own: the places that it holds, what stands there -/
  | rg (fp : List Addr) (P : V → Hp → Hp → Prop)
  /-- a thing of the caller's, as it stood at the entry -/
  | rb (P : V → Hp → Hp → Prop)
/-- the places that a slot holds for itself -/
def Sl.fp : Sl → List Addr
  | .ow l _ => [l]
  | .rg fp _ => fp
  | _ => []
def SlOk (K : PySem.W.Frag) (B F H : Hp) : Option V → Sl → Prop
  | _, .un => True
  | some v, .sh d => Is K F v d
  | some v, .bo ds => ∃ l vs, v = .ref l ∧ SqL K B l vs ∧ IsAll K F vs ds
  | some v, .ow l ds => v = .ref l ∧ F l = none ∧ B l = none ∧ ∃ vs, H l = some (.lst vs) ∧ IsAll K F vs ds
  | some v, .raw w => v = w
  | some v, .rg fp P => (∀ F' H', Ex F F' → (∀ a ∈ fp, H' a = H a) → P v F' H') ∧ ∀ a ∈ fp, F a = none ∧ B a = none ∧ H a ≠ none
  | some v, .rb P => ∀ F' H', Ex F F' → Ex B H' → P v F' H'
  | none, _ => False
theorem SlOk.held {K : PySem.W.Frag} {B F H : Hp} : ∀ {o : Option V} {t : Sl} {a : Addr}, SlOk K B F H o t → a ∈ t.fp → F a = none ∧ B a = none ∧ H a ≠ none
  | some _, .ow l _, a, ⟨_, hf, hb, vs, h, _⟩, m => by
    rw [List.mem_singleton.mp m]
    exact ⟨hf, hb, by rw [h]; exact fun q => nomatch q⟩
  | some _, .rg fp P, a, ⟨_, h⟩, m => h a m
  | none, .ow _ _, _, h, _ => h.elim
  | none, .rg _ _, _, h, _ => h.elim
  | _, .un, _, _, m => nomatch m
  | _, .sh _, _, _, m => nomatch m
  | _, .bo _, _, _, m => nomatch m
  | _, .raw _, _, _, m => nomatch m
  | _, .rb _, _, _, m => nomatch m
/-- what a slot tells stays where the places that it holds stay -/
theorem SlOk.mut {K : PySem.W.Frag} {B F H H' : Hp} : ∀ {o : Option V} {t : Sl}, SlOk K B F H o t → (∀ a ∈ t.fp, H' a = H a) → SlOk K B F H' o t
  | _, .un, _, _ => trivial
  | some _, .sh _, h, _ => h
  | some _, .bo _, h, _ => h
  | some _, .raw _, h, _ => h
  | some _, .rb _, h, _ => h
  | some _, .ow l _, ⟨e, hf, hb, vs, h, a⟩, m => ⟨e, hf, hb, vs, (m l (List.mem_singleton.mpr rfl)).trans h, a⟩
  | some _, .rg fp P, ⟨h, q⟩, m => ⟨fun F' H2 x y => h F' H2 x fun a ha => (y a ha).trans (m a ha), fun a ha => ⟨(q a ha).1, (q a ha).2.1, by rw [m a ha]; exact (q a ha).2.2⟩⟩
  | none, .sh _, h, _ => h.elim
  | none, .bo _, h, _ => h.elim
  | none, .ow _ _, h, _ => h.elim
  | none, .raw _, h, _ => h.elim
  | none, .rg _ _, h, _ => h.elim
  | none, .rb _, h, _ => h.elim
theorem SlOk.frz {K : PySem.W.Frag} {B F F' H : Hp} (xf : Ex F F') : ∀ {o : Option V} {t : Sl}, SlOk K B F H o t → (∀ a ∈ t.fp, F' a = F a) → SlOk K B F' H o t
  | _, .un, _, _ => trivial
  | some _, .sh _, h, _ => Is.mono xf h
  | some _, .bo _, ⟨l, vs, e, h, a⟩, _ => ⟨l, vs, e, h, a.mono xf⟩
  | some _, .raw _, h, _ => h
  | some _, .rb _, h, _ => fun F2 H2 x y => h F2 H2 (xf.trans x) y
  | some _, .ow l _, ⟨e, hf, hb, vs, h, a⟩, m => ⟨e, (m l (List.mem_singleton.mpr rfl)).trans hf, hb, vs, h, a.mono xf⟩
  | some _, .rg fp P, ⟨h, q⟩, m => ⟨fun F2 H2 x y => h F2 H2 (xf.trans x) y, fun a ha => ⟨(m a ha).trans (q a ha).1, (q a ha).2⟩⟩
  | none, .sh _, h, _ => h.elim
  | none, .bo _, h, _ => h.elim
  | none, .ow _ _, h, _ => h.elim
  | none, .raw _, h, _ => h.elim
  | none, .rg _ _, h, _ => h.elim
  | none, .rb _, h, _ => h.elim
/-- the slots hold what is told of them; B: the heap at the def's entry -/
structure En (K : PySem.W.Frag) (B F H : Hp) (σ : L2.St) (ρ : List Sl) : Prop where
  i : Ex F H
  b : Ex B H
  s : ∀ (j : Nat) (s : Sl), ρ[j]? = some s → ∃ o, σ[j]? = some o ∧ SlOk K B F H o s
  d : ∀ (i j : Nat) (s t : Sl) (a : Addr), ρ[i]? = some s → ρ[j]? = some t → a ∈ s.fp → a ∈ t.fp → i = j
theorem SlOk.ext {K : PySem.W.Frag} {B F H F' H' : Hp} (x : Ext F H F' H') {o : Option V} {s : Sl} (h : SlOk K B F H o s) : SlOk K B F' H' o s := by
  have k : ∀ a ∈ s.fp, H' a = H a ∧ F' a = F a := fun a ha => by
    have q := (h.held ha).2.2
    refine ⟨?_, x.n a q⟩
    cases e : H a with
    | none => exact absurd e q
    | some u => exact x.h _ _ e
  exact (h.mut fun a ha => (k a ha).1).frz x.f fun a ha => (k a ha).2
theorem En.ext {K : PySem.W.Frag} {B F H F' H' : Hp} {σ : L2.St} {ρ : List Sl} (E : En K B F H σ ρ) (x : Ext F H F' H') : En K B F' H' σ ρ :=
  ⟨x.i, E.b.trans x.h, fun j s e => let ⟨o, q, h⟩ := E.s j s e; ⟨o, q, h.ext x⟩, E.d⟩
theorem set_at {α : Type} {xs : List α} {i j : Nat} {x y : α} (e : (xs.set i x)[j]? = some y) : (i = j ∧ i < xs.length ∧ y = x) ∨ (i ≠ j ∧ xs[j]? = some y) := by
  by_cases q : i = j
  · subst q
    by_cases hi : i < xs.length
    · rw [List.getElem?_set_self hi] at e
      exact .inl ⟨rfl, hi, (Option.some.inj e).symm⟩
    · rw [List.getElem?_eq_none (by rw [List.length_set]; omega)] at e
      cases e
  · rw [List.getElem?_set_ne q] at e
    exact .inr ⟨q, e⟩
theorem En.set_ {K : PySem.W.Frag} {B F H : Hp} {σ : L2.St} {ρ : List Sl} (E : En K B F H σ ρ) {i : Nat} {o : Option V} {s : Sl} (h : SlOk K B F H o s)
    (hd : ∀ (j : Nat) (t : Sl) (a : Addr), ρ[j]? = some t → a ∈ s.fp → a ∈ t.fp → i = j) : En K B F H (σ.set i o) (ρ.set i s) := by
  refine ⟨E.i, E.b, fun j t e => ?_, fun x y t u a ea eb ha hb => ?_⟩
  · rcases set_at e with ⟨rfl, hi, rfl⟩ | ⟨q, e⟩
    · obtain ⟨o2, e2, _⟩ := E.s i _ (List.getElem?_eq_getElem hi)
      exact ⟨o, List.getElem?_set_self (List.getElem?_eq_some_iff.mp e2).1, h⟩
    · obtain ⟨o2, e2, h2⟩ := E.s j t e
      exact ⟨o2, by rw [List.getElem?_set_ne q]; exact e2, h2⟩
  · rcases set_at ea with ⟨rfl, _, rfl⟩ | ⟨q1, ea2⟩
    · rcases set_at eb with ⟨rfl, _, _⟩ | ⟨_, eb2⟩
      · rfl
      · exact hd y u a eb2 ha hb
    · rcases set_at eb with ⟨rfl, _, rfl⟩ | ⟨_, eb2⟩
      · exact (hd x t a ea2 hb ha).symm
      · exact E.d x y t u a ea2 eb2 ha hb
def Sl.free : Sl → Bool
  | .ow _ _ => false
  | .rg _ _ => false
  | _ => true
theorem Sl.free_fp : ∀ {s : Sl} {a : Addr}, s.free = true → a ∈ s.fp → False
  | .ow _ _, _, h, _ => nomatch h
  | .rg _ _, _, h, _ => nomatch h
  | .un, _, _, m => nomatch m
  | .sh _, _, _, m => nomatch m
  | .bo _, _, _, m => nomatch m
  | .raw _, _, _, m => nomatch m
  | .rb _, _, _, m => nomatch m
theorem En.set {K : PySem.W.Frag} {B F H : Hp} {σ : L2.St} {ρ : List Sl} (E : En K B F H σ ρ) {i : Nat} {v : V} {s : Sl} (h : SlOk K B F H (some v) s) (hs : s.free = true) : En K B F H (σ.set i (some v)) (ρ.set i s) :=
  E.set_ h fun j t a _ ha _ => (Sl.free_fp hs ha).elim
/-- a new list of one's own -/
theorem En.own {K : PySem.W.Frag} {B F H F' H' : Hp} {σ : L2.St} {ρ : List Sl} (E : En K B F H σ ρ) (x : Ext F H F' H') {i : Nat} {p : Addr} {vs : List V} {ds : List PyData} (hp : H p = none) (hf : F' p = none) (hh : H' p = some (.lst vs)) (a : IsAll K F' vs ds) :
    En K B F' H' (σ.set i (some (.ref p))) (ρ.set i (.ow p ds)) :=
  (E.ext x).set_ (o := some (.ref p)) ⟨rfl, hf, E.b.back hp, vs, hh, a⟩ fun j t b ej hb ht => by
    obtain ⟨o, _, h2⟩ := E.s j _ ej
    rw [List.mem_singleton.mp hb] at ht
    exact absurd hp (h2.held ht).2.2
/-- one's own list is changed -/
theorem En.wr {K : PySem.W.Frag} {B F H : Hp} {σ : L2.St} {ρ : List Sl} (E : En K B F H σ ρ) {i : Nat} {l : Addr} {ds es : List PyData} {ws : List V} (hi : ρ[i]? = some (.ow l ds)) (a : IsAll K F ws es) :
    En K B F (upd H l (.lst ws)) σ (ρ.set i (.ow l es)) := by
  obtain ⟨o, e1, h1⟩ := E.s i _ hi
  cases o with
  | none => exact h1.elim
  | some v =>
  obtain ⟨e0, hf, hb, vs, hh, _⟩ := h1
  refine ⟨E.i.mut hf, E.b.mut hb, fun j t e => ?_, fun x y t u b ea eb ha hb => ?_⟩
  · rcases set_at e with ⟨rfl, _, rfl⟩ | ⟨q, e⟩
    · exact ⟨_, e1, e0, hf, hb, ws, upd_same, a⟩
    · obtain ⟨o2, e2, h2⟩ := E.s j t e
      refine ⟨o2, e2, h2.mut fun b hb => upd_ne fun z => ?_⟩
      rw [z] at hb
      exact q (E.d i j _ t l hi e (List.mem_singleton.mpr rfl) hb)
  · have back : ∀ (z : Nat) (s : Sl), (ρ.set i (.ow l es))[z]? = some s → b ∈ s.fp → ∃ s2, ρ[z]? = some s2 ∧ b ∈ s2.fp := fun z s e m => by
      rcases set_at e with ⟨rfl, _, rfl⟩ | ⟨_, e⟩
      · exact ⟨_, hi, m⟩
      · exact ⟨s, e, m⟩
    obtain ⟨s1, h1, m1⟩ := back x t ea ha
    obtain ⟨s2, h2, m2⟩ := back y u eb hb
    exact E.d x y s1 s2 b h1 h2 m1 m2
/-- one's own list is told for ever -/
theorem En.frz {K : PySem.W.Frag} {B F H : Hp} {σ : L2.St} {ρ : List Sl} (E : En K B F H σ ρ) {i : Nat} {l : Addr} {ds : List PyData} (hi : ρ[i]? = some (.ow l ds)) :
    ∃ F', Ex F F' ∧ (∀ a, B a ≠ none → F' a = F a) ∧ En K B F' H σ (ρ.set i (.sh (.list ds))) := by
  obtain ⟨o, e1, h1⟩ := E.s i _ hi
  cases o with
  | none => exact h1.elim
  | some v =>
  obtain ⟨e0, hf, hb, vs, hh, a0⟩ := h1
  have xf : Ex F (upd F l (.lst vs)) := Ex.new hf
  refine ⟨upd F l (.lst vs), xf, fun a ha => by rw [upd_ne (fun q => ha (by rw [q]; exact hb))], fun a u e => ?_, E.b, fun j t e => ?_, fun x y t u b ea eb ha hb => ?_⟩
  · by_cases q : a = l
    · subst q; rw [upd_same] at e; rw [hh]; exact e
    · rw [upd_ne q] at e; exact E.i _ _ e
  · rcases set_at e with ⟨rfl, _, rfl⟩ | ⟨q, e⟩
    · subst e0
      exact ⟨_, e1, .lst upd_same (a0.mono xf)⟩
    · obtain ⟨o2, e2, h2⟩ := E.s j t e
      refine ⟨o2, e2, h2.frz xf fun b hb => upd_ne fun z => ?_⟩
      rw [z] at hb
      exact q (E.d i j _ t l hi e (List.mem_singleton.mpr rfl) hb)
  · have back : ∀ (z : Nat) (s : Sl), (ρ.set i (.sh (.list ds)))[z]? = some s → b ∈ s.fp → ρ[z]? = some s := fun z s e m => by
      rcases set_at e with ⟨rfl, _, rfl⟩ | ⟨_, e⟩
      · exact nomatch m
      · exact e
    exact E.d x y t u b (back x t ea ha) (back y u eb hb) ha hb
end PD

set_option maxHeartbeats 4000000
namespace PD
open PySem L2

def isNone : PyData → Bool
  | .none => true
  | _ => false
/-! ### judgements of expressions. ex C: the class C may be raised here; W: what is wanted then -/
def Xc (W : WX) (ex : Addr → Prop) (F H : Hp) (σ : L2.St) : Prop := ∀ C F' H', ex C → Ext F H F' H' → W (.ref C) none σ H'
theorem Xc.ext {W : WX} {ex : Addr → Prop} {F H F1 H1 : Hp} {σ : L2.St} (c : Xc W ex F H σ) (x : Ext F H F1 H1) : Xc W ex F1 H1 σ := fun C F' H' e y => c C F' H' e (x.trans y)
def noX : Addr → Prop := fun _ => False
theorem xc0 {W : WX} {F H : Hp} {σ : L2.St} : Xc W noX F H σ := fun _ _ _ e => e.elim
/-- a value that is data -/
def ED (X : Cx) (W : WX) (ex : Addr → Prop) (e : Expr) (ρ : List Sl) (d : PyData) : Prop := ∀ B F H σ (Q : VK), En X.K B F H σ ρ → Xc W ex F H σ → (∀ v F' H', Ext F H F' H' → Is X.K F' v d → Q v H') → WE X e σ H Q
/-- a new list -/
def EL (X : Cx) (W : WX) (ex : Addr → Prop) (e : Expr) (ρ : List Sl) (ds : List PyData) : Prop := ∀ B F H σ (Q : VK), En X.K B F H σ ρ → Xc W ex F H σ →
  (∀ p vs F' H', Ext F H F' H' → H p = none → F' p = none → H' p = some (.lst vs) → IsAll X.K F' vs ds → Q (.ref p) H') → WE X e σ H Q
/-- a list that can be read -/
def EB (X : Cx) (W : WX) (ex : Addr → Prop) (e : Expr) (ρ : List Sl) (ds : List PyData) : Prop := ∀ B F H σ (Q : VK), En X.K B F H σ ρ → Xc W ex F H σ →
  (∀ p vs F' H', Ext F H F' H' → SqL X.K H' p vs → IsAll X.K F' vs ds → Q (.ref p) H') → WE X e σ H Q
/-- .. that nobody changes -/
def EP' (X : Cx) (W : WX) (ex : Addr → Prop) (e : Expr) (ρ : List Sl) (ds : List PyData) : Prop := ∀ B F H σ (Q : VK), En X.K B F H σ ρ → Xc W ex F H σ →
  (∀ p vs F' H', Ext F H F' H' → (SqL X.K B p vs ∨ SqL X.K F' p vs) → IsAll X.K F' vs ds → Q (.ref p) H') → WE X e σ H Q
/-- a test -/
def ET (X : Cx) (W : WX) (ex : Addr → Prop) (e : Expr) (ρ : List Sl) (b : Bool) : Prop := ∀ B F H σ (Q : Bool → Hp → Prop), En X.K B F H σ ρ → Xc W ex F H σ → (∀ F' H', Ext F H F' H' → Q b H') → WT X e σ H Q
def EW (X : Cx) (W : WX) (ex : Addr → Prop) (e : Expr) (ρ : List Sl) (b : Bool) : Prop := ∀ B F H σ (Q : Bool → Hp → Prop), En X.K B F H σ ρ → Xc W ex F H σ → (∀ F' H', Ext F H F' H' → Q b H') → WW X e σ H Q
/-- arguments -/
def AgOk (K : PySem.W.Frag) (F H : Hp) (v : V) : Sl → Prop
  | .sh d => Is K F v d
  | .bo ds => ∃ l vs, v = .ref l ∧ SqL K H l vs ∧ IsAll K F vs ds
  | .raw w => v = w
  | .rb P => ∀ F' H', Ex F F' → Ex H H' → P v F' H'
  | _ => False
abbrev AgsOk (K : PySem.W.Frag) (F H : Hp) : List V → List Sl → Prop := Paired (AgOk K F H)
theorem AgOk.ext {K : PySem.W.Frag} {F H F' H' : Hp} (x : Ext F H F' H') {v : V} : ∀ {s : Sl}, AgOk K F H v s → AgOk K F' H' v s
  | .sh _, h => Is.mono x.f h
  | .bo _, ⟨l, vs, e, h, a⟩ => ⟨l, vs, e, x.h.sql h, a.mono x.f⟩
  | .raw _, h => h
  | .rb _, h => fun F2 H2 y z => h F2 H2 (x.f.trans y) (x.h.trans z)
  | .un, h => h.elim
  | .ow _ _, h => h.elim
  | .rg _ _, h => h.elim
def EA (X : Cx) (W : WX) (ex : Addr → Prop) (es : List Expr) (ρ : List Sl) (as : List Sl) : Prop := ∀ B F H σ (Q : List V → Hp → Prop), En X.K B F H σ ρ → Xc W ex F H σ → (∀ vs F' H', Ext F H F' H' → AgsOk X.K F' H' vs as → Q vs H') → WA X es σ H Q

section
variable {X : Cx} {W : WX} {ex : Addr → Prop} {e a b c o : Expr} {es : List Expr} {ρ : List Sl} {d x y z : PyData} {ds xs ys : List PyData} {pos p p2 apos : Pos}
theorem EL.dat (h : EL X W ex e ρ ds) : ED X W ex e ρ (.list ds) := fun B F H σ Q E c q => h B F H σ Q E c fun p vs F' H' x hp hf hh a => q _ _ H' (x.told hp hf hh) (.lst upd_same (a.mono (Ex.new hf)))
theorem EP'.rd (h : EP' X W ex e ρ ds) : EB X W ex e ρ ds := fun B F H σ Q E c q => h B F H σ Q E c fun p vs F' H' x hs a => q p vs F' H' x (by
  rcases hs with hs | hs
  · exact (E.b.trans x.h).sql hs
  · exact x.i.sql hs) a
theorem ED.pst (h : ED X W ex e ρ (.list ds)) : EP' X W ex e ρ ds := fun B F H σ Q E c q => h B F H σ Q E c fun v F' H' x i => by
  cases i with
  | lst h a => exact q _ _ F' H' x (.inr (SqL.of h)) a
theorem ED.rd (h : ED X W ex e ρ (.list ds)) : EB X W ex e ρ ds := h.pst.rd
theorem EL.pst (h : EL X W ex e ρ ds) : EP' X W ex e ρ ds := h.dat.pst
theorem EL.rd (h : EL X W ex e ρ ds) : EB X W ex e ρ ds := h.dat.pst.rd

/-! names, constants -/
theorem ed_at {i : Nat} {n : Str} (hN : X.N[i]? = some n) (hv : Vis X.env.scope n) (hs : ρ[i]? = some (.sh d)) (hd : (n == ("__debug__" : Str)) = false := by decide) (hcd : (n == ("__classdict__" : Str)) = false := by decide) : ED X W ex (.Name n pos) ρ d :=
  fun B F H σ Q E _ q => by
    obtain ⟨o, e1, h⟩ := E.s i _ hs
    cases o with
    | none => exact h.elim
    | some v => exact w_e (pe_var hN hv hd hcd) ⟨v, e1, q v F H (Ext.refl E.i) h⟩
theorem eb_bo {i : Nat} {n : Str} (hN : X.N[i]? = some n) (hv : Vis X.env.scope n) (hs : ρ[i]? = some (.bo ds)) (hd : (n == ("__debug__" : Str)) = false := by decide) (hcd : (n == ("__classdict__" : Str)) = false := by decide) : EP' X W ex (.Name n pos) ρ ds :=
  fun B F H σ Q E _ q => by
    obtain ⟨o, e1, h⟩ := E.s i _ hs
    cases o with
    | none => exact h.elim
    | some v =>
      obtain ⟨l, vs, rfl, hl, ha⟩ := h
      exact w_e (pe_var hN hv hd hcd) ⟨_, e1, q l vs F H (Ext.refl E.i) (.inl hl) ha⟩
theorem eb_ow {i : Nat} {n : Str} {l : Addr} (hN : X.N[i]? = some n) (hv : Vis X.env.scope n) (hs : ρ[i]? = some (.ow l ds)) (hd : (n == ("__debug__" : Str)) = false := by decide) (hcd : (n == ("__classdict__" : Str)) = false := by decide) : EB X W ex (.Name n pos) ρ ds :=
  fun B F H σ Q E _ q => by
    obtain ⟨o, e1, h⟩ := E.s i _ hs
    cases o with
    | none => exact h.elim
    | some v =>
      obtain ⟨rfl, hf, hb, vs, hl, ha⟩ := h
      exact w_e (pe_var hN hv hd hcd) ⟨_, e1, q l vs F H (Ext.refl E.i) (SqL.of hl) ha⟩
theorem ed_int {i : Int} {j} : ED X W ex (.Constant (.int i) j pos) ρ (.int i) := fun B F H σ Q E _ q => w_e pe_int (q _ F H (Ext.refl E.i) (.int i))
theorem ed_bl {i : Bool} {j} : ED X W ex (.Constant (.bool i) j pos) ρ (.bool i) := fun B F H σ Q E _ q => w_e pe_bl (q _ F H (Ext.refl E.i) (.bl i))
theorem ed_str {i : Str} {j} : ED X W ex (.Constant (.str i) j pos) ρ (.str i) := fun B F H σ Q E _ q => w_e pe_str (q _ F H (Ext.refl E.i) (.str i))
theorem ed_non {j} : ED X W ex (.Constant .none j pos) ρ .none := fun B F H σ Q E _ q => w_e pe_non (q _ F H (Ext.refl E.i) .non)
/-- a module's constant -/
theorem ed_gint {n : Str} {i : Int} (hg : Gl X n) (hm : ∃ t, X.mg n = some (.int i t)) (hd : (n == ("__debug__" : Str)) = false := by decide) : ED X W ex (.Name n pos) ρ (.int i) := fun B F H σ Q E _ q => by
  obtain ⟨t, hm⟩ := hm
  exact w_e (pe_glob (v := .int i) hg hm ⟨t, rfl⟩ hd) (q _ F H (Ext.refl E.i) (.int i))
theorem ed_gstr {n i : Str} (hg : Gl X n) (hm : ∃ t, X.mg n = some (.str i t)) (hd : (n == ("__debug__" : Str)) = false := by decide) : ED X W ex (.Name n pos) ρ (.str i) := fun B F H σ Q E _ q => by
  obtain ⟨t, hm⟩ := hm
  exact w_e (pe_glob (v := .str i) hg hm ⟨t, rfl⟩ hd) (q _ F H (Ext.refl E.i) (.str i))
/-- a tuple of texts, of the module's top -/
theorem ed_gtup {n : Str} {t : Addr} {vs : List V} (hg : Gl X n) (hm : X.mg n = some (.ref t)) (ht : ∀ H, SqT X.K H t vs) (ha : ∀ F, IsAll X.K F vs ds) (hd : (n == ("__debug__" : Str)) = false := by decide) : ED X W ex (.Name n pos) ρ (.tuple ds) := fun B F H σ Q E _ q =>
  w_e (pe_glob (v := .ref t) hg hm rfl hd) (q _ F H (Ext.refl E.i) (.tup (ht F) (ha F)))
theorem ED.to (h : ED X W ex e ρ d) (q : d = x) : ED X W ex e ρ x := q ▸ h
theorem EL.to (h : EL X W ex e ρ ds) (q : ds = xs) : EL X W ex e ρ xs := q ▸ h
theorem EB.to (h : EB X W ex e ρ ds) (q : ds = xs) : EB X W ex e ρ xs := q ▸ h
theorem EP'.to (h : EP' X W ex e ρ ds) (q : ds = xs) : EP' X W ex e ρ xs := q ▸ h
theorem ET.to {k l : Bool} (h : ET X W ex e ρ k) (q : k = l) : ET X W ex e ρ l := q ▸ h

/-! operators -/
def R2D (K : PySem.W.Frag) (r : R2) (x y z : PyData) : Prop := ∀ v u F H (Q : VK), Ex F H → Is K F v x → Is K F u y → (∀ t F' H', Ext F H F' H' → Is K F' t z → Q t H') → r v u H Q
theorem ed_op {op : Operator} {r : R2} (ho : OpR X (binaryOp op) r) (ha : ED X W ex a ρ x) (hb : ED X W ex b ρ y) (hr : R2D X.K r x y z) : ED X W ex (.BinOp a op b pos) ρ z := fun B F H σ Q E c q =>
  w_e (pe_op ho pe_w pe_w) (ha B F H σ _ E c fun v F1 H1 x1 i1 => hb B F1 H1 σ _ (E.ext x1) (c.ext x1) fun u F2 H2 x2 i2 => hr v u F2 H2 Q x2.i (i1.mono x2.f) i2 fun t F3 H3 x3 i3 => q t F3 H3 ((x1.trans x2).trans x3) i3)
theorem ed_cmp {op : CmpOp} {r : R2} (ho : OpR X (compareOp op) r) (ha : ED X W ex a ρ x) (hb : ED X W ex b ρ y) (hm : behindInMarks op b = false) (hr : R2D X.K r x y z) : ED X W ex (.Compare a [op] [b] pos) ρ z := fun B F H σ Q E c q =>
  w_e (pe_cmpR ho pe_w pe_w hm) (ha B F H σ _ E c fun v F1 H1 x1 i1 => hb B F1 H1 σ _ (E.ext x1) (c.ext x1) fun u F2 H2 x2 i2 => hr v u F2 H2 Q x2.i (i1.mono x2.f) i2 fun t F3 H3 x3 i3 => q t F3 H3 ((x1.trans x2).trans x3) i3)
section
variable {K : PySem.W.Frag}
theorem r2_I0 {g : Int → Int → Int} {i j : Int} : R2D K (rI0 fun i j => V.int (g i j)) (.int i) (.int j) (.int (g i j)) := fun v u F H Q i0 hv hu q => ⟨i, j, hv.int_eq, hu.int_eq, q _ F H (Ext.refl i0) (.int _)⟩
theorem r2_I {C : Int → Int → Prop} {g : Int → Int → Int} {i j : Int} (h : C i j) : R2D K (rI C fun i j => V.int (g i j)) (.int i) (.int j) (.int (g i j)) := fun v u F H Q i0 hv hu q => ⟨i, j, hv.int_eq, hu.int_eq, h, q _ F H (Ext.refl i0) (.int _)⟩
theorem r2_B {g : Int → Int → Bool} {i j : Int} : R2D K (rI0 fun i j => V.bl (g i j)) (.int i) (.int j) (.bool (g i j)) := fun v u F H Q i0 hv hu q => ⟨i, j, hv.int_eq, hu.int_eq, q _ F H (Ext.refl i0) (.bl _)⟩
end
theorem ed_add {i j : Int} (ha : ED X W ex a ρ (.int i)) (hb : ED X W ex b ρ (.int j)) : ED X W ex (.BinOp a .Add b pos) ρ (.int (i + j)) := ed_op op_add ha hb r2_I0
theorem ed_sub {i j : Int} (ha : ED X W ex a ρ (.int i)) (hb : ED X W ex b ρ (.int j)) : ED X W ex (.BinOp a .Sub b pos) ρ (.int (i - j)) := ed_op op_sub ha hb r2_I0
theorem ed_mul {i j : Int} (ha : ED X W ex a ρ (.int i)) (hb : ED X W ex b ρ (.int j)) (h : CMul i j) : ED X W ex (.BinOp a .Mult b pos) ρ (.int (i * j)) := ed_op op_mul ha hb (r2_I h)
theorem ed_mod {i j : Int} (ha : ED X W ex a ρ (.int i)) (hb : ED X W ex b ρ (.int j)) (h : 0 < j) : ED X W ex (.BinOp a .Mod b pos) ρ (.int (i % j)) := ed_op op_mod ha hb (r2_I (C := fun _ j => 0 < j) h)
theorem ed_div {i j : Int} (ha : ED X W ex a ρ (.int i)) (hb : ED X W ex b ρ (.int j)) (h : CDiv i j) : ED X W ex (.BinOp a .FloorDiv b pos) ρ (.int (i / j)) := ed_op op_fdiv ha hb (r2_I h)
theorem ed_cat {i j : Str} (ha : ED X W ex a ρ (.str i)) (hb : ED X W ex b ρ (.str j)) (h : i.length + j.length ≤ 100000) : ED X W ex (.BinOp a .Add b pos) ρ (.str (i ++ j)) :=
  ed_op op_add_str ha hb fun v u F H Q i0 hv hu q => ⟨i, j, hv.str_eq, hu.str_eq, Nat.le_trans h (by decide), q _ F H (Ext.refl i0) (.str _)⟩
theorem sz_le {n : Nat} (h : n ≤ 100000) : n ≤ sizeLine := Nat.le_trans h (by decide)
theorem el_cat (ha : ED X W ex a ρ (.list xs)) (hb : ED X W ex b ρ (.list ys)) (h : xs.length + ys.length ≤ 100000) : EL X W ex (.BinOp a .Add b pos) ρ (xs ++ ys) := fun B F H σ Q E c q =>
  w_e (pe_op op_cat pe_w pe_w) (ha B F H σ _ E c fun v F1 H1 x1 i1 => hb B F1 H1 σ _ (E.ext x1) (c.ext x1) fun u F2 H2 x2 i2 => by
    cases i1 with
    | lst h1 a1 =>
    cases i2 with
    | lst h2 a2 =>
    rename_i l1 v1 l2 v2
    refine ⟨_, _, _, _, rfl, rfl, x2.i _ _ (x2.f _ _ h1), x2.i _ _ h2, by rw [a1.len, a2.len]; exact sz_le h, fun p hp => ?_⟩
    have x3 := Ext.kept (o := .lst (v1 ++ v2)) x2.i hp
    have hp0 : H p = none := (x1.trans x2).h.back hp
    exact q p _ F2 _ ((x1.trans x2).trans x3) hp0 (x2.i.back hp) upd_same ((a1.mono x2.f).append a2))
/-- [..] * n, the list made on the spot or told -/
theorem el_rep {k : Int} (ha : ED X W ex a ρ (.list xs)) (hb : ED X W ex b ρ (.int k)) (hk : -(2 ^ 63) ≤ k ∧ k < 2 ^ 63) (h : xs.length * k.toNat ≤ 100000) : EL X W ex (.BinOp a .Mult b pos) ρ (List.replicate k.toNat xs).flatten := fun B F H σ Q E c q =>
  w_e (pe_op op_rep pe_w pe_w) (ha B F H σ _ E c fun v F1 H1 x1 i1 => hb B F1 H1 σ _ (E.ext x1) (c.ext x1) fun u F2 H2 x2 i2 => by
    cases i1 with
    | lst h1 a1 =>
    rename_i l1 v1
    refine ⟨_, k, _, rfl, i2.int_eq, x2.i _ _ (x2.f _ _ h1), hk.1, hk.2, by rw [a1.len]; exact sz_le h, fun p hp => ?_⟩
    have x3 := Ext.kept (o := .lst (List.replicate k.toNat v1).flatten) x2.i hp
    have hp0 : H p = none := (x1.trans x2).h.back hp
    refine q p _ F2 _ ((x1.trans x2).trans x3) hp0 (x2.i.back hp) upd_same ?_
    have a3 := a1.mono x2.f
    generalize k.toNat = n
    induction n with
    | zero => exact .nil
    | succ n ih => rw [List.replicate_succ, List.replicate_succ, List.flatten_cons, List.flatten_cons]; exact a3.append ih)
/-! comparisons -/
theorem ed_lt {i j : Int} (ha : ED X W ex a ρ (.int i)) (hb : ED X W ex b ρ (.int j)) : ED X W ex (.Compare a [.Lt] [b] pos) ρ (.bool (decide (i < j))) := ed_cmp op_lt ha hb (nomark _) (r2_B (g := fun i j => decide (i < j)))
theorem ed_le {i j : Int} (ha : ED X W ex a ρ (.int i)) (hb : ED X W ex b ρ (.int j)) : ED X W ex (.Compare a [.LtE] [b] pos) ρ (.bool (decide (i ≤ j))) := ed_cmp op_le ha hb (nomark _) (r2_B (g := fun i j => decide (i ≤ j)))
theorem ed_gt {i j : Int} (ha : ED X W ex a ρ (.int i)) (hb : ED X W ex b ρ (.int j)) : ED X W ex (.Compare a [.Gt] [b] pos) ρ (.bool (decide (j < i))) := ed_cmp op_gt ha hb (nomark _) (r2_B (g := fun i j => decide (j < i)))
theorem ed_ge {i j : Int} (ha : ED X W ex a ρ (.int i)) (hb : ED X W ex b ρ (.int j)) : ED X W ex (.Compare a [.GtE] [b] pos) ρ (.bool (decide (j ≤ i))) := ed_cmp op_ge ha hb (nomark _) (r2_B (g := fun i j => decide (j ≤ i)))
section
variable {K : PySem.W.Frag}
theorem r2_eqI {i j : Int} : R2D K rEq (.int i) (.int j) (.bool (decide (i = j))) := fun v u F H Q i0 hv hu q => by
  rw [hv.int_eq, hu.int_eq]
  refine ⟨rfl, ?_⟩
  rw [show decide (V.int i = V.int j) = decide (i = j) from by simp]
  exact q _ F H (Ext.refl i0) (.bl _)
theorem r2_neI {i j : Int} : R2D K rNe (.int i) (.int j) (.bool (!decide (i = j))) := fun v u F H Q i0 hv hu q => by
  rw [hv.int_eq, hu.int_eq]
  refine ⟨rfl, ?_⟩
  rw [show decide (V.int i = V.int j) = decide (i = j) from by simp]
  exact q _ F H (Ext.refl i0) (.bl _)
theorem r2_eqS {i j : Str} : R2D K rEq (.str i) (.str j) (.bool (decide (i = j))) := fun v u F H Q i0 hv hu q => by
  rw [hv.str_eq, hu.str_eq]
  refine ⟨rfl, ?_⟩
  rw [show decide (V.str i = V.str j) = decide (i = j) from by simp]
  exact q _ F H (Ext.refl i0) (.bl _)
theorem r2_neS {i j : Str} : R2D K rNe (.str i) (.str j) (.bool (!decide (i = j))) := fun v u F H Q i0 hv hu q => by
  rw [hv.str_eq, hu.str_eq]
  refine ⟨rfl, ?_⟩
  rw [show decide (V.str i = V.str j) = decide (i = j) from by simp]
  exact q _ F H (Ext.refl i0) (.bl _)
end
theorem ed_eqI {i j : Int} (ha : ED X W ex a ρ (.int i)) (hb : ED X W ex b ρ (.int j)) : ED X W ex (.Compare a [.Eq] [b] pos) ρ (.bool (decide (i = j))) := ed_cmp op_eq ha hb (nomark _) r2_eqI
theorem ed_neI {i j : Int} (ha : ED X W ex a ρ (.int i)) (hb : ED X W ex b ρ (.int j)) : ED X W ex (.Compare a [.NotEq] [b] pos) ρ (.bool (!decide (i = j))) := ed_cmp op_ne ha hb (nomark _) r2_neI
theorem ed_eqS {i j : Str} (ha : ED X W ex a ρ (.str i)) (hb : ED X W ex b ρ (.str j)) : ED X W ex (.Compare a [.Eq] [b] pos) ρ (.bool (decide (i = j))) := ed_cmp op_eq ha hb (nomark _) r2_eqS
theorem ed_neS {i j : Str} (ha : ED X W ex a ρ (.str i)) (hb : ED X W ex b ρ (.str j)) : ED X W ex (.Compare a [.NotEq] [b] pos) ρ (.bool (!decide (i = j))) := ed_cmp op_ne ha hb (nomark _) r2_neS
theorem ed_eqD (hu : X.A.units + 64 < cLine) (ha : ED X W ex a ρ x) (hb : ED X W ex b ρ y) (hx : SeqAt.shaped x = true) (hy : SeqAt.shaped y = true) : ED X W ex (.Compare a [.Eq] [b] pos) ρ (.bool (PyData.eqv x y)) :=
  ed_cmp (op_eqD hu) ha hb (nomark _) fun v u F H Q i0 hv hu q => ⟨x, y, (hv.mono i0).dp, (hu.mono i0).dp, hx, hy, q _ F H (Ext.refl i0) (.bl _)⟩
theorem ed_neD (hu : X.A.units + 64 < cLine) (ha : ED X W ex a ρ x) (hb : ED X W ex b ρ y) (hx : SeqAt.shaped x = true) (hy : SeqAt.shaped y = true) : ED X W ex (.Compare a [.NotEq] [b] pos) ρ (.bool (!PyData.eqv x y)) :=
  ed_cmp (op_neD hu) ha hb (nomark _) fun v u F H Q i0 hv hu q => ⟨x, y, (hv.mono i0).dp, (hu.mono i0).dp, hx, hy, q _ F H (Ext.refl i0) (.bl _)⟩
theorem ed_leS {i j : Str} (ha : ED X W ex a ρ (.str i)) (hb : ED X W ex b ρ (.str j)) : ED X W ex (.Compare a [.LtE] [b] pos) ρ (.bool (!decide (j.cps.toList < i.cps.toList))) :=
  ed_cmp op_le_str ha hb (nomark _) fun v u F H Q i0 hv hu q => ⟨i, j, hv.str_eq, hu.str_eq, q _ F H (Ext.refl i0) (.bl _)⟩
theorem ed_geS {i j : Str} (ha : ED X W ex a ρ (.str i)) (hb : ED X W ex b ρ (.str j)) : ED X W ex (.Compare a [.GtE] [b] pos) ρ (.bool (!decide (i.cps.toList < j.cps.toList))) :=
  ed_cmp op_ge_str ha hb (nomark _) fun v u F H Q i0 hv hu q => ⟨i, j, hv.str_eq, hu.str_eq, q _ F H (Ext.refl i0) (.bl _)⟩
/-- one sign in a text -/
theorem ed_inC {k : Nat} {z : Str} (ha : ED X W ex a ρ (.str ⟨#[k]⟩)) (hb : ED X W ex b ρ (.str z)) (hm : behindInMarks .In b = false := by rfl) : ED X W ex (.Compare a [.In] [b] pos) ρ (.bool (decide (k ∈ z.cps.toList))) :=
  ed_cmp op_in_sign ha hb hm fun v u F H Q i0 hv hu q => ⟨k, z, hv.str_eq, hu.str_eq, q _ F H (Ext.refl i0) (.bl _)⟩
theorem ed_isN (ha : ED X W ex a ρ x) (hb : ED X W ex b ρ .none) : ED X W ex (.Compare a [.Is] [b] pos) ρ (.bool (isNone x)) :=
  ed_cmp op_isN ha hb (nomark _) fun v u F H Q i0 hv hu q => ⟨hu.non_eq, by
    have e : decide (v = V.non) = isNone x := by cases hv <;> rfl
    rw [e]; exact q _ F H (Ext.refl i0) (.bl _)⟩
theorem ed_notN (ha : ED X W ex a ρ x) (hb : ED X W ex b ρ .none) : ED X W ex (.Compare a [.IsNot] [b] pos) ρ (.bool (!isNone x)) :=
  ed_cmp op_notN ha hb (nomark _) fun v u F H Q i0 hv hu q => ⟨hu.non_eq, by
    have e : (!decide (v = V.non)) = (!isNone x) := by cases hv <;> rfl
    rw [e]; exact q _ F H (Ext.refl i0) (.bl _)⟩
theorem inV_strs {i : Str} : ∀ zs : List Str, inV (.str i) (zs.map V.str) = decide (i ∈ zs)
  | [] => by simp [inV]
  | z :: zs => by
    have ih := inV_strs (i := i) zs
    unfold inV at ih ⊢
    rw [List.map_cons, List.any_cons, ih]
    show ((z == i) || _) = _
    by_cases q : i = z
    · subst q; simp
    · have : (z == i) = false := beq_eq_false_iff_ne.mpr (fun h => q h.symm)
      rw [this]; simp [q]
theorem flat_strs (zs : List Str) : (zs.map V.str).all flatV = true := by
  rw [List.all_map, List.all_eq_true]; intro z _; rfl
/-- a text in a list of texts -/
theorem ed_inL {i : Str} {zs : List Str} (ha : ED X W ex a ρ (.str i)) (hb : EB X W ex b ρ (zs.map .str)) (hm : behindInMarks .In b = false := by rfl) : ED X W ex (.Compare a [.In] [b] pos) ρ (.bool (decide (i ∈ zs))) := fun B F H σ Q E c q =>
  w_e (pe_cmpR op_in_seq pe_w pe_w hm) (ha B F H σ _ E c fun v F1 H1 x1 i1 => hb B F1 H1 σ _ (E.ext x1) (c.ext x1) fun p vs F2 H2 x2 hs i2 => by
    rw [i1.str_eq]
    rw [i2.strs_eq] at hs
    refine ⟨p, _, rfl, .inl hs, rfl, flat_strs zs, ?_⟩
    rw [if_neg Bool.false_ne_true, inV_strs]
    exact q _ F2 H2 (x1.trans x2) (.bl _))
theorem ed_niL {i : Str} {zs : List Str} (ha : ED X W ex a ρ (.str i)) (hb : EB X W ex b ρ (zs.map .str)) (hm : behindInMarks .NotIn b = false := by rfl) : ED X W ex (.Compare a [.NotIn] [b] pos) ρ (.bool (!decide (i ∈ zs))) := fun B F H σ Q E c q =>
  w_e (pe_cmpR op_notIn_seq pe_w pe_w hm) (ha B F H σ _ E c fun v F1 H1 x1 i1 => hb B F1 H1 σ _ (E.ext x1) (c.ext x1) fun p vs F2 H2 x2 hs i2 => by
    rw [i1.str_eq]
    rw [i2.strs_eq] at hs
    refine ⟨p, _, rfl, .inl hs, rfl, flat_strs zs, ?_⟩
    rw [if_pos rfl, inV_strs]
    exact q _ F2 H2 (x1.trans x2) (.bl _))
/-- a text in a tuple of texts -/
theorem ed_niT {i : Str} {zs : List Str} (ha : ED X W ex a ρ (.str i)) (hb : ED X W ex b ρ (.tuple (zs.map .str))) (hm : behindInMarks .NotIn b = false := by rfl) : ED X W ex (.Compare a [.NotIn] [b] pos) ρ (.bool (!decide (i ∈ zs))) :=
  ed_cmp op_notIn_seq ha hb hm fun v u F H Q i0 hv hu q => by
    rw [hv.str_eq]
    cases hu with
    | tup hs a =>
    rw [a.strs_eq] at hs
    refine ⟨_, _, rfl, .inr (i0.sqt hs), rfl, flat_strs zs, ?_⟩
    rw [if_pos rfl, inV_strs]
    exact q _ F H (Ext.refl i0) (.bl _)
theorem ed_inT {i : Str} {zs : List Str} (ha : ED X W ex a ρ (.str i)) (hb : ED X W ex b ρ (.tuple (zs.map .str))) (hm : behindInMarks .In b = false := by rfl) : ED X W ex (.Compare a [.In] [b] pos) ρ (.bool (decide (i ∈ zs))) :=
  ed_cmp op_in_seq ha hb hm fun v u F H Q i0 hv hu q => by
    rw [hv.str_eq]
    cases hu with
    | tup hs a =>
    rw [a.strs_eq] at hs
    refine ⟨_, _, rfl, .inr (i0.sqt hs), rfl, flat_strs zs, ?_⟩
    rw [if_neg Bool.false_ne_true, inV_strs]
    exact q _ F H (Ext.refl i0) (.bl _)
/-- a < b < c -/
theorem ed_chain {op op' : CmpOp} {r r' : R2} {k l : Bool} (ho : OpR X (compareOp op) r) (ho' : OpR X (compareOp op') r') (ha : ED X W ex a ρ x) (hb : ED X W ex b ρ y) (hc : ED X W ex c ρ z)
    (h1 : R2D X.K r x y (.bool k)) (h2 : R2D X.K r' y z (.bool l)) (hm : lastMarks [op, op'] [b, c] = false := by rfl) : ED X W ex (.Compare a [op, op'] [b, c] pos) ρ (.bool (k && l)) := fun B F H σ Q E g q =>
  w_e (pe_chain ho ho' pe_w pe_w pe_w hm) (ha B F H σ _ E g fun v F1 H1 x1 i1 => hb B F1 H1 σ _ (E.ext x1) (g.ext x1) fun u F2 H2 x2 i2 => h1 v u F2 H2 _ x2.i (i1.mono x2.f) i2 fun t F3 H3 x3 i3 => ⟨k, i3.bl_eq, by
    have x13 := (x1.trans x2).trans x3
    cases k with
    | false => exact iteF (q _ F3 H3 x13 (.bl _))
    | true => exact iteT (hc B F3 H3 σ _ (E.ext x13) (g.ext x13) fun t4 F4 H4 x4 i4 => h2 u t4 F4 H4 Q x4.i ((i2.mono x3.f).mono x4.f) i4 fun t5 F5 H5 x5 i5 => by
        rw [i5.bl_eq]; exact q _ F5 H5 ((x13.trans x4).trans x5) (.bl _))⟩)
end
end PD

set_option maxHeartbeats 4000000
namespace PD
open PySem L2
section
variable {X : Cx} {W : WX} {ex : Addr → Prop} {e a b c o : Expr} {es : List Expr} {ρ : List Sl} {d x y z : PyData} {ds xs ys : List PyData} {pos p p2 apos : Pos}
/-! arguments -/
theorem ea_nil : EA X W ex [] ρ [] := fun B F H σ Q E c q => w_a pa_nil (q [] F H (Ext.refl E.i) .nil)
theorem AgsOk.ext {K : PySem.W.Frag} {F H F' H' : Hp} (x : Ext F H F' H') : ∀ {vs : List V} {as : List Sl}, AgsOk K F H vs as → AgsOk K F' H' vs as
  | _, _, .nil => .nil
  | _, _, .cons h t => .cons (h.ext x) (AgsOk.ext x t)
theorem ea_d {as : List Sl} (h : ED X W ex e ρ d) (r : EA X W ex es ρ as) (hs : starEach (e :: es) X.env = (false, eval e X.env) :: starEach es X.env := by rfl) : EA X W ex (e :: es) ρ (.sh d :: as) := fun B F H σ Q E c q =>
  w_a (pa_cons pe_w pa_w hs) (h B F H σ _ E c fun v F1 H1 x1 i1 => r B F1 H1 σ _ (E.ext x1) (c.ext x1) fun vs F2 H2 x2 i2 => q (v :: vs) F2 H2 (x1.trans x2) (.cons (i1.mono x2.f) i2))
theorem ea_b {as : List Sl} (h : EB X W ex e ρ ds) (r : EA X W ex es ρ as) (hs : starEach (e :: es) X.env = (false, eval e X.env) :: starEach es X.env := by rfl) : EA X W ex (e :: es) ρ (.bo ds :: as) := fun B F H σ Q E c q =>
  w_a (pa_cons pe_w pa_w hs) (h B F H σ _ E c fun p vs F1 H1 x1 h1 i1 => r B F1 H1 σ _ (E.ext x1) (c.ext x1) fun ws F2 H2 x2 i2 => q (.ref p :: ws) F2 H2 (x1.trans x2) (.cons ⟨p, vs, rfl, x2.h.sql h1, i1.mono x2.f⟩ i2))
theorem ea_raw {as : List Sl} {i : Nat} {n : Str} {w : V} (hN : X.N[i]? = some n) (hv : Vis X.env.scope n) (hw : ρ[i]? = some (.raw w)) (r : EA X W ex es ρ as) (hs : starEach (.Name n pos :: es) X.env = (false, eval (.Name n pos) X.env) :: starEach es X.env := by rfl)
    (hd : (n == ("__debug__" : Str)) = false := by decide) (hcd : (n == ("__classdict__" : Str)) = false := by decide) : EA X W ex (.Name n pos :: es) ρ (.raw w :: as) := fun B F H σ Q E c q => by
  obtain ⟨o, e1, h⟩ := E.s i _ hw
  cases o with
  | none => exact h.elim
  | some v => exact w_a (pa_cons (pe_var hN hv hd hcd) pa_w hs) ⟨v, e1, r B F H σ _ E c fun ws F2 H2 x2 i2 => q (v :: ws) F2 H2 x2 (.cons h i2)⟩
/-! displays -/
theorem ea_data : ∀ {K : PySem.W.Frag} {F H : Hp} {vs : List V} {ds : List PyData}, AgsOk K F H vs (ds.map .sh) → IsAll K F vs ds
  | _, _, _, _, [], h => by cases h; exact .nil
  | _, _, _, _, d :: ds, h => by
    cases h with
    | cons h t => exact .cons h (ea_data t)
theorem ed_tup {k : Nat} (h : EA X W ex es ρ (ds.map .sh)) (hl : ds.length ≤ 100000) : ED X W ex (.Tuple es k pos) ρ (.tuple ds) := fun B F H σ Q E c q =>
  w_e (pe_tup pa_w) (h B F H σ _ E c fun vs F1 H1 x1 i1 => by
    have i2 := ea_data i1
    refine ⟨by rw [i2.len]; exact sz_le hl, fun p hp => ?_⟩
    have x2 := Ext.made (o := .tup vs) x1.i hp
    exact q _ _ _ (x1.trans x2) (.tup (SqT.of upd_same) (i2.mono x2.f)))
theorem el_lst (h : EA X W ex es ρ (ds.map .sh)) (hl : ds.length ≤ 100000) : EL X W ex (.List es pos) ρ ds := fun B F H σ Q E c q =>
  w_e (pe_lst pa_w) (h B F H σ _ E c fun vs F1 H1 x1 i1 => by
    have i2 := ea_data i1
    refine ⟨by rw [i2.len]; exact sz_le hl, fun p hp => ?_⟩
    have x2 := Ext.kept (o := .lst vs) x1.i hp
    exact q _ vs _ _ (x1.trans x2) (x1.h.back hp) (x1.i.back hp) upd_same i2)
/-! items -/
theorem ix_get {K : PySem.W.Frag} {F : Hp} {vs : List V} {i : Int} (a : IsAll K F vs ds) (h : atI ds i = some d) : ∃ v, atI vs i = some v ∧ Is K F v d := by
  unfold atI at h ⊢
  rw [a.len]
  cases e : ixN ds.length i with
  | none => rw [e] at h; cases h
  | some j =>
    rw [e] at h
    exact a.get h
theorem ed_ixL {i : Int} (ha : EB X W ex a ρ ds) (hb : ED X W ex b ρ (.int i)) (h : atI ds i = some d) (hs : PlainIx b := by exact fun _ _ => rfl) : ED X W ex (.Subscript a b pos) ρ d := fun B F H σ Q E c q =>
  w_e (pe_ix ix_list pe_w pe_w hs) (ha B F H σ _ E c fun p vs F1 H1 x1 h1 i1 => hb B F1 H1 σ _ (E.ext x1) (c.ext x1) fun u F2 H2 x2 i2 => by
    obtain ⟨v, hv, i3⟩ := ix_get (i1.mono x2.f) h
    exact ⟨p, vs, i, v, rfl, i2.int_eq, x2.h.sql h1, hv, q v F2 H2 (x1.trans x2) i3⟩)
theorem ed_ixT {i : Int} (ha : ED X W ex a ρ (.tuple ds)) (hb : ED X W ex b ρ (.int i)) (h : atI ds i = some d) (hs : PlainIx b := by exact fun _ _ => rfl) : ED X W ex (.Subscript a b pos) ρ d := fun B F H σ Q E c q =>
  w_e (pe_ix ix_tup pe_w pe_w hs) (ha B F H σ _ E c fun v F1 H1 x1 i1 => hb B F1 H1 σ _ (E.ext x1) (c.ext x1) fun u F2 H2 x2 i2 => by
    cases i1 with
    | tup h1 a1 =>
    obtain ⟨v, hv, i3⟩ := ix_get (a1.mono x2.f) h
    exact ⟨_, _, i, v, rfl, i2.int_eq, (x2.f.trans x2.i).sqt h1, hv, q v F2 H2 (x1.trans x2) i3⟩)
theorem ed_ixS {i : Int} {w : Str} {k : Nat} (ha : ED X W ex a ρ (.str w)) (hb : ED X W ex b ρ (.int i)) (hl : w.length ≤ 100000) (h : atI w.cps.toList i = some k) (hs : PlainIx b := by exact fun _ _ => rfl) : ED X W ex (.Subscript a b pos) ρ (.str ⟨#[k]⟩) := fun B F H σ Q E c q =>
  w_e (pe_ix ix_str pe_w pe_w hs) (ha B F H σ _ E c fun v F1 H1 x1 i1 => hb B F1 H1 σ _ (E.ext x1) (c.ext x1) fun u F2 H2 x2 i2 =>
    ⟨w, i, k, i1.str_eq, i2.int_eq, sz_le hl, h, q _ F2 H2 (x1.trans x2) (.str _)⟩)
/-! slices -/
def EO (X : Cx) (W : WX) (ex : Addr → Prop) (e : Option Expr) (ρ : List Sl) (o : Option Int) : Prop := match e, o with
  | none, none => True
  | some e, some i => ED X W ex e ρ (.int i)
  | _, _ => False
theorem po_w {e : Option Expr} {ob : Option Int} (h : EO X W ex e ρ ob) : ∃ t, PO X e t ∧ ∀ B F H σ (Q : Option Int → Hp → Prop), En X.K B F H σ ρ → Xc W ex F H σ → (∀ F' H', Ext F H F' H' → Q ob H') → t σ H Q := by
  cases e with
  | none =>
    cases ob with
    | none => exact ⟨tNoPart, po_none, fun B F H σ Q E c q => q F H (Ext.refl E.i)⟩
    | some i => exact h.elim
  | some e =>
    cases ob with
    | none => exact h.elim
    | some i => exact ⟨tPart (WE X e), po_some pe_w, fun B F H σ Q E c q => h B F H σ _ E c fun v F' H' x i' => ⟨i, i'.int_eq, q F' H' x⟩⟩
def cutD {α : Type} (xs : List α) (lo hi : Option Int) : List α := (xs.drop (HT.sIx xs.length 0 lo)).take (HT.sIx xs.length xs.length hi - HT.sIx xs.length 0 lo)
theorem cut_all {K : PySem.W.Frag} {F : Hp} {vs : List V} (lo hi : Option Int) (a : IsAll K F vs ds) : IsAll K F (cutV vs lo hi) (cutD ds lo hi) := by
  unfold cutV cutD
  rw [a.len]
  exact (a.drop _).take _
theorem el_cut {lo hi : Option Expr} {l u : Option Int} (ha : EB X W ex a ρ ds) (hl : EO X W ex lo ρ l) (hu : EO X W ex hi ρ u) : EL X W ex (.Subscript a (.Slice lo hi none p2) pos) ρ (cutD ds l u) := fun B F H σ Q E c q => by
  obtain ⟨tl, pl, kl⟩ := po_w hl
  obtain ⟨tu, pu, ku⟩ := po_w hu
  exact w_e (pe_slice sl_list pe_w pl pu) (ha B F H σ _ E c fun p vs F1 H1 x1 h1 i1 => kl B F1 H1 σ _ (E.ext x1) (c.ext x1) fun F2 H2 x2 => ku B F2 H2 σ _ ((E.ext x1).ext x2) ((c.ext x1).ext x2) fun F3 H3 x3 => by
    have x23 := x2.trans x3
    refine ⟨p, vs, rfl, x23.h.sql h1, fun r hr => ?_⟩
    have x4 := Ext.kept (o := .lst (cutV vs l u)) x23.i hr
    have x14 := (x1.trans x23).trans x4
    exact q r _ F3 _ x14 ((x1.trans x23).h.back hr) (x23.i.back hr) upd_same (cut_all l u (i1.mono x23.f)))
theorem ed_cutS {lo hi : Option Expr} {l u : Option Int} {w : Str} (ha : ED X W ex a ρ (.str w)) (hl : EO X W ex lo ρ l) (hu : EO X W ex hi ρ u) (hz : w.length ≤ 100000) : ED X W ex (.Subscript a (.Slice lo hi none p2) pos) ρ (.str (cutS w l u)) := fun B F H σ Q E c q => by
  obtain ⟨tl, pl, kl⟩ := po_w hl
  obtain ⟨tu, pu, ku⟩ := po_w hu
  exact w_e (pe_slice sl_str pe_w pl pu) (ha B F H σ _ E c fun v F1 H1 x1 i1 => kl B F1 H1 σ _ (E.ext x1) (c.ext x1) fun F2 H2 x2 => ku B F2 H2 σ _ ((E.ext x1).ext x2) ((c.ext x1).ext x2) fun F3 H3 x3 =>
    ⟨w, i1.str_eq, sz_le hz, q _ F3 H3 ((x1.trans x2).trans x3) (.str _)⟩)
/-! built-ins -/
theorem ed_len (ha : EB X W ex a ρ ds) (hg : Gl X ("len" : Str)) (hm : X.mg ("len" : Str) = none) (hs : starEach [a] X.env = [(false, eval a X.env)] := by rfl) : ED X W ex (.Call (.Name "len" p) [a] [] pos) ρ (.int ds.length) := fun B F H σ Q E c q =>
  w_e (pe_callB call_len_seq hg hm PySem.boot_len (pa_cons pe_w pa_nil hs) (by decide) (by decide) hs (by rfl)) (ha B F H σ _ E c fun l vs F1 H1 x1 h1 i1 => ⟨l, vs, rfl, .inl h1, by
    rw [i1.len]; exact q _ F1 H1 x1 (.int _)⟩)
theorem ed_lenT (ha : ED X W ex a ρ (.tuple ds)) (hg : Gl X ("len" : Str)) (hm : X.mg ("len" : Str) = none) (hs : starEach [a] X.env = [(false, eval a X.env)] := by rfl) : ED X W ex (.Call (.Name "len" p) [a] [] pos) ρ (.int ds.length) := fun B F H σ Q E c q =>
  w_e (pe_callB call_len_seq hg hm PySem.boot_len (pa_cons pe_w pa_nil hs) (by decide) (by decide) hs (by rfl)) (ha B F H σ _ E c fun v F1 H1 x1 i1 => by
    cases i1 with
    | tup h1 a1 =>
    refine ⟨_, _, rfl, .inr (x1.i.sqt h1), ?_⟩
    rw [a1.len]; exact q _ F1 H1 x1 (.int _))
theorem ed_lenS {w : Str} (ha : ED X W ex a ρ (.str w)) (hz : w.length ≤ 100000) (hg : Gl X ("len" : Str)) (hm : X.mg ("len" : Str) = none) (hs : starEach [a] X.env = [(false, eval a X.env)] := by rfl) : ED X W ex (.Call (.Name "len" p) [a] [] pos) ρ (.int w.length) := fun B F H σ Q E c q =>
  w_e (pe_callB call_len_str hg hm PySem.boot_len (pa_cons pe_w pa_nil hs) (by decide) (by decide) hs (by rfl)) (ha B F H σ _ E c fun v F1 H1 x1 i1 => ⟨w, by rw [i1.str_eq], sz_le hz, q _ F1 H1 x1 (.int _)⟩)
theorem ed_strI {i : Int} (ha : ED X W ex a ρ (.int i)) (hz : i.natAbs.log2 < 1920) (hg : Gl X ("str" : Str)) (hm : X.mg ("str" : Str) = none) (hs : starEach [a] X.env = [(false, eval a X.env)] := by rfl) : ED X W ex (.Call (.Name "str" p) [a] [] pos) ρ (.str (Str.ofString (toString i))) := fun B F H σ Q E c q =>
  w_e (pe_callTy call_str_int hg hm (by decide +kernel) (pa_cons pe_w pa_nil hs) (by decide) (by decide) hs (by rfl)) (ha B F H σ _ E c fun v F1 H1 x1 i1 => ⟨i, by rw [i1.int_eq], hz, q _ F1 H1 x1 (.str _)⟩)
theorem ed_min {i j : Int} (hc : X.calm = true) (ha : ED X W ex a ρ (.int i)) (hb : ED X W ex b ρ (.int j)) (hg : Gl X ("min" : Str)) (hm : X.mg ("min" : Str) = none) (hs : starEach [a, b] X.env = (false, eval a X.env) :: starEach [b] X.env := by rfl) (hs2 : starEach [b] X.env = [(false, eval b X.env)] := by rfl)
    (hz : (backTo pos (starEach [b] X.env)).any (·.1) = false := by rfl) : ED X W ex (.Call (.Name "min" p) [a, b] [] pos) ρ (.int (if j < i then j else i)) := fun B F H σ Q E c q =>
  w_e (pe_callB (call_min2 hc) hg hm (by decide +kernel) (pa_cons pe_w (pa_cons pe_w pa_nil hs2) hs) (by decide) (by decide) hs hz) (ha B F H σ _ E c fun v F1 H1 x1 i1 => hb B F1 H1 σ _ (E.ext x1) (c.ext x1) fun u F2 H2 x2 i2 => ⟨i, j, by rw [i1.int_eq, i2.int_eq], q _ F2 H2 (x1.trans x2) (.int _)⟩)
/-- sorted(a list of texts, fewer than 64): the list that the walk of it finds -/
theorem el_sorted {zs : List Str} (ha : EB X W ex a ρ (zs.map .str)) (h64 : zs.length < 64) (hg : Gl X ("sorted" : Str)) (hm : X.mg ("sorted" : Str) = none) (u : ∀ ys : List Str, ys.Perm zs → PyProof.Rows.sortedS ys = true → ds = ys.map .str)
    (hs : starEach [a] X.env = [(false, eval a X.env)] := by rfl) : EL X W ex (.Call (.Name "sorted" p) [a] [] pos) ρ ds := fun B F H σ Q E c q =>
  w_e (pe_callB cr_sortedS hg hm (by decide +kernel) (pa_cons pe_w pa_nil hs) (by decide) (by decide) hs (by rfl)) (ha B F H σ _ E c fun l vs F1 H1 x1 h1 i1 => by
    rw [i1.strs_eq] at h1
    refine ⟨l, zs, rfl, h1, h64, fun ys r hp hsrt hr => ?_⟩
    have x2 := Ext.kept (o := .lst (ys.map V.str)) x1.i hr
    rw [u ys hp hsrt] at q
    exact q r _ F1 _ (x1.trans x2) (x1.h.back hr) (x1.i.back hr) upd_same (IsAll.strs ys))
theorem el_list (ha : EB X W ex a ρ ds) (hg : Gl X ("list" : Str)) (hm : X.mg ("list" : Str) = none) (hs : starEach [a] X.env = [(false, eval a X.env)] := by rfl) : EL X W ex (.Call (.Name "list" p) [a] [] pos) ρ ds := fun B F H σ Q E c q =>
  w_e (pe_callTy call_list_of hg hm (by decide +kernel) (pa_cons pe_w pa_nil hs) (by decide) (by decide) hs (by rfl)) (ha B F H σ _ E c fun l vs F1 H1 x1 h1 i1 => by
    refine ⟨l, vs, rfl, .inl h1, fun r hr => ?_⟩
    have x2 := Ext.kept (o := .lst vs) x1.i hr
    exact q r _ F1 _ (x1.trans x2) (x1.h.back hr) (x1.i.back hr) upd_same i1)
theorem ed_all {bs : List Bool} (hc : X.calm = true) (ha : EB X W ex a ρ (bs.map .bool)) (hg : Gl X ("all" : Str)) (hm : X.mg ("all" : Str) = none) (hs : starEach [a] X.env = [(false, eval a X.env)] := by rfl) : ED X W ex (.Call (.Name "all" p) [a] [] pos) ρ (.bool (bs.all id)) := fun B F H σ Q E c q =>
  w_e (pe_callB (cr_all hc) hg hm (by decide +kernel) (pa_cons pe_w pa_nil hs) (by decide) (by decide) hs (by rfl)) (ha B F H σ _ E c fun l vs F1 H1 x1 h1 i1 => by
    rw [i1.bools_eq] at h1
    exact ⟨l, bs, rfl, h1, q _ F1 H1 x1 (.bl _)⟩)
theorem ed_join {w : Str} {zs : List Str} (ho : ED X W ex o ρ (.str w)) (ha : EB X W ex a ρ (zs.map .str)) (hz : (zs.map (·.length)).sum + zs.length * w.length ≤ 100000)
    (hs : starEach [a] X.env = [(false, eval a X.env)] := by rfl) (hb : attributeBase o "join" X.env (eval o X.env) = eval o X.env := by rfl) (hl : (apos.endLine == pos.line) = true := by rfl) : ED X W ex (.Call (.Attribute o "join" apos) [a] [] pos) ρ (.str (Str.join w zs)) := fun B F H σ Q E c q =>
  w_e (pe_join pe_w pe_w hs hb hl) (ho B F H σ _ E c fun v F1 H1 x1 i1 => ⟨⟨w, i1.str_eq⟩, ha B F1 H1 σ _ (E.ext x1) (c.ext x1) fun l vs F2 H2 x2 h2 i2 => by
    rw [i2.strs_eq] at h2
    refine ⟨w, l, zs, i1.str_eq, rfl, .inl h2, Nat.le_trans hz (by decide), ?_⟩
    rw [TL.join_eq]
    exact q _ F2 H2 (x1.trans x2) (.str _)⟩)
/-! tests -/
theorem et_val {k : Bool} (h : ED X W ex e ρ (.bool k)) (hw : ∀ whole : Sem Value, isTrue e X.env whole = (do let v ← whole; standAt e.pos; holding [v] (truthy v)) := by intro _; rfl) : ET X W ex e ρ k := fun B F H σ Q E c q =>
  w_t (pt_val pe_w hw) (h B F H σ _ E c fun v F1 H1 x1 i1 => ⟨k, i1.bl_eq, q F1 H1 x1⟩)
theorem et_not {k : Bool} (h : ET X W ex e ρ k) : ET X W ex (.UnaryOp .Not e pos) ρ (!k) := fun B F H σ Q E c q => w_t (pt_not pt_w) (h B F H σ _ E c fun F1 H1 x1 => q F1 H1 x1)
theorem ew_and {k l : Bool} {r : List Expr} (h1 : ET X W ex a ρ k) (h2 : k = true → EW X W ex (.BoolOp .And (b :: r) pos) ρ l) : EW X W ex (.BoolOp .And (a :: b :: r) pos) ρ (k && l) := fun B F H σ Q E c q =>
  w_w (pw_and pt_w pw_w) (h1 B F H σ _ E c fun F1 H1 x1 => by
    cases k with
    | false => exact iteF (q F1 H1 x1)
    | true => exact iteT (h2 rfl B F1 H1 σ _ (E.ext x1) (c.ext x1) fun F2 H2 x2 => q F2 H2 (x1.trans x2)))
theorem ew_and1 {k : Bool} (h : ET X W ex a ρ k) : EW X W ex (.BoolOp .And [a] pos) ρ k := fun B F H σ Q E c q => w_w (pw_and1 pt_w) (h B F H σ Q E c q)
theorem ew_or {k l : Bool} {r : List Expr} (h1 : ET X W ex a ρ k) (h2 : k = false → EW X W ex (.BoolOp .Or (b :: r) pos) ρ l) : EW X W ex (.BoolOp .Or (a :: b :: r) pos) ρ (k || l) := fun B F H σ Q E c q =>
  w_w (pw_or pt_w pw_w) (h1 B F H σ _ E c fun F1 H1 x1 => by
    cases k with
    | true => exact iteT (q F1 H1 x1)
    | false => exact iteF (h2 rfl B F1 H1 σ _ (E.ext x1) (c.ext x1) fun F2 H2 x2 => q F2 H2 (x1.trans x2)))
theorem ew_or1 {k : Bool} (h : ET X W ex a ρ k) : EW X W ex (.BoolOp .Or [a] pos) ρ k := fun B F H σ Q E c q => w_w (pw_or1 pt_w) (h B F H σ Q E c q)
theorem et_w {k : Bool} (h : EW X W ex e ρ k) : ET X W ex e ρ k := fun B F H σ Q E c q => w_t (PW.pt pw_w) (h B F H σ Q E c q)
/-- the truth of a list -/
theorem et_list (h : EB X W ex e ρ ds) (hw : ∀ whole : Sem Value, isTrue e X.env whole = (do let v ← whole; standAt e.pos; holding [v] (truthy v)) := by intro _; rfl) : ET X W ex e ρ (!ds.isEmpty) := fun B F H σ Q E c q =>
  w_t (pt_truth pe_w hw) (h B F H σ _ E c fun l vs F1 H1 x1 h1 i1 => ⟨!ds.isEmpty, .inl ⟨vs, h1, by cases i1 <;> rfl⟩, q F1 H1 x1⟩)
theorem ed_ifx {k : Bool} (h : ET X W ex c ρ k) (h1 : k = true → ED X W ex a ρ d) (h2 : k = false → ED X W ex b ρ d) : ED X W ex (.IfExp c a b pos) ρ d := fun B F H σ Q E g q =>
  w_e (pe_ifExp pt_w pe_w pe_w) (h B F H σ _ E g fun F1 H1 x1 => by
    cases k with
    | false => exact iteF (h2 rfl B F1 H1 σ _ (E.ext x1) (g.ext x1) fun v F2 H2 x2 i2 => q v F2 H2 (x1.trans x2) i2)
    | true => exact iteT (h1 rfl B F1 H1 σ _ (E.ext x1) (g.ext x1) fun v F2 H2 x2 i2 => q v F2 H2 (x1.trans x2) i2))
/-! and, or, not as values -/
theorem ed_one {op : BoolOp} (h : ED X W ex a ρ d) : ED X W ex (.BoolOp op [a] pos) ρ d := fun B F H σ Q E c q => w_e (pe_one pe_w) (h B F H σ Q E c q)
theorem ed_and {k l : Bool} {r : List Expr} (h1 : ED X W ex a ρ (.bool k)) (h2 : k = true → ED X W ex (.BoolOp .And (b :: r) pos) ρ (.bool l)) : ED X W ex (.BoolOp .And (a :: b :: r) pos) ρ (.bool (k && l)) := fun B F H σ Q E c q =>
  w_e (pe_and pe_w pe_w) (h1 B F H σ _ E c fun v F1 H1 x1 i1 => ⟨k, i1.bl_eq, by
    cases k with
    | false => exact iteF (q _ F1 H1 x1 (.bl _))
    | true => exact iteT (h2 rfl B F1 H1 σ _ (E.ext x1) (c.ext x1) fun v F2 H2 x2 i2 => q v F2 H2 (x1.trans x2) i2)⟩)
theorem ed_or {k l : Bool} {r : List Expr} (h1 : ED X W ex a ρ (.bool k)) (h2 : k = false → ED X W ex (.BoolOp .Or (b :: r) pos) ρ (.bool l)) : ED X W ex (.BoolOp .Or (a :: b :: r) pos) ρ (.bool (k || l)) := fun B F H σ Q E c q =>
  w_e (pe_or pe_w pe_w) (h1 B F H σ _ E c fun v F1 H1 x1 i1 => ⟨k, i1.bl_eq, by
    cases k with
    | true => exact iteT (q _ F1 H1 x1 (.bl _))
    | false => exact iteF (h2 rfl B F1 H1 σ _ (E.ext x1) (c.ext x1) fun v F2 H2 x2 i2 => q v F2 H2 (x1.trans x2) i2)⟩)
theorem ed_not {k : Bool} (h1 : ED X W ex a ρ (.bool k)) : ED X W ex (.UnaryOp .Not a pos) ρ (.bool (!k)) := fun B F H σ Q E c q =>
  w_e (pe_not pe_w) (h1 B F H σ _ E c fun v F1 H1 x1 i1 => ⟨k, i1.bl_eq, q _ F1 H1 x1 (.bl _)⟩)
end
end PD

set_option maxHeartbeats 4000000
namespace PD
open PySem L2 PyProof.Rows

/-! ### statements -/
structure De where
  nx : List Sl → Prop
  rt : PyData → Prop := fun _ => False
  rl : List PyData → Prop := fun _ => False
  bk : List Sl → Prop := fun _ => False
  ct : List Sl → Prop := fun _ => False
  ex : Addr → List Sl → Prop := fun _ _ => False
  /-- a thing of one's own is told: its places, where it stands -/
  ro : V → List Addr → Hp → Hp → Prop := fun _ _ _ _ => False
/-- where a def's body stands; F0, H0: its entry -/
structure S2 (K : PySem.W.Frag) (F0 H0 F H : Hp) (σ : L2.St) (ρ : List Sl) : Prop where
  x : Ext F0 H0 F H
  e : En K H0 F H σ ρ
structure Lk (K : PySem.W.Frag) (W : WX) (F0 H0 : Hp) (T : De) (D : Ends) : Prop where
  nx : ∀ ρ σ F H, T.nx ρ → S2 K F0 H0 F H σ ρ → D.nx σ H
  rt : ∀ d v F H, T.rt d → Ext F0 H0 F H → Is K F v d → D.rt v H
  rl : ∀ ds p vs F H, T.rl ds → Ext F0 H0 F H → H0 p = none → F p = none → H p = some (.lst vs) → IsAll K F vs ds → D.rt (.ref p) H
  bk : ∀ ρ σ F H, T.bk ρ → S2 K F0 H0 F H σ ρ → D.bk σ H
  ct : ∀ ρ σ F H, T.ct ρ → S2 K F0 H0 F H σ ρ → D.ct σ H
  ex : ∀ C ρ σ F H, T.ex C ρ → S2 K F0 H0 F H σ ρ → W (.ref C) none σ H
  ro : ∀ v fp F H, T.ro v fp F H → Ext F0 H0 F H → (∀ a ∈ fp, H0 a = none ∧ F a = none ∧ H a ≠ none) → D.rt v H
def SD (X : Cx) (W : WX) (st : Stmt) (ρ : List Sl) (T : De) : Prop := ∀ F0 H0 F H σ D, S2 X.K F0 H0 F H σ ρ → Lk X.K W F0 H0 T D → WS X st D σ H
def SDs (X : Cx) (W : WX) (sts : List Stmt) (ρ : List Sl) (T : De) : Prop := ∀ F0 H0 F H σ D, S2 X.K F0 H0 F H σ ρ → Lk X.K W F0 H0 T D → WSs X sts D σ H
theorem S2.go {K : PySem.W.Frag} {F0 H0 F H F' H' : Hp} {σ : L2.St} {ρ : List Sl} (s : S2 K F0 H0 F H σ ρ) (x : Ext F H F' H') : S2 K F0 H0 F' H' σ ρ := ⟨s.x.trans x, s.e.ext x⟩
theorem Lk.xc {K : PySem.W.Frag} {W : WX} {F0 H0 F H : Hp} {σ : L2.St} {ρ : List Sl} {T : De} {D : Ends} (l : Lk K W F0 H0 T D) (s : S2 K F0 H0 F H σ ρ) : Xc W (fun C => T.ex C ρ) F H σ := fun C F' H' e x => l.ex C ρ σ F' H' e (s.go x)
theorem Lk.nxt {K : PySem.W.Frag} {W : WX} {F0 H0 : Hp} {T : De} {D : Ends} (l : Lk K W F0 H0 T D) {P : List Sl → Prop} {q : L2.St → Hp → Prop} (h : ∀ ρ σ F H, P ρ → S2 K F0 H0 F H σ ρ → q σ H) : Lk K W F0 H0 { T with nx := P } { D with nx := q } := ⟨h, l.rt, l.rl, l.bk, l.ct, l.ex, l.ro⟩
theorem Ext.on {F0 H0 F H F' H' : Hp} (x : Ext F0 H0 F H) (y : Ext F H0 F' H') : Ext F0 H0 F' H' := ⟨x.f.trans y.f, y.h, y.i, fun a ha => (y.n a ha).trans (x.n a ha)⟩
theorem Ext.at {F0 H0 F H : Hp} (x : Ext F0 H0 F H) : Ext F H0 F H := ⟨Ex.refl F, x.h, x.i, fun _ _ => rfl⟩
theorem S2.on {K : PySem.W.Frag} {F0 H0 F H F' H' : Hp} {σ : L2.St} {ρ : List Sl} (x : Ext F0 H0 F H) (s : S2 K F H0 F' H' σ ρ) : S2 K F0 H0 F' H' σ ρ := ⟨x.on s.x, s.e⟩
theorem S2.at {K : PySem.W.Frag} {F0 H0 F H : Hp} {σ : L2.St} {ρ : List Sl} (s : S2 K F0 H0 F H σ ρ) : S2 K F H0 F H σ ρ := ⟨s.x.at, s.e⟩
theorem Lk.re {K : PySem.W.Frag} {W : WX} {F0 H0 F H : Hp} {T : De} {D : Ends} (l : Lk K W F0 H0 T D) (x : Ext F0 H0 F H) : Lk K W F H0 T D :=
  ⟨fun ρ σ F1 H1 q s => l.nx ρ σ F1 H1 q (s.on x), fun d v F1 H1 q y i => l.rt d v F1 H1 q (x.on y) i, fun ds p vs F1 H1 q y a b c d => l.rl ds p vs F1 H1 q (x.on y) a b c d,
    fun ρ σ F1 H1 q s => l.bk ρ σ F1 H1 q (s.on x), fun ρ σ F1 H1 q s => l.ct ρ σ F1 H1 q (s.on x), fun C ρ σ F1 H1 q s => l.ex C ρ σ F1 H1 q (s.on x), fun v fp F1 H1 q y z => l.ro v fp F1 H1 q (x.on y) z⟩
section
variable {X : Cx} {W : WX} {e a b c o : Expr} {es : List Expr} {st : Stmt} {sts ths els : List Stmt} {ρ : List Sl} {d : PyData} {ds xs ys : List PyData} {pos p p2 apos : Pos} {T : De}
theorem sds_nil (h : T.nx ρ) : SDs X W [] ρ T := fun F0 H0 F H σ D s l => w_ss pss_nil (l.nx ρ σ F H h s)
theorem sds_cons (h : SD X W st ρ { T with nx := fun ρ' => SDs X W sts ρ' T }) : SDs X W (st :: sts) ρ T := fun F0 H0 F H σ D s l =>
  w_ss (pss_cons ps_w pss_w) (h F0 H0 F H σ _ s (l.nxt fun ρ' σ' F' H' q s' => q F0 H0 F' H' σ' D s' l))
theorem sds_one (h : SD X W st ρ T) : SDs X W [st] ρ T := fun F0 H0 F H σ D s l => w_ss (pss_one ps_w) (h F0 H0 F H σ D s l)
theorem SDs.imp {T' : De} (h : SDs X W sts ρ T) (k : ∀ K F0 H0 D, Lk K W F0 H0 T' D → Lk K W F0 H0 T D) : SDs X W sts ρ T' := fun F0 H0 F H σ D s l => h F0 H0 F H σ D s (k _ _ _ _ l)
/-- x = e -/
theorem sd_set {i : Nat} {n : Str} (nd : X.N.Nodup) (hN : X.N[i]? = some n) (hl : Loc X.env.scope n) (hfn : X.fn n = true ∨ X.env.scope.names.lookup n = some .local) (h : ED X W (fun C => T.ex C ρ) e ρ d) (q : T.nx (ρ.set i (.sh d)))
    (hw : swapsWith e (some (.Name n p)) pos.line X.env = pure false := by rfl) : SD X W (.Assign [.Name n p] e pos) ρ T := fun F0 H0 F H σ D s l =>
  w_s (ps_set nd hN hl pe_w hw hfn) (h H0 F H σ _ s.e (l.xc s) fun v F1 H1 x1 i1 => l.nx _ _ F1 H1 q ⟨s.x.trans x1, (s.e.ext x1).set i1 rfl⟩)
theorem sd_setL {i : Nat} {n : Str} (nd : X.N.Nodup) (hN : X.N[i]? = some n) (hl : Loc X.env.scope n) (hfn : X.fn n = true ∨ X.env.scope.names.lookup n = some .local) (h : EL X W (fun C => T.ex C ρ) e ρ ds) (q : ∀ r, T.nx (ρ.set i (.ow r ds)))
    (hw : swapsWith e (some (.Name n p)) pos.line X.env = pure false := by rfl) : SD X W (.Assign [.Name n p] e pos) ρ T := fun F0 H0 F H σ D s l =>
  w_s (ps_set nd hN hl pe_w hw hfn) (h H0 F H σ _ s.e (l.xc s) fun r vs F1 H1 x1 h0 f0 h1 i1 => l.nx _ _ F1 H1 (q r) ⟨s.x.trans x1, s.e.own x1 h0 f0 h1 i1⟩)
/-- one's own list stands still from here on -/
theorem sds_frz {i : Nat} {r : Addr} (hi : ρ[i]? = some (.ow r ds)) (h : SDs X W sts (ρ.set i (.sh (.list ds))) T) : SDs X W sts ρ T := fun F0 H0 F H σ D s l => by
  obtain ⟨F', xf, nf, E'⟩ := s.e.frz hi
  exact h F0 H0 F' H σ D ⟨⟨s.x.f.trans xf, s.x.h, E'.i, fun a ha => (nf a ha).trans (s.x.n a ha)⟩, E'⟩ l
/-- x.append(e) -/
theorem sd_app {i : Nat} {n : Str} {r : Addr} (hN : X.N[i]? = some n) (hv : Vis X.env.scope n) (hi : ρ[i]? = some (.ow r ds)) (h : ED X W (fun C => T.ex C ρ) e ρ d) (hz : ds.length < 100000) (q : T.nx (ρ.set i (.ow r (ds ++ [d]))))
    (hd : (n == ("__debug__" : Str)) = false := by decide) (hcd : (n == ("__classdict__" : Str)) = false := by decide) (hs : starEach [e] X.env = [(false, eval e X.env)] := by rfl) (hb : attributeBase (.Name n p2) "append" X.env (eval (.Name n p2) X.env) = eval (.Name n p2) X.env := by rfl)
    (ha : (((backTo p (starEach [e] X.env)).all (fun x => !x.1) && (backToKw p (keywordEach [] X.env)).all (fun x => x.1.isSome)) && decide (([e].length + ([] : List Keyword).length + if ([] : List Keyword).isEmpty = true then 0 else 1) < 30)) = true := by rfl)
    (hl : (apos.endLine == p.line) = true := by rfl) (hz2 : (backTo p (starEach [] X.env)).any (·.1) = false := by rfl)
    (hw : swapsWith (.Call (.Attribute (.Name n p2) "append" apos) [e] [] p) none pos.line X.env = pure false := by rfl) : SD X W (.Expr (.Call (.Attribute (.Name n p2) "append" apos) [e] [] p) pos) ρ T := fun F0 H0 F H σ D s l => by
  obtain ⟨v, e1, h1⟩ := s.e.s i _ hi
  cases v with
  | none => exact h1.elim
  | some v =>
  obtain ⟨rfl, hf, hb0, vs, hh, a0⟩ := h1
  refine w_s (ps_expr (pe_bm PySem.F.plainAttrs_list PySem.F.slot_list_append PySem.F.type_list_append mt_append (pe_var hN hv hd hcd) (pa_cons pe_w pa_nil hs) hb ha hl hs hz2) hw) ⟨_, e1, .inl ⟨rfl, vs, SqL.of hh⟩, ?_⟩
  refine h H0 F H σ _ s.e (l.xc s) fun v2 F1 H1 x1 i1 => ?_
  have hh1 := x1.h _ _ hh
  have E1 := s.e.ext x1
  have hz1 : vs.length < sizeLine := Nat.lt_of_lt_of_le (by rw [a0.len]; exact hz) (by decide)
  refine ⟨r, vs, v2, rfl, rfl, hh1, hz1, ?_⟩
  have E2 := E1.wr (es := ds ++ [d]) hi ((a0.mono x1.f).append (.cons i1 .nil))
  exact l.nx _ _ F1 _ q ⟨⟨s.x.f.trans x1.f, (s.x.h.trans x1.h).mut hb0, E2.i, fun z hz => ((s.x.trans x1).n z hz)⟩, E2⟩
theorem sd_ret (h : ED X W (fun C => T.ex C ρ) e ρ d) (q : T.rt d) : SD X W (.Return (some e) pos) ρ T := fun F0 H0 F H σ D s l =>
  w_s (ps_ret pe_w) (h H0 F H σ _ s.e (l.xc s) fun v F1 H1 x1 i1 => l.rt d v F1 H1 q (s.x.trans x1) i1)
theorem sd_retL (h : EL X W (fun C => T.ex C ρ) e ρ ds) (q : T.rl ds) : SD X W (.Return (some e) pos) ρ T := fun F0 H0 F H σ D s l =>
  w_s (ps_ret pe_w) (h H0 F H σ _ s.e (l.xc s) fun r vs F1 H1 x1 h0 f0 h1 i1 => l.rl ds r vs F1 H1 q (s.x.trans x1) (s.x.h.back h0) f0 h1 i1)
theorem sd_retO {i : Nat} {n : Str} {r : Addr} (hN : X.N[i]? = some n) (hv : Vis X.env.scope n) (hi : ρ[i]? = some (.ow r ds)) (q : T.rl ds) (hd : (n == ("__debug__" : Str)) = false := by decide) (hcd : (n == ("__classdict__" : Str)) = false := by decide) :
    SD X W (.Return (some (.Name n p)) pos) ρ T := fun F0 H0 F H σ D s l => by
  obtain ⟨v, e1, h1⟩ := s.e.s i _ hi
  cases v with
  | none => exact h1.elim
  | some v =>
  obtain ⟨rfl, hf, hb0, vs, hh, a0⟩ := h1
  exact w_s (ps_ret (pe_var hN hv hd hcd)) ⟨_, e1, l.rl ds r vs F H q s.x hb0 hf hh a0⟩
theorem sd_expr (h : ED X W (fun C => T.ex C ρ) e ρ d) (q : T.nx ρ) (hw : swapsWith e none pos.line X.env = pure false := by rfl) : SD X W (.Expr e pos) ρ T := fun F0 H0 F H σ D s l =>
  w_s (ps_expr pe_w hw) (h H0 F H σ _ s.e (l.xc s) fun v F1 H1 x1 i1 => l.nx ρ σ F1 H1 q (s.go x1))
theorem sd_if {k : Bool} (h : ET X W (fun C => T.ex C ρ) c ρ k) (h1 : k = true → SDs X W ths ρ T) (h2 : k = false → SDs X W els ρ T) : SD X W (.If c ths els pos) ρ T := fun F0 H0 F H σ D s l =>
  w_s (ps_if pt_w pss_w pss_w) (h H0 F H σ _ s.e (l.xc s) fun F1 H1 x1 => by
    cases k with
    | false => exact iteF (h2 rfl F0 H0 F1 H1 σ D (s.go x1) l)
    | true => exact iteT (h1 rfl F0 H0 F1 H1 σ D (s.go x1) l))
/-- C(e), an error of one's own; nothing is handled meanwhile -/
theorem pmkN {C : Addr} {bmB : List Value} {B0 newId initId : String} {n : Str} {te : TE} (F : ExcBaseFacts B0 newId initId bmB) (q : PySem.W.excIn X.K C bmB newId = true) (gC : X.mg n = some (.ref C)) (kC : PySem.W.keepIn X.K (.ref C) = true) (r : Raises X (.ref C)) (hg : Gl X n)
    (h : PE X e te) (hs : starEach [e] X.env = (false, eval e X.env) :: starEach [] X.env := by rfl) (hdb : (n == ("__debug__" : Str)) = false := by decide) : L2N.PMk X (.Call (.Name n p) [e] [] pos) (fun σ H Q => te σ H fun _ H1 => Q (.ref C) none H1) := fun pins s σ H Q I hq => by
  refine wpAny_Call_Name_kw (ld_glob I hg gC (PySem.W.callWith_K (h₀ := X.base) I.ok.mod.kin kC ?_ hs (by rfl)) hdb)
  rw [hs]
  refine Calls.spliced_cons (thn (h.run pins s σ H _ I hq) fun u s1 ⟨v, H1, I1, _, q1⟩ => Calls.spliced_nil ⟨I1.kIn, ?_⟩)
  obtain ⟨_, _, _, _, _, _, _, _, _, _, _, _, _, _, _, _, _, hC, hN, hni, T⟩ := exc_obj I1.kIn q
  exact wpAny_call_exc_subT F T hC hN hni (fun h' e' hm => L2N.mk_of I1 hm r q1 (I1.hok.gone hm.new)) (by show 1 ≤ sizeLine; decide)
/-- raise C(e) -/
theorem sd_raise {C : Addr} {n : Str} {bmB : List Value} {B0 newId initId : String} (hc : X.calm = true) (tk : L2N.Takes X W) (F : ExcBaseFacts B0 newId initId bmB) (q : PySem.W.excIn X.K C bmB newId = true) (gC : X.mg n = some (.ref C)) (kC : PySem.W.keepIn X.K (.ref C) = true) (r : Raises X (.ref C)) (hg : Gl X n)
    (h : ED X W (fun C => T.ex C ρ) e ρ d) (hx : T.ex C ρ) (hs : starEach [e] X.env = (false, eval e X.env) :: starEach [] X.env := by rfl) (hdb : (n == ("__debug__" : Str)) = false := by decide) : SD X W (.Raise (some (.Call (.Name n p) [e] [] p2)) none pos) ρ T := fun F0 H0 F1 H1 σ D s l =>
  w_s (L2N.ps_raise hc tk (pmkN F q gC kC r hg pe_w hs hdb)) (h H0 F1 H1 σ _ s.e (l.xc s) fun v F2 H2 x2 i2 => l.ex C ρ σ F2 H2 hx (s.go x2))
/-- for x in a list that stands still -/
theorem sd_for {j : Nat} {n : Str} {body : List Stmt} (I : Nat → List Sl → Prop) (hp : PassesOwn (model X.prog X.w) X.A X.env X.xe) (hc : X.calm = true) (nd : X.N.Nodup) (hN : X.N[j]? = some n) (hl : Loc X.env.scope n) (hfn : X.fn n = true ∨ X.env.scope.names.lookup n = some .local)
    (h : EP' X W (fun C => T.ex C ρ) e ρ ds) (h0 : I 0 ρ) (hs : ∀ i d ρ', ds[i]? = some d → I i ρ' → SDs X W body (ρ'.set j (.sh d)) { T with nx := I (i + 1), ct := I (i + 1), bk := T.nx }) (hd : ∀ ρ', I ds.length ρ' → T.nx ρ')
    (hf : ∀ x, foldedSetIterable e X.env x = pure x := by intro _; rfl) : SD X W (.For (.Name n p) e body [] pos) ρ T := fun F0 H0 F H σ D s l =>
  w_s (ps_for hp hc (pi_list pe_w) (pg_name nd hN hl hfn) pss_w hf) (h H0 F H σ _ s.e (l.xc s) fun r vs F1 H1 x1 hr i1 => by
    have s1 := s.go x1
    refine ⟨r, rfl, ⟨vs, ?_⟩, for_list (xs := vs) (fun i σ' H' => ∃ F' ρ', I i ρ' ∧ Ex F1 F' ∧ S2 X.K F0 H0 F' H' σ' ρ') ⟨F1, ρ, h0, Ex.refl F1, s1⟩ ?_ ?_ ?_⟩
    · rcases hr with hr | hr
      · exact s1.e.b.sql hr
      · exact s1.e.i.sql hr
    · rintro i σ' H' hi ⟨F', ρ', hI, hx, s'⟩
      rcases hr with hr | hr
      · exact s'.e.b.sql hr
      · exact (hx.trans s'.e.i).sql hr
    · rintro i x σ' H' hi ⟨F', ρ', hI, hx, s'⟩
      obtain ⟨d, hd', id'⟩ := i1.get' hi
      refine hs i d ρ' hd' hI F' H0 F' H' (σ'.set j (some x)) _ ⟨s'.x.at, s'.e.set (s := .sh d) (id'.mono hx) rfl⟩ ?_
      have l' := l.re s'.x
      have nx : ∀ ρ2 σ2 F2 H2, I (i + 1) ρ2 → S2 X.K F' H0 F2 H2 σ2 ρ2 → ∃ F3 ρ3, I (i + 1) ρ3 ∧ Ex F1 F3 ∧ S2 X.K F0 H0 F3 H2 σ2 ρ3 := fun ρ2 σ2 F2 H2 q s2 => ⟨F2, ρ2, q, hx.trans s2.x.f, s2.on s'.x⟩
      exact ⟨nx, l'.rt, l'.rl, l'.nx, nx, l'.ex, l'.ro⟩
    · rintro σ' H' ⟨F', ρ', hI, hx, s'⟩
      rw [i1.len] at hI
      exact l.nx ρ' σ' F' H' (hd ρ' hI) s')
end
end PD

set_option maxHeartbeats 4000000
namespace PD
open PySem L2
section
variable {X : Cx} {W : WX} {ex : Addr → Prop} {e a b c o elt : Expr} {es : List Expr} {st : Stmt} {sts ths els body : List Stmt} {ρ : List Sl} {d : PyData} {ds xs ys : List PyData} {pos p p2 apos tpos : Pos} {T : De}
theorem ags_sh {K : PySem.W.Frag} {F H : Hp} : ∀ {vs ws : List V} {ds : List PyData} {as : List Sl}, IsAll K F vs ds → AgsOk K F H ws as → AgsOk K F H (vs ++ ws) (ds.map .sh ++ as)
  | _, _, _, _, .nil, r => r
  | _, _, _, _, .cons h t, r => .cons h (ags_sh t r)
theorem ea_star {as : List Sl} (h : EB X W ex e ρ ds) (r : EA X W ex es ρ as) (hs : starEach (.Starred e p :: es) X.env = (true, eval e X.env) :: starEach es X.env := by rfl) : EA X W ex (.Starred e p :: es) ρ (ds.map .sh ++ as) := fun B F H σ Q E c q =>
  w_a (StX.pa_star pe_w pa_w hs) (h B F H σ _ E c fun l vs F1 H1 x1 h1 i1 => ⟨l, vs, rfl, .inr h1, r B F1 H1 σ _ (E.ext x1) (c.ext x1) fun ws F2 H2 x2 i2 => q _ F2 H2 (x1.trans x2) (ags_sh (i1.mono x2.f) i2)⟩)

/-! f-strings: some text -/
def ShortS (z : Str) : Prop := z.length ≤ 20000
theorem ed_fs1 (h : ED X W ex e ρ d) : ED X W ex (.JoinedStr [e] pos) ρ d := fun B F H σ Q E c q => w_e (pe_joined1 pe_w) (h B F H σ Q E c q)
/-- parts, one behind the other -/
def EJ (X : Cx) (W : WX) (ex : Addr → Prop) (es : List Expr) (ρ : List Sl) (zs : List Str) : Prop := Paired (fun e z => ED X W ex e ρ (.str z)) es zs
theorem ed_fstr {e1 e2 : Expr} {zs : List Str} (h : EJ X W ex (e1 :: e2 :: es) ρ zs) (hz : (zs.map (·.length)).sum ≤ 100000) : ED X W ex (.JoinedStr (e1 :: e2 :: es) pos) ρ (.str (zs.foldl (· ++ ·) Str.empty)) := by
  have pj : ∀ fs : List Expr, PJ X fs (fs.map (WE X)) := fun fs => by
    induction fs with
    | nil => exact .nil
    | cons f r ih => exact .cons pe_w ih
  have go : ∀ (fs : List Expr) (zs : List Str), EJ X W ex fs ρ zs → ∀ (acc : Str) B F H σ (Q : Str → Hp → Prop), acc.length + (zs.map (·.length)).sum ≤ 100000 → En X.K B F H σ ρ → Xc W ex F H σ → (∀ F' H', Ext F H F' H' → Q (zs.foldl (· ++ ·) acc) H') → tJs (fs.map (WE X)) acc σ H Q := by
    intro fs zs h
    induction h with
    | nil => intro acc B F H σ Q _ E c q; exact q F H (Ext.refl E.i)
    | @cons f z fs zs hf _ ih =>
      intro acc B F H σ Q hl E c q
      refine hf B F H σ _ E c fun v F1 H1 x1 i1 => ?_
      rw [List.map_cons, List.sum_cons] at hl
      have e1 : (acc ++ z).length = acc.length + z.length := by
        show (acc ++ z).cps.size = _
        rw [Str.cps_append, Array.size_append]; rfl
      refine ⟨z, i1.str_eq, sz_le (by omega), ih (acc ++ z) B F1 H1 σ _ (by omega) (E.ext x1) (c.ext x1) fun F2 H2 x2 => q F2 H2 (x1.trans x2)⟩
  intro B F H σ Q E c q
  exact w_e (pe_joined (pj _)) (go _ _ h Str.empty B F H σ _ (by show 0 + _ ≤ _; omega) E c fun F1 H1 x1 => q _ F1 H1 x1 (.str _))
theorem ed_fmt {z : Str} (h : ED X W ex e ρ (.str z)) (hz : z.length ≤ 100000) : ED X W ex (.FormattedValue e (-1) none pos) ρ (.str z) := fun B F H σ Q E c q => w_e (pe_fmt pe_w) (h B F H σ _ E c fun v F1 H1 x1 i1 => .inl ⟨z, i1.str_eq, sz_le hz, q _ F1 H1 x1 (.str _)⟩)
theorem ed_fmtI {i : Int} (h : ED X W ex e ρ (.int i)) (hz : i.natAbs.log2 < 1920) : ED X W ex (.FormattedValue e (-1) none pos) ρ (.str (toString i)) := fun B F H σ Q E c q => w_e (pe_fmt pe_w) (h B F H σ _ E c fun v F1 H1 x1 i1 => .inr ⟨i, i1.int_eq, hz, q _ F1 H1 x1 (.str _)⟩)
theorem ed_fmtR {z : Str} (h : ED X W ex e ρ (.str z)) (hz : (reprText z).length ≤ 100000) : ED X W ex (.FormattedValue e 114 none pos) ρ (.str (reprText z)) := fun B F H σ Q E c q => w_e (pe_fmtR pe_w) (h B F H σ _ E c fun v F1 H1 x1 i1 => .inl ⟨z, i1.str_eq, sz_le hz, q _ F1 H1 x1 (.str _)⟩)

/-! targets: names, tuples of names -/
def GU (X : Cx) (tg : Expr) (f : List Sl → PyData → List Sl → Prop) : Prop := ∃ g, PG X tg g ∧ ∀ ρ d ρ', f ρ d ρ' → ∀ B F H σ v (Q : L2.St → Hp → Prop), En X.K B F H σ ρ → Is X.K F v d → (∀ σ', En X.K B F H σ' ρ' → Q σ' H) → g v σ H Q
def GUs (X : Cx) (tgs : List Expr) (f : List Sl → List PyData → List Sl → Prop) : Prop := ∃ g, PGs X tgs g ∧ ∀ ρ ds ρ', f ρ ds ρ' → ∀ B F H σ vs (Q : L2.St → Hp → Prop), En X.K B F H σ ρ → IsAll X.K F vs ds → (∀ σ', En X.K B F H σ' ρ' → Q σ' H) → g vs σ H Q
def fName (j : Nat) : List Sl → PyData → List Sl → Prop := fun ρ d ρ' => ρ' = ρ.set j (.sh d)
def fNil : List Sl → List PyData → List Sl → Prop := fun ρ ds ρ' => ds = [] ∧ ρ' = ρ
def fCons (f : List Sl → PyData → List Sl → Prop) (g : List Sl → List PyData → List Sl → Prop) : List Sl → List PyData → List Sl → Prop := fun ρ ds ρ' => ∃ d r ρ1, ds = d :: r ∧ f ρ d ρ1 ∧ g ρ1 r ρ'
def fTup (g : List Sl → List PyData → List Sl → Prop) (n : Nat) : List Sl → PyData → List Sl → Prop := fun ρ d ρ' => ∃ ds, d = .tuple ds ∧ ds.length = n ∧ g ρ ds ρ'
theorem gu_name {j : Nat} {n : Str} (nd : X.N.Nodup) (hN : X.N[j]? = some n) (hl : Loc X.env.scope n) (hfn : X.fn n = true ∨ X.env.scope.names.lookup n = some .local) : GU X (.Name n pos) (fName j) :=
  ⟨gName j, pg_name nd hN hl hfn, fun ρ d ρ' e B F H σ v Q E i q => by
    have e : ρ' = ρ.set j (.sh d) := e
    subst e
    exact q _ (E.set (s := .sh d) i rfl)⟩
theorem gus_nil : GUs X [] fNil := ⟨gNil, pgs_nil, fun ρ ds ρ' h B F H σ vs Q E i q => by
  obtain ⟨rfl, rfl⟩ := h
  cases i
  exact ⟨rfl, q σ E⟩⟩
theorem gus_cons {f : List Sl → PyData → List Sl → Prop} {g : List Sl → List PyData → List Sl → Prop} {tgs : List Expr} (h : GU X e f) (r : GUs X tgs g) (hm : (assignEach (e :: tgs) X.env).map (·.2) = assign e X.env :: (assignEach tgs X.env).map (·.2) := by rfl) : GUs X (e :: tgs) (fCons f g) := by
  obtain ⟨g1, p1, k1⟩ := h
  obtain ⟨g2, p2, k2⟩ := r
  refine ⟨gCons g1 g2, pgs_cons p1 p2 hm, fun ρ ds ρ' hf B F H σ vs Q E i q => ?_⟩
  obtain ⟨d, rest, ρ1, rfl, h1, h2⟩ := hf
  cases i with
  | cons i1 i2 => exact ⟨_, _, rfl, k1 ρ d ρ1 h1 B F H σ _ _ E i1 fun σ1 E1 => k2 ρ1 rest ρ' h2 B F H σ1 _ Q E1 i2 q⟩
theorem gu_tup {g : List Sl → List PyData → List Sl → Prop} {tgs : List Expr} {k n : Nat} (hc : X.calm = true) (h : GUs X tgs g) (h1 : (assignEach tgs X.env).length = n := by rfl) (h2 : (assignEach tgs X.env).findIdx? (·.1) = none := by rfl) : GU X (.Tuple tgs k pos) (fTup g n) := by
  obtain ⟨g1, p1, k1⟩ := h
  refine ⟨gTup X.K n g1, pg_tup hc p1 h1 h2, fun ρ d ρ' hf B F H σ v Q E i q => ?_⟩
  obtain ⟨ds, rfl, hn, hg⟩ := hf
  cases i with
  | tup hs ia => exact ⟨_, _, rfl, E.i.sqt hs, ia.len.trans hn, k1 ρ ds ρ' hg B F H σ _ Q E ia q⟩
/-- a, b = e -/
theorem sd_asg {tg : Expr} {ρ' : List Sl} {f : List Sl → PyData → List Sl → Prop} (h : ED X W (fun C => T.ex C ρ) e ρ d) (g : GU X tg f) (hf : f ρ d ρ') (q : T.nx ρ')
    (h1 : swapsWithSole [tg] e pos.line X.env = pure false := by rfl) (h2 : swappedStores [tg] e X.env = pure none := by rfl) (h3 : (assignEach [tg] X.env).map (·.2) = [assign tg X.env] := by rfl) : SD X W (.Assign [tg] e pos) ρ T := by
  obtain ⟨g1, p1, k1⟩ := g
  exact fun F0 H0 F H σ D s l => w_s (ps_asg pe_w p1 h1 h2 h3) (h H0 F H σ _ s.e (l.xc s) fun v F1 H1 x1 i1 => k1 ρ d ρ' hf H0 F1 H1 σ v _ (s.e.ext x1) i1 fun σ' E' => l.nx ρ' σ' F1 H1 q ⟨s.x.trans x1, E'⟩)
/-- for .. in a list that stands still, any target -/
theorem sd_forG {tg : Expr} {f : List Sl → PyData → List Sl → Prop} (I : Nat → List Sl → Prop) (hp : PassesOwn (model X.prog X.w) X.A X.env X.xe) (hc : X.calm = true) (g : GU X tg f)
    (h : EP' X W (fun C => T.ex C ρ) e ρ ds) (h0 : I 0 ρ) (hs : ∀ i d ρ1, ds[i]? = some d → I i ρ1 → ∃ ρ2, f ρ1 d ρ2 ∧ SDs X W body ρ2 { T with nx := I (i + 1), ct := I (i + 1), bk := T.nx }) (hd : ∀ ρ', I ds.length ρ' → T.nx ρ')
    (hf : ∀ x, foldedSetIterable e X.env x = pure x := by intro _; rfl) : SD X W (.For tg e body [] pos) ρ T := by
  obtain ⟨g1, p1, k1⟩ := g
  refine fun F0 H0 F H σ D s l => w_s (ps_for hp hc (pi_list pe_w) p1 pss_w hf) (h H0 F H σ _ s.e (l.xc s) fun r vs F1 H1 x1 hr i1 => ?_)
  have s1 := s.go x1
  refine ⟨r, rfl, ⟨vs, ?_⟩, for_list (xs := vs) (fun i σ' H' => ∃ F' ρ', I i ρ' ∧ Ex F1 F' ∧ S2 X.K F0 H0 F' H' σ' ρ') ⟨F1, ρ, h0, Ex.refl F1, s1⟩ ?_ ?_ ?_⟩
  · rcases hr with hr | hr
    · exact s1.e.b.sql hr
    · exact s1.e.i.sql hr
  · rintro i σ' H' hi ⟨F', ρ', hI, hx, s'⟩
    rcases hr with hr | hr
    · exact s'.e.b.sql hr
    · exact (hx.trans s'.e.i).sql hr
  · rintro i x σ' H' hi ⟨F', ρ', hI, hx, s'⟩
    obtain ⟨d, hd', id'⟩ := i1.get' hi
    obtain ⟨ρ2, hf2, hb⟩ := hs i d ρ' hd' hI
    refine k1 ρ' d ρ2 hf2 H0 F' H' σ' x _ s'.e (id'.mono hx) fun σ2 E2 => ?_
    refine hb F' H0 F' H' σ2 _ ⟨s'.x.at, E2⟩ ?_
    have l' := l.re s'.x
    have nx : ∀ ρ2 σ2 F2 H2, I (i + 1) ρ2 → S2 X.K F' H0 F2 H2 σ2 ρ2 → ∃ F3 ρ3, I (i + 1) ρ3 ∧ Ex F1 F3 ∧ S2 X.K F0 H0 F3 H2 σ2 ρ3 := fun ρ2 σ2 F2 H2 q s2 => ⟨F2, ρ2, q, hx.trans s2.x.f, s2.on s'.x⟩
    exact ⟨nx, l'.rt, l'.rl, l'.nx, nx, l'.ex, l'.ro⟩
  · rintro σ' H' ⟨F', ρ', hI, hx, s'⟩
    rw [i1.len] at hI
    exact l.nx ρ' σ' F' H' (hd ρ' hI) s'
/-- for j in range(n) -/
theorem sd_rng {j : Nat} {n : Str} {k : Int} (I : Nat → List Sl → Prop) (hp : PassesOwn (model X.prog X.w) X.A X.env X.xe) (hc : X.calm = true) (nd : X.N.Nodup) (hN : X.N[j]? = some n) (hl : Loc X.env.scope n) (hfn : X.fn n = true ∨ X.env.scope.names.lookup n = some .local)
    (hg : Gl X ("range" : Str)) (hm : X.mg ("range" : Str) = none) (h : ED X W (fun C => T.ex C ρ) a ρ (.int k)) (hk : k < 2 ^ 62 ∧ -(2 ^ 62) ≤ k) (h0 : I 0 ρ)
    (hs : ∀ (i : Nat) ρ', i < k.toNat → I i ρ' → SDs X W body (ρ'.set j (.sh (.int i))) { T with nx := I (i + 1), ct := I (i + 1), bk := T.nx }) (hd : ∀ ρ', I k.toNat ρ' → T.nx ρ')
    (hst : starEach [a] X.env = [(false, eval a X.env)] := by rfl) (hf : ∀ x, foldedSetIterable (.Call (.Name "range" p) [a] [] p2) X.env x = pure x := by intro _; rfl) : SD X W (.For (.Name n tpos) (.Call (.Name "range" p) [a] [] p2) body [] pos) ρ T := fun F0 H0 F H σ D s l =>
  w_s (ps_for hp hc (pi_range1 hg hm (pa_cons pe_w pa_nil hst) hst) (pg_name nd hN hl hfn) pss_w hf) (h H0 F H σ _ s.e (l.xc s) fun v F1 H1 x1 i1 => by
    have s1 := s.go x1
    refine ⟨k, by rw [i1.int_eq], hk.2, hk.1, for_range (lo := 0) (n := k.toNat) (fun i σ' H' => ∃ F' ρ', I i ρ' ∧ S2 X.K F0 H0 F' H' σ' ρ') ⟨F1, ρ, h0, s1⟩ ?_ ?_⟩
    · rintro i σ' H' hi ⟨F', ρ', hI, s'⟩
      have e0 : (0 : Int) + (i : Int) = (i : Int) := Int.zero_add _
      rw [e0]
      refine hs i ρ' hi hI F' H0 F' H' (σ'.set j (some (.int i))) _ ⟨s'.x.at, s'.e.set (s := .sh (.int i)) (.int _) rfl⟩ ?_
      have l' := l.re s'.x
      have nx : ∀ ρ2 σ2 F2 H2, I (i + 1) ρ2 → S2 X.K F' H0 F2 H2 σ2 ρ2 → ∃ F3 ρ3, I (i + 1) ρ3 ∧ S2 X.K F0 H0 F3 H2 σ2 ρ3 := fun ρ2 σ2 F2 H2 q s2 => ⟨F2, ρ2, q, s2.on s'.x⟩
      exact ⟨nx, l'.rt, l'.rl, l'.nx, nx, l'.ex, l'.ro⟩
    · rintro σ' H' ⟨F', ρ', hI, s'⟩
      exact l.nx ρ' σ' F' H' (hd ρ' hI) s')
end
end PD

set_option maxHeartbeats 4000000
namespace PD
open PySem L2

/-! ### comprehensions: one clause over a name, a test or none -/
abbrev noW : WX := fun _ _ _ _ => False
theorem xcN {W : WX} {F H : Hp} {σ : L2.St} : Xc W noX F H σ := fun _ _ _ e => e.elim
/-- in the comprehension's block -/
abbrev Blk (X : Cx) (scope : Scope) (P : Cx → Prop) : Prop := ∀ (s : Shared) (H : Hp) (C : Addr) (cl : List (Str × Addr)) (fp : List Addr), P (X.blk s H scope (compEnvC scope cl C X.env) fp)
/-- what is made so far: at D, told nowhere yet -/
def Cm (K : PySem.W.Frag) (F1 H1 : Hp) (D : Addr) (out : List PyData) (H : Hp) : Prop := ∃ F acc, Ext F1 H1 F H ∧ F D = none ∧ H D = some (.lst acc) ∧ IsAll K F acc out
theorem wipe1 {σ : L2.St} {j : Nat} {o : Option V} : wipe ((wipe σ [j]).set j o) [j] = wipe σ [j] := by
  show (((σ.set j none).set j o).set j none) = σ.set j none
  rw [List.set_set, List.set_set]
theorem En.wipe {K : PySem.W.Frag} {B F H : Hp} {σ : L2.St} {ρ : List Sl} (E : En K B F H σ ρ) (j : Nat) : En K B F H (L2.wipe σ [j]) (ρ.set j .un) :=
  E.set_ (o := none) (s := .un) trivial fun _ _ _ _ h _ => nomatch h
section
variable {X : Cx} {W : WX} {ex : Addr → Prop} {e a b c o elt iter : Expr} {es ifs : List Expr} {st : Stmt} {ρ : List Sl} {d : PyData} {ds xs ys : List PyData} {pos p p2 apos tpos spos : Pos} {T : De} {scope : Scope} {n : Str} {j : Nat}
/-- the turn of a block -/
theorem cm_turn {α : Type} {t : TT} {te : TE} {B F1 H1 H' : Hp} {D : Addr} {σ2 : L2.St} {ρ2 : List Sl} {out : List PyData} {k : Bool} {r : PyData} {σ : L2.St}
    (ht : ∀ F H (Q : Bool → Hp → Prop), En X.K B F H σ2 ρ2 → (∀ F' H', Ext F H F' H' → Q k H') → t σ2 H Q)
    (he : k = true → ∀ F H (Q : VK), En X.K B F H σ2 ρ2 → (∀ v F' H', Ext F H F' H' → Is X.K F' v r → Q v H') → te σ2 H Q)
    (hE : ∀ F H, Ext F1 H1 F H → En X.K B F H σ2 ρ2) (hD : H1 D = none) (hz : out.length < 100000) (c : Cm X.K F1 H1 D out H') :
    t σ2 H' fun b H3 => if b = true then te σ2 H3 fun y H4 => ∃ acc, H4 D = some (.lst acc) ∧ acc.length < sizeLine ∧ Cm X.K F1 H1 D (if k = true then out ++ [r] else out) (upd H4 D (.lst (acc ++ [y]))) else Cm X.K F1 H1 D (if k = true then out ++ [r] else out) H3 := by
  obtain ⟨F, acc, x, hf, hh, ia⟩ := c
  refine ht F H' _ (hE F H' x) fun F2 H2 x2 => ?_
  have nD : H' D ≠ none := by rw [hh]; exact fun q => nomatch q
  cases k with
  | false => exact iteF ⟨F2, acc, x.trans x2, (x2.n D nD).trans hf, x2.h _ _ hh, by rw [if_neg Bool.false_ne_true]; exact ia.mono x2.f⟩
  | true =>
    refine iteT (he rfl F2 H2 _ (hE F2 H2 (x.trans x2)) fun v F3 H3 x3 i3 => ?_)
    have x23 := x2.trans x3
    have x13 := x.trans x23
    have hf3 : F3 D = none := (x23.n D nD).trans hf
    refine ⟨acc, x23.h _ _ hh, Nat.lt_of_lt_of_le (by rw [ia.len]; exact hz) (by decide), F3, acc ++ [v], ⟨x13.f, x13.h.mut hD, x13.i.mut hf3, x13.n⟩, hf3, upd_same, ?_⟩
    rw [if_pos rfl]
    exact (ia.mono x23.f).append (.cons i3 .nil)
def TsD (X : Cx) (ifs : List Expr) (ρ : List Sl) (k : Bool) : Prop := match ifs with
  | [] => k = true
  | [c] => ET X noW noX c ρ k
  | _ => False
/-- a clause's tests as they are -/
theorem pts_w {X : Cx} : ∀ {ifs : List Expr}, (∃ ρ k, TsD X ifs ρ k) → ∃ t, PTs X ifs t ∧ ∀ ρ k, TsD X ifs ρ k → ∀ B F H σ (Q : Bool → Hp → Prop), En X.K B F H σ ρ → (∀ F' H', Ext F H F' H' → Q k H') → t σ H Q
  | [], _ => ⟨tYes, pts_nil, fun ρ k h B F H σ Q E q => by
      have h : k = true := h
      subst h
      exact q F H (Ext.refl E.i)⟩
  | [c], _ => ⟨WT X c, pts_one pt_w, fun ρ k h B F H σ Q E q => h B F H σ Q E xcN q⟩
  | _ :: _ :: _, ⟨_, _, h⟩ => h.elim
def ptsT (X : Cx) : List Expr → TT
  | [] => tYes
  | [c] => WT X c
  | _ => fun _ _ _ => False
theorem pts_T {X : Cx} {ifs : List Expr} (h : ifs.length ≤ 1) : PTs X ifs (ptsT X ifs) := match ifs, h with
  | [], _ => pts_nil
  | [c], _ => pts_one pt_w
theorem pts_run {X : Cx} {ifs : List Expr} {ρ : List Sl} {k : Bool} (h : TsD X ifs ρ k) {B F H : Hp} {σ : L2.St} {Q : Bool → Hp → Prop} (E : En X.K B F H σ ρ) (q : ∀ F' H', Ext F H F' H' → Q k H') : ptsT X ifs σ H Q := match ifs, h with
  | [], h => by
    have h : k = true := h
    subst h
    exact q F H (Ext.refl E.i)
  | [c], h => h B F H σ Q E xcN q
end

/-- the readings of a block, one for all its contexts -/
def WEB (X : Cx) (scope : Scope) (e : Expr) : TE := fun σ H Q => ∀ (s : Shared) (H0 : Hp) (C : Addr) (cl : List (Str × Addr)) (fp : List Addr), WE (X.blk s H0 scope (compEnvC scope cl C X.env) fp) e σ H Q
def WTB (X : Cx) (scope : Scope) (ifs : List Expr) : TT := fun σ H Q => ∀ (s : Shared) (H0 : Hp) (C : Addr) (cl : List (Str × Addr)) (fp : List Addr), ptsT (X.blk s H0 scope (compEnvC scope cl C X.env) fp) ifs σ H Q
section
variable {X : Cx} {W : WX} {ex : Addr → Prop} {e a b c o elt iter : Expr} {es ifs : List Expr} {st : Stmt} {ρ : List Sl} {d : PyData} {ds xs ys : List PyData} {pos p p2 apos tpos spos : Pos} {T : De} {scope : Scope} {n y : Str} {i j : Nat}
theorem pe_wb {s : Shared} {H0 : Hp} {C : Addr} {cl : List (Str × Addr)} {fp : List Addr} : PE (X.blk s H0 scope (compEnvC scope cl C X.env) fp) e (WEB X scope e) := ⟨fun pins s1 σ H Q I h => h s H0 C cl fp pins s1 I⟩
theorem pts_wb {s : Shared} {H0 : Hp} {C : Addr} {cl : List (Str × Addr)} {fp : List Addr} (h : ifs.length ≤ 1) : PTs (X.blk s H0 scope (compEnvC scope cl C X.env) fp) ifs (WTB X scope ifs) := ⟨fun pins s1 σ H Q I q => (pts_T h).run pins s1 σ H Q I (q s H0 C cl fp)⟩

theorem filt_snoc {α : Type} (xs : List α) (b : α → Bool) (g : α → PyData) {i : Nat} {x : α} (h : xs[i]? = some x) : ((xs.take (i + 1)).filter b).map g = if b x = true then ((xs.take i).filter b).map g ++ [g x] else ((xs.take i).filter b).map g := by
  rw [List.take_add_one, h, List.filter_append, List.map_append]
  show _ ++ (List.filter b [x]).map g = _
  cases hb : b x with
  | true => rw [List.filter_cons, if_pos hb, if_pos rfl]; rfl
  | false => rw [List.filter_cons, if_neg (by rw [hb]; exact Bool.false_ne_true), if_neg Bool.false_ne_true]; exact List.append_nil _

/-- what a comprehension asks: the names' side -/
structure LcOk (X : Cx) (scope : Scope) (ifs : List Expr) (n : Str) (j : Nat) (iter : Expr) : Prop where
  calm : X.calm = true
  nd : X.N.Nodup
  blk : BlkOk X.N X.env.scope scope [(n, j)]
  one : ifs.length ≤ 1
  loc : scope.names.lookup n = some .local
  at_ : X.N[j]? = some n
  fset : ∀ x, foldedSetIterable iter X.env x = pure x
theorem lc_tgt (L : LcOk X scope ifs n j iter) (s : Shared) (H : Hp) (C : Addr) (cl : List (Str × Addr)) (fp : List Addr) : PG (X.blk s H scope (compEnvC scope cl C X.env) fp) (.Name n tpos) (gName j) := by
  have h : (X.blk s H scope (compEnvC scope cl C X.env) fp).env.scope.names.lookup n = some .local := lookup_relabel_local (env := X.env) L.loc
  exact pg_name L.nd L.at_ (.inl h) (.inr h)
theorem lc_run {α : Type} {wi : TI} {J : It} {B F1 H1 : Hp} {σ : L2.St} (xs : List α) (q : α → PyData) (bt : α → Bool) (g : α → PyData) (hz : xs.length ≤ 50000)
    (E : En X.K B F1 H1 σ ρ) {Q : VK}
    (hT : ∀ x ∈ xs, Blk X scope fun Y => TsD Y ifs ((ρ.set j .un).set j (.sh (q x))) (bt x)) (hG : ∀ x ∈ xs, bt x = true → Blk X scope fun Y => ED Y noW noX elt ((ρ.set j .un).set j (.sh (q x))) (g x))
    {D : Addr} (hD : H1 D = none)
    (k : ∀ H', Cm X.K F1 H1 D ((xs.filter bt).map g) H' → Q (.ref D) H') :
    ∀ (i : Nat) (x : α) (v : V) (H' : Hp), xs[i]? = some x → Is X.K F1 v (q x) → Cm X.K F1 H1 D (((xs.take i).filter bt).map g) H' →
      (gName j v (wipe σ [j]) H' fun σ2 H2 => wipe σ2 [j] = wipe σ [j] ∧ WTB X scope ifs σ2 H2 fun b H3 => if b = true then WEB X scope elt σ2 H3 fun y H4 => ∃ acc, H4 D = some (.lst acc) ∧ acc.length < sizeLine ∧ Cm X.K F1 H1 D (((xs.take (i + 1)).filter bt).map g) (upd H4 D (.lst (acc ++ [y]))) else Cm X.K F1 H1 D (((xs.take (i + 1)).filter bt).map g) H3) := by
  intro i x v H' hi iv c
  refine ⟨wipe1, ?_⟩
  rw [filt_snoc xs bt g hi]
  have hm : x ∈ xs := List.mem_of_getElem? hi
  refine cm_turn (α := α) (σ := σ) (B := B) (ρ2 := (ρ.set j .un).set j (.sh (q x))) (fun F H Q E2 k2 s H0 C cl fp => ?_) (fun hk F H Q E2 k2 s H0 C cl fp => ?_) (fun F H x1 => ?_) hD ?_ c
  · exact pts_run (hT x hm s H0 C cl fp) E2 k2
  · exact hG x hm hk s H0 C cl fp B F H _ Q E2 xcN k2
  · exact ((E.ext x1).wipe j).set (s := .sh (q x)) (iv.mono x1.f) rfl
  · rw [List.length_map]
    have h1 := List.length_filter_le bt (xs.take i)
    have h2 := List.length_take_le i xs
    have h3 : (xs.take i).length ≤ xs.length := by rw [List.length_take]; exact Nat.min_le_right _ _
    omega
/-- [elt for n in xs if ..] over a list that stands still -/
theorem lc_over {α : Type} (L : LcOk X scope ifs n j iter) (xs : List α) (q : α → PyData) (bt : α → Bool) (g : α → PyData) (h : EP' X W ex iter ρ (xs.map q)) (hz : xs.length ≤ 50000)
    (hT : ∀ x ∈ xs, Blk X scope fun Y => TsD Y ifs ((ρ.set j .un).set j (.sh (q x))) (bt x)) (hG : ∀ x ∈ xs, bt x = true → Blk X scope fun Y => ED Y noW noX elt ((ρ.set j .un).set j (.sh (q x))) (g x))
    {B F H : Hp} {σ : L2.St} (E : En X.K B F H σ ρ) (c : Xc W ex F H σ) {Q : VK} (k : ∀ r vs F' H', Ext F H F' H' → H r = none → F' r = none → H' r = some (.lst vs) → IsAll X.K F' vs ((xs.filter bt).map g) → Q (.ref r) H') :
    tLc (iList X.K (WE X iter)) (gName j) (WTB X scope ifs) (WEB X scope elt) [j] σ H Q := by
  refine h B F H σ _ E c fun r vs F1 H1 x1 hr i1 => ?_
  have E1 := E.ext x1
  have hsq : ∀ H', Ex H1 H' → SqL X.K H' r vs := fun H' y => by
    rcases hr with hr | hr
    · exact (E1.b.trans y).sql hr
    · exact (x1.i.trans y).sql hr
  refine ⟨r, rfl, ⟨vs, hsq H1 (Ex.refl H1)⟩, fun D hD => lc_list (xs := vs) (fun i H' => Cm X.K F1 H1 D (((xs.take i).filter bt).map g) H') ⟨F1, [], Ext.kept x1.i hD, x1.i.back hD, upd_same, .nil⟩ (fun i H' _ ⟨F', acc, y, _⟩ => hsq H' y.h) ?_ ?_⟩
  · intro i v H' hi hc
    obtain ⟨d', hd, id'⟩ := i1.get' hi
    rw [List.getElem?_map] at hd
    cases hx : xs[i]? with
    | none => rw [hx] at hd; cases hd
    | some x =>
      rw [hx] at hd
      cases hd
      exact lc_run (wi := iList X.K (WE X iter)) (J := Itl X.K r) (Q := Q) xs q bt g hz E1 hT hG hD (fun H' ⟨F', acc, y, f0, h0, ia⟩ => k D acc F' H' (x1.trans y) (x1.h.back hD) f0 h0 ia) i x v H' hx id' hc
  · rintro H' ⟨F', acc, y, f0, h0, ia⟩
    rw [i1.len, List.length_map, List.take_length] at ia
    exact k D acc F' H' (x1.trans y) (x1.h.back hD) f0 h0 ia
theorem el_lc {α : Type} (L : LcOk X scope ifs n j iter) (xs : List α) (q : α → PyData) (bt : α → Bool) (g : α → PyData) (h : EP' X W ex iter ρ (xs.map q)) (hz : xs.length ≤ 50000)
    (hT : ∀ x ∈ xs, Blk X scope fun Y => TsD Y ifs ((ρ.set j .un).set j (.sh (q x))) (bt x)) (hG : ∀ x ∈ xs, bt x = true → Blk X scope fun Y => ED Y noW noX elt ((ρ.set j .un).set j (.sh (q x))) (g x)) :
    EL X W ex (.ListComp elt [⟨.Name n tpos, iter, ifs, 0⟩] scope pos) ρ ((xs.filter bt).map g) := fun B F H σ Q E c k =>
  w_e (pe_lc (own := [(n, j)]) L.calm L.nd (pi_list pe_w) L.blk (lc_tgt L) (fun _ _ _ _ _ => pts_wb L.one) (fun _ _ _ _ _ => pe_wb) L.fset) (lc_over L xs q bt g h hz hT hG E c k)
/-- y = [..] -/
theorem sd_lc {α : Type} (L : LcOk X scope ifs n j iter) (hy : X.N[i]? = some y) (hyl : X.env.scope.names.lookup y = some .local) (xs : List α) (q : α → PyData) (bt : α → Bool) (g : α → PyData) (h : EP' X W (fun C => T.ex C ρ) iter ρ (xs.map q)) (hz : xs.length ≤ 50000)
    (hT : ∀ x ∈ xs, Blk X scope fun Y => TsD Y ifs ((ρ.set j .un).set j (.sh (q x))) (bt x)) (hG : ∀ x ∈ xs, bt x = true → Blk X scope fun Y => ED Y noW noX elt ((ρ.set j .un).set j (.sh (q x))) (g x))
    (hsw : swapsWith (.ListComp elt [⟨.Name n tpos, iter, ifs, 0⟩] scope pos) (some (.Name y p)) spos.line X.env = pure true) (k : ∀ r, T.nx (ρ.set i (.ow r ((xs.filter bt).map g)))) :
    SD X W (.Assign [.Name y p] (.ListComp elt [⟨.Name n tpos, iter, ifs, 0⟩] scope pos) spos) ρ T := fun F0 H0 F H σ D s l =>
  w_s (ps_setLc (own := [(n, j)]) L.calm L.nd hy hyl hsw (pi_list pe_w) L.blk (lc_tgt L) (fun _ _ _ _ _ => pts_wb L.one) (fun _ _ _ _ _ => pe_wb) L.fset)
    (lc_over (Q := fun v H' => D.nx (σ.set i (some v)) H') L xs q bt g h hz hT hG s.e (l.xc s) fun r vs F1 H1 x1 h0 f0 h1 i1 => l.nx _ _ F1 H1 (k r) ⟨s.x.trans x1, s.e.own x1 h0 f0 h1 i1⟩)
/-- .. over range(k) -/
theorem el_lcR {k : Int} (L : LcOk X scope ifs n j (.Call (.Name "range" p) [a] [] p2)) (hg : Gl X ("range" : Str)) (hm : X.mg ("range" : Str) = none) (bt : Nat → Bool) (g : Nat → PyData) (h : ED X W ex a ρ (.int k)) (hk : -(2 ^ 62) ≤ k ∧ k ≤ 50000)
    (hT : ∀ x : Nat, x < k.toNat → Blk X scope fun Y => TsD Y ifs ((ρ.set j .un).set j (.sh (.int x))) (bt x)) (hG : ∀ x : Nat, x < k.toNat → bt x = true → Blk X scope fun Y => ED Y noW noX elt ((ρ.set j .un).set j (.sh (.int x))) (g x))
    (hst : starEach [a] X.env = [(false, eval a X.env)] := by rfl) :
    EL X W ex (.ListComp elt [⟨.Name n tpos, .Call (.Name "range" p) [a] [] p2, ifs, 0⟩] scope pos) ρ (((List.range k.toNat).filter bt).map g) := fun B F H σ Q E c kk =>
  w_e (pe_lc (own := [(n, j)]) L.calm L.nd (pi_range1 hg hm (pa_cons pe_w pa_nil hst) hst) L.blk (lc_tgt L) (fun _ _ _ _ _ => pts_wb L.one) (fun _ _ _ _ _ => pe_wb) L.fset) (by
    refine h B F H σ _ E c fun v F1 H1 x1 i1 => ⟨k, by rw [i1.int_eq], hk.1, by omega, fun D hD => ?_⟩
    refine lc_range (lo := 0) (n := k.toNat) (fun i H' => Cm X.K F1 H1 D ((((List.range k.toNat).take i).filter bt).map g) H') ⟨F1, [], Ext.kept x1.i hD, x1.i.back hD, upd_same, .nil⟩ ?_ ?_
    · intro i H' hi hc
      rw [show (0 : Int) + (i : Int) = (i : Int) from Int.zero_add _]
      exact lc_run (wi := iRng1 (WA X [a])) (J := Itr 0 k.toNat) (Q := Q) (List.range k.toNat) (fun x => .int x) bt g (by rw [List.length_range]; omega) (E.ext x1) (fun x hx => hT x (List.mem_range.mp hx)) (fun x hx => hG x (List.mem_range.mp hx)) hD
        (fun H' ⟨F', acc, y, f0, h0, ia⟩ => kk D acc F' H' (x1.trans y) (x1.h.back hD) f0 h0 ia) i i (.int i) H' (by rw [List.getElem?_range hi]) (.int _) hc
    · rintro H' ⟨F', acc, y, f0, h0, ia⟩
      rw [List.take_of_length_le (by rw [List.length_range]; exact Nat.le_refl _)] at ia
      exact kk D acc F' H' (x1.trans y) (x1.h.back hD) f0 h0 ia)
/-- .. over a text's signs -/
theorem el_lcS {z : Str} (L : LcOk X scope ifs n j iter) (bt : Nat → Bool) (g : Nat → PyData) (h : ED X W ex iter ρ (.str z)) (hz : z.length ≤ 50000)
    (hT : ∀ x ∈ z.cps.toList, Blk X scope fun Y => TsD Y ifs ((ρ.set j .un).set j (.sh (.str ⟨#[x]⟩))) (bt x)) (hG : ∀ x ∈ z.cps.toList, bt x = true → Blk X scope fun Y => ED Y noW noX elt ((ρ.set j .un).set j (.sh (.str ⟨#[x]⟩))) (g x)) :
    EL X W ex (.ListComp elt [⟨.Name n tpos, iter, ifs, 0⟩] scope pos) ρ ((z.cps.toList.filter bt).map g) := fun B F H σ Q E c kk =>
  w_e (pe_lc (own := [(n, j)]) L.calm L.nd (pi_str pe_w) L.blk (lc_tgt L) (fun _ _ _ _ _ => pts_wb L.one) (fun _ _ _ _ _ => pe_wb) L.fset) (by
    refine h B F H σ _ E c fun v F1 H1 x1 i1 => ⟨z, i1.str_eq, fun D hD => ?_⟩
    have sz : z.cps.size = z.cps.toList.length := by simp
    refine ⟨fun i m H' => m = z.cps.size - i ∧ Cm X.K F1 H1 D (((z.cps.toList.take i).filter bt).map g) H', ⟨z.cps.size, by omega, F1, [], Ext.kept x1.i hD, x1.i.back hD, upd_same, .nil⟩, ?_⟩
    rintro i m H' ⟨rfl, hc⟩
    by_cases hi : i < z.cps.size
    · refine .inr ⟨hi, fun H2 => Cm X.K F1 H1 D (((z.cps.toList.take (i + 1)).filter bt).map g) H2, fun H2 q => ⟨z.cps.size - (i + 1), by omega, rfl, q⟩, ?_⟩
      rintro x H2 ⟨rfl, cc, hcc, rfl⟩
      have hi2 : z.cps.toList[i]? = some cc := by rw [Array.getElem?_toList]; exact hcc
      exact lc_run (wi := iStr (WE X iter)) (J := Its z) (Q := Q) z.cps.toList (fun x => .str ⟨#[x]⟩) bt g (by rw [← sz]; exact hz) (E.ext x1) hT hG hD
        (fun H' ⟨F', acc, y, f0, h0, ia⟩ => kk D acc F' H' (x1.trans y) (x1.h.back hD) f0 h0 ia) i cc _ H2 hi2 (.str _) hc
    · refine .inl ⟨by show z.cps.size ≤ i; omega, ?_⟩
      obtain ⟨F', acc, y, f0, h0, ia⟩ := hc
      rw [List.take_of_length_le (by rw [← sz]; omega)] at ia
      exact kk D acc F' H' (x1.trans y) (x1.h.back hD) f0 h0 ia)
end
end PD

set_option maxHeartbeats 4000000
namespace PD
open PySem L2 PyProof.Rows

/-! ### defs: what they come to, told by data -/
inductive DOut where
  | val (d : PyData)
  | new (ds : List PyData)
  | exc (C : Addr)
  /-- a thing of one's own: told by its value and places -/
  | own (P : V → List Addr → Hp → Hp → Prop)
def Got (K : PySem.W.Frag) (F H : Hp) (Q : VK) (E : XK) : DOut → Prop
  | .val d => ∀ v F' H', Ext F H F' H' → Is K F' v d → Q v H'
  | .new ds => ∀ p vs F' H', Ext F H F' H' → H p = none → F' p = none → H' p = some (.lst vs) → IsAll K F' vs ds → Q (.ref p) H'
  | .exc C => ∀ F' H', Ext F H F' H' → E (.ref C) none H'
  | .own P => ∀ v fp F' H', Ext F H F' H' → (∀ a ∈ fp, H a = none ∧ F' a = none ∧ H' a ≠ none) → P v fp F' H' → Q v H'
def spD (K : PySem.W.Frag) (n : Nat) (R : List Sl → DOut → Prop) : Sp := fun vs H Q E => ∃ F as o, Ex F H ∧ AgsOk K F H vs as ∧ as.length = n ∧ R as o ∧ Got K F H Q E o
def deOf : DOut → De
  | .val d => { nx := fun _ => d = .none, rt := fun d' => d' = d, rl := fun ds => d = .list ds }
  | .new ds => { nx := fun _ => False, rl := fun ds' => ds' = ds }
  | .exc C => { nx := fun _ => False, ex := fun C' _ => C' = C }
  | .own P => { nx := fun _ => False, ro := P }
/-- a def that can be called by its name -/
structure Cal (P : Program) (w : World) (K : PySem.W.Frag) (mg : Str → Option Value) (base : Heap) (k : Nat) (x : Str) (n : Nat) (R : List Sl → DOut → Prop) : Prop where
  ex : ∃ (f : Addr) (fd : FuncData) (ps : List Str), FnOk P w K mg base (L2N.CX P w) k f fd ps (spD K n R) ∧ mg x = some (.ref f) ∧ PySem.W.keepIn K (.ref f) = true ∧ Binds K fd ps []

theorem lk_of {K : PySem.W.Frag} {F H : Hp} {Q : VK} {E : XK} {N : List Str} : ∀ {o : DOut}, Got K F H Q E o → Lk K (fun c d _ H' => E c d H') F H (deOf o) { nx := fun _ H' => Q .non H', rt := Q }
  | .val d, g => ⟨fun ρ σ F1 H1 q s => by
      have q : d = .none := q
      subst q
      exact g .non F1 H1 s.x .non, fun d' v F1 H1 q x i => by
      have q : d' = d := q
      subst q
      exact g v F1 H1 x i, fun ds p vs F1 H1 q x h0 f0 h1 i => by
      have q : d = .list ds := q
      subst q
      exact g (.ref p) _ H1 (x.told h0 f0 h1) (.lst upd_same (i.mono (Ex.new f0))), fun _ _ _ _ q => q.elim, fun _ _ _ _ q => q.elim, fun _ _ _ _ _ q => q.elim, fun _ _ _ _ q => q.elim⟩
  | .new ds, g => ⟨fun _ _ _ _ q => q.elim, fun _ _ _ _ q => q.elim, fun ds' p vs F1 H1 q x h0 f0 h1 i => by
      have q : ds' = ds := q
      subst q
      exact g p vs F1 H1 x h0 f0 h1 i, fun _ _ _ _ q => q.elim, fun _ _ _ _ q => q.elim, fun _ _ _ _ _ q => q.elim, fun _ _ _ _ q => q.elim⟩
  | .exc C, g => ⟨fun _ _ _ _ q => q.elim, fun _ _ _ _ q => q.elim, fun _ _ _ _ _ q => q.elim, fun _ _ _ _ q => q.elim, fun _ _ _ _ q => q.elim, fun C' ρ σ F1 H1 q s => by
      have q : C' = C := q
      subst q
      exact g F1 H1 s.x, fun _ _ _ _ q => q.elim⟩
  | .own P, g => ⟨fun _ _ _ _ q => q.elim, fun _ _ _ _ q => q.elim, fun _ _ _ _ _ q => q.elim, fun _ _ _ _ q => q.elim, fun _ _ _ _ q => q.elim, fun _ _ _ _ _ q => q.elim, fun v fp F1 H1 q x z => g v fp F1 H1 x z q⟩
theorem ags_sl {K : PySem.W.Frag} {F H : Hp} : ∀ {vs : List V} {as : List Sl}, AgsOk K F H vs as → ∀ (j : Nat) (s : Sl), as[j]? = some s → ∃ v, vs[j]? = some v ∧ SlOk K H F H (some v) s ∧ s.free = true
  | _, _, .nil, j, s, e => by simp at e
  | _ :: _, a :: _, .cons h t, 0, s, e => by
    have e : some a = some s := e
    cases e
    refine ⟨_, rfl, ?_⟩
    cases a with
    | un => exact h.elim
    | sh d => exact ⟨h, rfl⟩
    | bo ds => exact ⟨h, rfl⟩
    | raw w => exact ⟨h, rfl⟩
    | ow l ds => exact h.elim
    | rg fp P => exact h.elim
    | rb P => exact ⟨h, rfl⟩
  | _, _, .cons h t, j + 1, s, e => ags_sl t j s e
theorem paired_len {α β : Type} {R : α → β → Prop} : ∀ {xs : List α} {ys : List β}, Paired R xs ys → xs.length = ys.length
  | _, _, .nil => rfl
  | _, _, .cons _ t => congrArg (· + 1) (paired_len t)
theorem en_start {K : PySem.W.Frag} {F H : Hp} {vs : List V} {as : List Sl} (N : List Str) (i : Ex F H) (h : AgsOk K F H vs as) (hl : as.length ≤ N.length) : En K H F H (L2.start N vs) (as ++ List.replicate (N.length - as.length) .un) := by
  have hv : vs.length = as.length := paired_len h
  refine ⟨i, Ex.refl H, fun j s e => ?_, fun a b l ds es ea eb hx hy => ?_⟩
  · by_cases hj : j < as.length
    · rw [List.getElem?_append_left hj] at e
      obtain ⟨v, e1, h1, _⟩ := ags_sl h j s e
      refine ⟨some v, ?_, h1⟩
      unfold L2.start
      rw [List.getElem?_append_left (by rw [List.length_map, hv]; exact hj), List.getElem?_map, e1]; rfl
    · rw [List.getElem?_append_right (by omega), List.getElem?_replicate] at e
      split at e
      · cases e
        refine ⟨none, ?_, trivial⟩
        unfold L2.start
        rw [List.getElem?_append_right (by rw [List.length_map, hv]; omega), List.length_map, hv, List.getElem?_replicate, if_pos (by assumption)]
      · cases e
  · by_cases hj : a < as.length
    · rw [List.getElem?_append_left hj] at ea
      obtain ⟨_, _, _, f⟩ := ags_sl h a _ ea
      exact (Sl.free_fp f hx).elim
    · rw [List.getElem?_append_right (by omega), List.getElem?_replicate] at ea
      split at ea <;> cases ea
      exact nomatch hx
section
variable {P : Program} {w : World} {K : PySem.W.Frag} {mg : Str → Option Value} {base : Heap}
/-- THE RULE for a def -/
theorem fnD {x qual : Str} {st : Stmt} {f : Addr} {fd : FuncData} {N ps : List Str} {k : Nat} {R : List Sl → DOut → Prop} (F : Fun K x qual st f fd) (S : FnScope N ps (defScope st)) (hl : ps.length ≤ N.length)
    (hbody : ∀ (cdv : Value) (A : Around) (outer : List PySem.Env) (s : Shared) (H : Hp) (E : XK) (as : List Sl) (o : DOut), Room k (A.deeper (envOfC qual (defScope st) s.heap.objs.size f cdv)) → as.length = ps.length → R as o →
      SDs (cxOf (L2N.CX P w) P w K mg base N qual (defScope st) f cdv A outer s H E) (fun c d _ H' => E c d H') (defBody st) (as ++ List.replicate (N.length - as.length) .un) (deOf o)) : FnOk P w K mg base (L2N.CX P w) (k + 1) f fd ps (spD K ps.length R) := by
  obtain ⟨oc, od, kV, doc, pm, an, cdv, ct, osl, rfl, lk, hcd⟩ := F.ex
  refine fn_of lk hcd S (fun vs H Q E ⟨F, as, o, _, h, hn, _⟩ => (paired_len h).trans hn) fun A outer s H vs Q E hr ⟨F0, as, o, i0, h, hn, hR, g⟩ => ?_
  refine ⟨WSs _ (defBody st), pss_w, ?_⟩
  have E0 := en_start N i0 h (by omega)
  exact hbody cdv A outer s H E as o hr hn hR F0 H F0 H (L2.start N vs) _ ⟨Ext.refl i0, E0⟩ (lk_of (N := N) g)
theorem takesN0 {X : Cx} : L2N.Takes X (fun _ _ _ _ => False) := fun u s' ⟨_, _, _, _, _, _, _, _, _, _, _, _, _, _, _, _, w⟩ => w.elim
end
section
variable {X : Cx} {W : WX} {ex : Addr → Prop} {e a b : Expr} {es : List Expr} {ρ as : List Sl} {d : PyData} {ds : List PyData} {pos p : Pos} {k n : Nat} {x : Str} {R : List Sl → DOut → Prop}
theorem call_w (C : Cal X.prog X.w X.K X.mg X.base k x n R) (hr : Room k X.A) (hg : Gl X x) (tk : L2N.Takes X W) (ha : EA X W ex (e :: es) ρ as) (hn : as.length = n) {o : DOut} (hR : R as o)
    (hdb : (x == ("__debug__" : Str)) = false := by decide) (he : starEach (e :: es) X.env = (false, eval e X.env) :: starEach es X.env := by rfl) (hpl : (backTo pos (starEach es X.env)).any (·.1) = false := by rfl)
    {B F H : Hp} {σ : L2.St} {Q : VK} (E : En X.K B F H σ ρ) (c : Xc W ex F H σ) (q : ∀ F1 H1, Ext F H F1 H1 → Got X.K F1 H1 Q (L2.WE W σ) o) : PD.WE X (.Call (.Name x p) (e :: es) [] pos) σ H Q := by
  obtain ⟨f, fd, ps, Fn, hm, hk, hb⟩ := C.ex
  exact w_e (pe_callS Fn hr hg hm hk hb (fun σ => L2N.passAt tk σ) pa_w hdb he hpl) (ha B F H σ _ E c fun vs F1 H1 x1 i1 => ⟨F1, as, o, x1.i, i1, hn, hR, q F1 H1 x1⟩)
/-- f(..), a value -/
theorem ed_call (C : Cal X.prog X.w X.K X.mg X.base k x n R) (hr : Room k X.A) (hg : Gl X x) (tk : L2N.Takes X W) (ha : EA X W ex (e :: es) ρ as) (hn : as.length = n) (hR : R as (.val d))
    (hdb : (x == ("__debug__" : Str)) = false := by decide) (he : starEach (e :: es) X.env = (false, eval e X.env) :: starEach es X.env := by rfl) (hpl : (backTo pos (starEach es X.env)).any (·.1) = false := by rfl) : ED X W ex (.Call (.Name x p) (e :: es) [] pos) ρ d := fun B F H σ Q E c q =>
  call_w C hr hg tk ha hn hR hdb he hpl E c fun F1 H1 x1 v F2 H2 x2 i2 => q v F2 H2 (x1.trans x2) i2
theorem el_call (C : Cal X.prog X.w X.K X.mg X.base k x n R) (hr : Room k X.A) (hg : Gl X x) (tk : L2N.Takes X W) (ha : EA X W ex (e :: es) ρ as) (hn : as.length = n) (hR : R as (.new ds))
    (hdb : (x == ("__debug__" : Str)) = false := by decide) (he : starEach (e :: es) X.env = (false, eval e X.env) :: starEach es X.env := by rfl) (hpl : (backTo pos (starEach es X.env)).any (·.1) = false := by rfl) : EL X W ex (.Call (.Name x p) (e :: es) [] pos) ρ ds := fun B F H σ Q E c q =>
  call_w C hr hg tk ha hn hR hdb he hpl E c fun F1 H1 x1 r vs F2 H2 x2 h0 f0 h1 i1 => q r vs F2 H2 (x1.trans x2) (x1.h.back h0) f0 h1 i1
/-- f(..), raised -/
theorem ed_callX (C : Cal X.prog X.w X.K X.mg X.base k x n R) (hr : Room k X.A) (hg : Gl X x) (tk : L2N.Takes X W) (ha : EA X W ex (e :: es) ρ as) (hn : as.length = n) {D : Addr} (hR : R as (.exc D)) (hD : ex D)
    (hdb : (x == ("__debug__" : Str)) = false := by decide) (he : starEach (e :: es) X.env = (false, eval e X.env) :: starEach es X.env := by rfl) (hpl : (backTo pos (starEach es X.env)).any (·.1) = false := by rfl) : ED X W ex (.Call (.Name x p) (e :: es) [] pos) ρ d := fun B F H σ Q E c q =>
  call_w C hr hg tk ha hn hR hdb he hpl E c fun F1 H1 x1 F2 H2 x2 => c D F2 H2 hD (x1.trans x2)
end
/-! names in a def, in a block -/
section
theorem vis_rel {scope : Scope} {env : PySem.Env} {n : Str} (h : scope.names.lookup n = some .local ∨ scope.names.lookup n = some .cell ∨ scope.names.lookup n = some .free) : Vis (relabel scope env) n := by
  have go : ∀ names : List (Str × NameKind), (names.lookup n = some .local ∨ names.lookup n = some .cell ∨ names.lookup n = some .free) →
      ((names.map fun (n, k) => if (k == NameKind.free && env.scope.kind == .function && env.kindOf n == some .cell) then (n, NameKind.cell) else (n, k)).lookup n = some .local ∨
       (names.map fun (n, k) => if (k == NameKind.free && env.scope.kind == .function && env.kindOf n == some .cell) then (n, NameKind.cell) else (n, k)).lookup n = some .cell ∨
       (names.map fun (n, k) => if (k == NameKind.free && env.scope.kind == .function && env.kindOf n == some .cell) then (n, NameKind.cell) else (n, k)).lookup n = some .free) := by
    intro names
    induction names with
    | nil => intro h; simp at h
    | cons y r ih =>
      obtain ⟨m, k⟩ := y
      intro h
      rw [List.map_cons]
      cases hb : n == m with
      | true =>
        simp only [List.lookup_cons, hb] at h
        dsimp only
        by_cases hc : (k == NameKind.free && env.scope.kind == .function && env.kindOf m == some .cell) = true
        · rw [if_pos hc]; simp only [List.lookup_cons, hb]; exact .inr (.inl trivial)
        · rw [if_neg hc]; simp only [List.lookup_cons, hb]; exact h
      | false =>
        simp only [List.lookup_cons, hb] at h
        dsimp only
        by_cases hc : (k == NameKind.free && env.scope.kind == .function && env.kindOf m == some .cell) = true
        · rw [if_pos hc]; simp only [List.lookup_cons, hb]; exact ih h
        · rw [if_neg hc]; simp only [List.lookup_cons, hb]; exact ih h
  exact go scope.names h
theorem gl_rel {scope : Scope} {env : PySem.Env} {n : Str} (h : scope.names.lookup n = some .globalImplicit) : (relabel scope env).names.lookup n = some .globalImplicit := by
  have go : ∀ names : List (Str × NameKind), names.lookup n = some .globalImplicit →
      (names.map fun (n, k) => if (k == NameKind.free && env.scope.kind == .function && env.kindOf n == some .cell) then (n, NameKind.cell) else (n, k)).lookup n = some .globalImplicit := by
    intro names
    induction names with
    | nil => intro h; simp at h
    | cons y r ih =>
      obtain ⟨m, k⟩ := y
      intro h
      rw [List.map_cons]
      cases hb : n == m with
      | true =>
        simp only [List.lookup_cons, hb] at h
        cases h
        dsimp only
        rw [if_neg (show ¬ ((NameKind.globalImplicit == NameKind.free && env.scope.kind == .function && env.kindOf m == some .cell) = true) from by simp)]
        simp only [List.lookup_cons, hb]
      | false =>
        simp only [List.lookup_cons, hb] at h
        dsimp only
        by_cases hc : (k == NameKind.free && env.scope.kind == .function && env.kindOf m == some .cell) = true
        · rw [if_pos hc]; simp only [List.lookup_cons, hb]; exact ih h
        · rw [if_neg hc]; simp only [List.lookup_cons, hb]; exact ih h
  exact go scope.names h
/-- names of a def, checked at once -/
def locB (sc : Scope) (n : Str) : Bool := sc.names.lookup n == some .local || sc.names.lookup n == some .cell
def glB (sc : Scope) (n : Str) : Bool := sc.names.lookup n == some .globalImplicit
theorem loc_of {sc : Scope} {ns : List Str} (h : ns.all (locB sc) = true) {n : Str} (i : Nat) (hn : ns[i]? = some n := by rfl) : Loc sc n := by
  have := List.all_eq_true.mp h n (List.mem_of_getElem? hn)
  unfold locB at this
  rw [Bool.or_eq_true] at this
  rcases this with q | q
  · exact .inl (eq_of_beq q)
  · exact .inr (eq_of_beq q)
theorem vis_of {sc : Scope} {n : Str} (h : Loc sc n) : Vis sc n := by
  rcases h with q | q
  · exact .inl q
  · exact .inr (.inl q)
theorem gl_of {sc : Scope} {ns : List Str} (h : ns.all (glB sc) = true) {n : Str} (i : Nat) (hn : ns[i]? = some n := by rfl) : sc.names.lookup n = some .globalImplicit :=
  eq_of_beq (List.all_eq_true.mp h n (List.mem_of_getElem? hn))
end
end PD

set_option maxHeartbeats 4000000
namespace PD
open PySem L2 PyProof.Rows
/-! comparisons, as values and as tests -/
structure Cd (X : Cx) (op : CmpOp) (x y : PyData) (k : Bool) : Prop where
  ex : ∃ r, OpR X (compareOp op) r ∧ R2D X.K r x y (.bool k)
section
variable {X : Cx} {W : WX} {ex : Addr → Prop} {e a b c : Expr} {ρ : List Sl} {x y z : PyData} {pos : Pos} {op op' : CmpOp} {k l : Bool}
theorem cd_lt {i j : Int} : Cd X .Lt (.int i) (.int j) (decide (i < j)) := ⟨_, op_lt, r2_B (g := fun i j => decide (i < j))⟩
theorem cd_le {i j : Int} : Cd X .LtE (.int i) (.int j) (decide (i ≤ j)) := ⟨_, op_le, r2_B (g := fun i j => decide (i ≤ j))⟩
theorem cd_gt {i j : Int} : Cd X .Gt (.int i) (.int j) (decide (j < i)) := ⟨_, op_gt, r2_B (g := fun i j => decide (j < i))⟩
theorem cd_ge {i j : Int} : Cd X .GtE (.int i) (.int j) (decide (j ≤ i)) := ⟨_, op_ge, r2_B (g := fun i j => decide (j ≤ i))⟩
theorem cd_eqI {i j : Int} : Cd X .Eq (.int i) (.int j) (decide (i = j)) := ⟨_, op_eq, r2_eqI⟩
theorem cd_neI {i j : Int} : Cd X .NotEq (.int i) (.int j) (!decide (i = j)) := ⟨_, op_ne, r2_neI⟩
theorem cd_eqS {i j : Str} : Cd X .Eq (.str i) (.str j) (decide (i = j)) := ⟨_, op_eq, r2_eqS⟩
theorem cd_neS {i j : Str} : Cd X .NotEq (.str i) (.str j) (!decide (i = j)) := ⟨_, op_ne, r2_neS⟩
theorem r2_eqB {K : PySem.W.Frag} {i j : Bool} : R2D K rEq (.bool i) (.bool j) (.bool (decide (i = j))) := fun v u F H Q i0 hv hu q => by
  rw [hv.bl_eq, hu.bl_eq]
  refine ⟨rfl, ?_⟩
  rw [show decide (V.bl i = V.bl j) = decide (i = j) from by simp]
  exact q _ F H (Ext.refl i0) (.bl _)
theorem r2_neB {K : PySem.W.Frag} {i j : Bool} : R2D K rNe (.bool i) (.bool j) (.bool (!decide (i = j))) := fun v u F H Q i0 hv hu q => by
  rw [hv.bl_eq, hu.bl_eq]
  refine ⟨rfl, ?_⟩
  rw [show decide (V.bl i = V.bl j) = decide (i = j) from by simp]
  exact q _ F H (Ext.refl i0) (.bl _)
theorem cd_eqB {i j : Bool} : Cd X .Eq (.bool i) (.bool j) (decide (i = j)) := ⟨_, op_eq, r2_eqB⟩
theorem cd_neB {i j : Bool} : Cd X .NotEq (.bool i) (.bool j) (!decide (i = j)) := ⟨_, op_ne, r2_neB⟩
theorem cd_ltS {i j : Str} : Cd X .Lt (.str i) (.str j) (decide (i.cps.toList < j.cps.toList)) := ⟨_, op_lt_str, fun v u F H Q i0 hv hu q => ⟨i, j, hv.str_eq, hu.str_eq, q _ F H (Ext.refl i0) (.bl _)⟩⟩
theorem cd_gtS {i j : Str} : Cd X .Gt (.str i) (.str j) (decide (j.cps.toList < i.cps.toList)) := ⟨_, op_gt_str, fun v u F H Q i0 hv hu q => ⟨i, j, hv.str_eq, hu.str_eq, q _ F H (Ext.refl i0) (.bl _)⟩⟩
theorem cd_leS {i j : Str} : Cd X .LtE (.str i) (.str j) (!decide (j.cps.toList < i.cps.toList)) := ⟨_, op_le_str, fun v u F H Q i0 hv hu q => ⟨i, j, hv.str_eq, hu.str_eq, q _ F H (Ext.refl i0) (.bl _)⟩⟩
theorem cd_geS {i j : Str} : Cd X .GtE (.str i) (.str j) (!decide (i.cps.toList < j.cps.toList)) := ⟨_, op_ge_str, fun v u F H Q i0 hv hu q => ⟨i, j, hv.str_eq, hu.str_eq, q _ F H (Ext.refl i0) (.bl _)⟩⟩
theorem cd_eqD (hu : X.A.units + 64 < cLine) (hx : SeqAt.shaped x = true) (hy : SeqAt.shaped y = true) : Cd X .Eq x y (PyData.eqv x y) := ⟨_, op_eqD hu, fun v u F H Q i0 hv hu q => ⟨x, y, (hv.mono i0).dp, (hu.mono i0).dp, hx, hy, q _ F H (Ext.refl i0) (.bl _)⟩⟩
theorem cd_neD (hu : X.A.units + 64 < cLine) (hx : SeqAt.shaped x = true) (hy : SeqAt.shaped y = true) : Cd X .NotEq x y (!PyData.eqv x y) := ⟨_, op_neD hu, fun v u F H Q i0 hv hu q => ⟨x, y, (hv.mono i0).dp, (hu.mono i0).dp, hx, hy, q _ F H (Ext.refl i0) (.bl _)⟩⟩
theorem cd_inC {m : Nat} {w : Str} : Cd X .In (.str ⟨#[m]⟩) (.str w) (decide (m ∈ w.cps.toList)) := ⟨_, op_in_sign, fun v u F H Q i0 hv hu q => ⟨m, w, hv.str_eq, hu.str_eq, q _ F H (Ext.refl i0) (.bl _)⟩⟩
theorem cd_niC {m : Nat} {w : Str} : Cd X .NotIn (.str ⟨#[m]⟩) (.str w) (!decide (m ∈ w.cps.toList)) := ⟨_, op_notIn_sign, fun v u F H Q i0 hv hu q => ⟨m, w, hv.str_eq, hu.str_eq, q _ F H (Ext.refl i0) (.bl _)⟩⟩
theorem cd_isN : Cd X .Is x .none (isNone x) := ⟨_, op_isN, fun v u F H Q i0 hv hu q => ⟨hu.non_eq, by
    have e : decide (v = V.non) = isNone x := by cases hv <;> rfl
    rw [e]; exact q _ F H (Ext.refl i0) (.bl _)⟩⟩
theorem cd_notN : Cd X .IsNot x .none (!isNone x) := ⟨_, op_notN, fun v u F H Q i0 hv hu q => ⟨hu.non_eq, by
    have e : (!decide (v = V.non)) = (!isNone x) := by cases hv <;> rfl
    rw [e]; exact q _ F H (Ext.refl i0) (.bl _)⟩⟩
theorem cd_inT {i : Str} {zs : List Str} : Cd X .In (.str i) (.tuple (zs.map .str)) (decide (i ∈ zs)) := ⟨_, op_in_seq, fun v u F H Q i0 hv hu q => by
    rw [hv.str_eq]
    cases hu with
    | tup hs a =>
    rw [a.strs_eq] at hs
    refine ⟨_, _, rfl, .inr (i0.sqt hs), rfl, flat_strs zs, ?_⟩
    rw [if_neg Bool.false_ne_true, inV_strs]
    exact q _ F H (Ext.refl i0) (.bl _)⟩
theorem cd_niT {i : Str} {zs : List Str} : Cd X .NotIn (.str i) (.tuple (zs.map .str)) (!decide (i ∈ zs)) := ⟨_, op_notIn_seq, fun v u F H Q i0 hv hu q => by
    rw [hv.str_eq]
    cases hu with
    | tup hs a =>
    rw [a.strs_eq] at hs
    refine ⟨_, _, rfl, .inr (i0.sqt hs), rfl, flat_strs zs, ?_⟩
    rw [if_pos rfl, inV_strs]
    exact q _ F H (Ext.refl i0) (.bl _)⟩
theorem ed_c (h : Cd X op x y k) (ha : ED X W ex a ρ x) (hb : ED X W ex b ρ y) (hm : behindInMarks op b = false := by rfl) : ED X W ex (.Compare a [op] [b] pos) ρ (.bool k) := by
  obtain ⟨r, ho, hr⟩ := h.ex
  exact ed_cmp ho ha hb hm hr
theorem et_c (h : Cd X op x y k) (ha : ED X W ex a ρ x) (hb : ED X W ex b ρ y) (hm : behindInMarks op b = false := by rfl) : ET X W ex (.Compare a [op] [b] pos) ρ k := by
  obtain ⟨r, ho, hr⟩ := h.ex
  exact fun B F H σ Q E c q => w_t (pt_cmpR ho pe_w pe_w hm) (ha B F H σ _ E c fun v F1 H1 x1 i1 => hb B F1 H1 σ _ (E.ext x1) (c.ext x1) fun u F2 H2 x2 i2 => hr v u F2 H2 _ x2.i (i1.mono x2.f) i2 fun t F3 H3 x3 i3 => ⟨k, i3.bl_eq, q F3 H3 ((x1.trans x2).trans x3)⟩)
theorem et_inL {i : Str} {zs : List Str} (ha : ED X W ex a ρ (.str i)) (hb : EB X W ex b ρ (zs.map .str)) (hm : behindInMarks .In b = false := by rfl) : ET X W ex (.Compare a [.In] [b] pos) ρ (decide (i ∈ zs)) := fun B F H σ Q E c q =>
  w_t (pt_cmpR op_in_seq pe_w pe_w hm) (ha B F H σ _ E c fun v F1 H1 x1 i1 => hb B F1 H1 σ _ (E.ext x1) (c.ext x1) fun p vs F2 H2 x2 hs i2 => by
    rw [i1.str_eq]
    rw [i2.strs_eq] at hs
    refine ⟨p, _, rfl, .inl hs, rfl, flat_strs zs, ?_⟩
    rw [if_neg Bool.false_ne_true, inV_strs]
    exact ⟨_, rfl, q F2 H2 (x1.trans x2)⟩)
theorem et_niL {i : Str} {zs : List Str} (ha : ED X W ex a ρ (.str i)) (hb : EB X W ex b ρ (zs.map .str)) (hm : behindInMarks .NotIn b = false := by rfl) : ET X W ex (.Compare a [.NotIn] [b] pos) ρ (!decide (i ∈ zs)) := fun B F H σ Q E c q =>
  w_t (pt_cmpR op_notIn_seq pe_w pe_w hm) (ha B F H σ _ E c fun v F1 H1 x1 i1 => hb B F1 H1 σ _ (E.ext x1) (c.ext x1) fun p vs F2 H2 x2 hs i2 => by
    rw [i1.str_eq]
    rw [i2.strs_eq] at hs
    refine ⟨p, _, rfl, .inl hs, rfl, flat_strs zs, ?_⟩
    rw [if_pos rfl, inV_strs]
    exact ⟨_, rfl, q F2 H2 (x1.trans x2)⟩)
theorem ed_ch (h1 : Cd X op x y k) (h2 : Cd X op' y z l) (ha : ED X W ex a ρ x) (hb : ED X W ex b ρ y) (hc : ED X W ex c ρ z) (hm : lastMarks [op, op'] [b, c] = false := by rfl) : ED X W ex (.Compare a [op, op'] [b, c] pos) ρ (.bool (k && l)) := by
  obtain ⟨r, ho, hr⟩ := h1.ex
  obtain ⟨r', ho', hr'⟩ := h2.ex
  exact ed_chain ho ho' ha hb hc hr hr' hm
theorem et_ch (h1 : Cd X op x y k) (h2 : Cd X op' y z l) (ha : ED X W ex a ρ x) (hb : ED X W ex b ρ y) (hc : ED X W ex c ρ z) (hm : lastMarks [op, op'] [b, c] = false := by rfl) : ET X W ex (.Compare a [op, op'] [b, c] pos) ρ (k && l) := by
  obtain ⟨r, ho, hr⟩ := h1.ex
  obtain ⟨r', ho', hr'⟩ := h2.ex
  refine fun B F H σ Q E g q => w_t (pt_chain ho ho' pe_w pe_w pe_w hm) (ha B F H σ _ E g fun v F1 H1 x1 i1 => hb B F1 H1 σ _ (E.ext x1) (g.ext x1) fun u F2 H2 x2 i2 => hr v u F2 H2 _ x2.i (i1.mono x2.f) i2 fun t F3 H3 x3 i3 => ⟨k, i3.bl_eq, ?_⟩)
  have x13 := (x1.trans x2).trans x3
  cases k with
  | false => exact iteF ⟨_, rfl, q F3 H3 x13⟩
  | true => exact iteT (hc B F3 H3 σ _ (E.ext x13) (g.ext x13) fun t4 F4 H4 x4 i4 => hr' u t4 F4 H4 _ x4.i ((i2.mono x3.f).mono x4.f) i4 fun t5 F5 H5 x5 i5 => ⟨l, i5.bl_eq, q F5 H5 ((x13.trans x4).trans x5)⟩)
end
end PD

set_option maxHeartbeats 4000000
namespace PD
theorem le_b {a b : Nat} (h : Nat.ble a b = true := by rfl) : a ≤ b := Nat.le_of_ble_eq_true h
open PySem L2 PyProof.Rows
section
variable {X : Cx} {W : WX} {ex : Addr → Prop} {e a b c : Expr} {ρ ρ' : List Sl} {d x y z : PyData} {ds : List PyData} {pos : Pos} {n : Str} {sc : Scope} {ns : List Str} {l : Addr} {st : Stmt} {sts : List Stmt} {T : De}
/-! a def's own names -/
theorem ed_v (lo : ns.all (locB sc) = true) (i : Nat) (hN : X.N[i]? = some n := by rfl) (hn : ns[i]? = some n := by rfl) (hs : ρ[i]? = some (.sh d) := by rfl) (hsc : X.env.scope = sc := by rfl) (hd : (n == ("__debug__" : Str)) = false := by decide) (hcd : (n == ("__classdict__" : Str)) = false := by decide) : ED X W ex (.Name n pos) ρ d :=
  ed_at hN (by rw [hsc]; exact vis_of (loc_of lo i hn)) hs hd hcd
theorem ep_v (lo : ns.all (locB sc) = true) (i : Nat) (hN : X.N[i]? = some n := by rfl) (hn : ns[i]? = some n := by rfl) (hs : ρ[i]? = some (.bo ds) := by rfl) (hsc : X.env.scope = sc := by rfl) (hd : (n == ("__debug__" : Str)) = false := by decide) (hcd : (n == ("__classdict__" : Str)) = false := by decide) : EP' X W ex (.Name n pos) ρ ds :=
  eb_bo hN (by rw [hsc]; exact vis_of (loc_of lo i hn)) hs hd hcd
theorem eb_v (lo : ns.all (locB sc) = true) (i : Nat) (hN : X.N[i]? = some n := by rfl) (hn : ns[i]? = some n := by rfl) (hs : ρ[i]? = some (.ow l ds) := by rfl) (hsc : X.env.scope = sc := by rfl) (hd : (n == ("__debug__" : Str)) = false := by decide) (hcd : (n == ("__classdict__" : Str)) = false := by decide) : EB X W ex (.Name n pos) ρ ds :=
  eb_ow hN (by rw [hsc]; exact vis_of (loc_of lo i hn)) hs hd hcd
theorem eraw_v {es : List Expr} {as : List Sl} {w : V} (lo : ns.all (locB sc) = true) (i : Nat) (r : EA X W ex es ρ as) (hN : X.N[i]? = some n := by rfl) (hn : ns[i]? = some n := by rfl) (hs : ρ[i]? = some (.raw w) := by rfl) (hsc : X.env.scope = sc := by rfl) (h1 : starEach (.Name n pos :: es) X.env = (false, eval (.Name n pos) X.env) :: starEach es X.env := by rfl) (hd : (n == ("__debug__" : Str)) = false := by decide) (hcd : (n == ("__classdict__" : Str)) = false := by decide) : EA X W ex (.Name n pos :: es) ρ (.raw w :: as) :=
  ea_raw hN (by rw [hsc]; exact vis_of (loc_of lo i hn)) hs r h1 hd hcd
end
section
variable {X : Cx} {W : WX} {ex : Addr → Prop} {ρ : List Sl} {d : PyData} {ds : List PyData} {pos : Pos} {n : Str} {l : Addr} {s : Shared} {H : Hp} {scope : Scope} {C : Addr} {cl : List (Str × Addr)} {fp : List Addr}
/-! names in a block -/
theorem ed_b (i : Nat) (hN : X.N[i]? = some n := by rfl) (hv : scope.names.lookup n = some .local ∨ scope.names.lookup n = some .cell ∨ scope.names.lookup n = some .free := by first | exact .inl rfl | exact .inr (.inr rfl) | exact .inr (.inl rfl)) (hs : ρ[i]? = some (.sh d) := by rfl)
    (hd : (n == ("__debug__" : Str)) = false := by decide) (hcd : (n == ("__classdict__" : Str)) = false := by decide) : ED (X.blk s H scope (compEnvC scope cl C X.env) fp) W ex (.Name n pos) ρ d := ed_at hN (vis_rel (env := X.env) hv) hs hd hcd
theorem ep_b (i : Nat) (hN : X.N[i]? = some n := by rfl) (hv : scope.names.lookup n = some .local ∨ scope.names.lookup n = some .cell ∨ scope.names.lookup n = some .free := by first | exact .inl rfl | exact .inr (.inr rfl) | exact .inr (.inl rfl)) (hs : ρ[i]? = some (.bo ds) := by rfl)
    (hd : (n == ("__debug__" : Str)) = false := by decide) (hcd : (n == ("__classdict__" : Str)) = false := by decide) : EP' (X.blk s H scope (compEnvC scope cl C X.env) fp) W ex (.Name n pos) ρ ds := eb_bo hN (vis_rel (env := X.env) hv) hs hd hcd
theorem eb_b (i : Nat) (hN : X.N[i]? = some n := by rfl) (hv : scope.names.lookup n = some .local ∨ scope.names.lookup n = some .cell ∨ scope.names.lookup n = some .free := by first | exact .inl rfl | exact .inr (.inr rfl) | exact .inr (.inl rfl)) (hs : ρ[i]? = some (.ow l ds) := by rfl)
    (hd : (n == ("__debug__" : Str)) = false := by decide) (hcd : (n == ("__classdict__" : Str)) = false := by decide) : EB (X.blk s H scope (compEnvC scope cl C X.env) fp) W ex (.Name n pos) ρ ds := eb_ow hN (vis_rel (env := X.env) hv) hs hd hcd
theorem gl_b (h : scope.names.lookup n = some .globalImplicit := by rfl) : Gl (X.blk s H scope (compEnvC scope cl C X.env) fp) n := gl_rel (env := X.env) h
end
section
variable {X : Cx} {W : WX} {ex : Addr → Prop} {e a b c : Expr} {ρ ρ' : List Sl} {d x y z : PyData} {ds : List PyData} {pos p : Pos} {n : Str} {sc : Scope} {ns : List Str} {l : Addr} {st : Stmt} {sts ths : List Stmt} {T : De}
theorem ed_neg {i : Int} (h : ED X W ex a ρ (.int i)) : ED X W ex (.UnaryOp .USub a pos) ρ (.int (-i)) := fun B F H σ Q E c q => w_e (pe_un un_neg pe_w) (h B F H σ _ E c fun v F1 H1 x1 i1 => ⟨i, i1.int_eq, q _ F1 H1 x1 (.int _)⟩)
/-- a slot may be forgotten -/
def SlLe (ρ ρ' : List Sl) : Prop := ρ'.length ≤ ρ.length ∧ ∀ (j : Nat) (s : Sl), ρ'[j]? = some s → s = .un ∨ ρ[j]? = some s
theorem SlLe.refl (ρ : List Sl) : SlLe ρ ρ := ⟨Nat.le_refl _, fun j s h => .inr h⟩
theorem SlLe.nil : SlLe [] [] := SlLe.refl _
theorem SlLe.cons {s : Sl} {ρ ρ' : List Sl} (h : SlLe ρ ρ') : SlLe (s :: ρ) (s :: ρ') := ⟨Nat.succ_le_succ h.1, fun j t e => by
  cases j with
  | zero => exact .inr e
  | succ j => exact h.2 j t e⟩
theorem SlLe.forget {s : Sl} {ρ ρ' : List Sl} (h : SlLe ρ ρ') : SlLe (s :: ρ) (.un :: ρ') := ⟨Nat.succ_le_succ h.1, fun j t e => by
  cases j with
  | zero => exact .inl (Option.some.inj e).symm
  | succ j => exact h.2 j t e⟩
theorem En.le {K : PySem.W.Frag} {B F H : Hp} {σ : L2.St} (E : En K B F H σ ρ) (h : SlLe ρ ρ') : En K B F H σ ρ' := by
  refine ⟨E.i, E.b, fun j s e => ?_, fun i j s t a ei ej ha hb => ?_⟩
  · have hj : j < ρ.length := Nat.lt_of_lt_of_le (List.getElem?_eq_some_iff.mp e).1 h.1
    rcases h.2 j s e with rfl | q
    · obtain ⟨o, e1, _⟩ := E.s j _ (List.getElem?_eq_getElem hj)
      exact ⟨o, e1, by cases o <;> trivial⟩
    · exact E.s j s q
  · rcases h.2 i _ ei with rfl | qi
    · exact nomatch ha
    · rcases h.2 j _ ej with rfl | qj
      · exact nomatch hb
      · exact E.d i j s t a qi qj ha hb
/-- a statement, then the rest from slots that are said -/
theorem sds_cut (ρ' : List Sl) (h : SD X W st ρ { T with nx := fun ρ2 => SlLe ρ2 ρ' }) (k : SDs X W sts ρ' T) : SDs X W (st :: sts) ρ T := fun F0 H0 F H σ D s l =>
  w_ss (pss_cons ps_w pss_w) (h F0 H0 F H σ _ s (l.nxt fun ρ2 σ2 F2 H2 q s2 => k F0 H0 F2 H2 σ2 D ⟨s2.x, s2.e.le q⟩ l))
theorem sds_le (q : SlLe ρ ρ') (k : SDs X W sts ρ' T) : SDs X W sts ρ T := fun F0 H0 F H σ D s l => k F0 H0 F H σ D ⟨s.x, s.e.le q⟩ l
/-- if c: x = e -/
theorem sd_ifset {i : Nat} {k : Bool} {d0 : PyData} (nd : X.N.Nodup) (hN : X.N[i]? = some n) (hl : Loc X.env.scope n) (hfn : X.fn n = true ∨ X.env.scope.names.lookup n = some .local) {spos : Pos}
    (h : ET X W (fun C => T.ex C ρ) c ρ k) (h0 : ρ[i]? = some (.sh d0)) (h1 : k = true → ED X W (fun C => T.ex C ρ) e ρ d) (q : T.nx (ρ.set i (.sh (if k = true then d else d0)))) (hw : swapsWith e (some (.Name n p)) spos.line X.env = pure false := by rfl) : SD X W (.If c [.Assign [.Name n p] e spos] [] pos) ρ T := by
  refine sd_if h (fun hk => ?_) (fun hk => sds_nil ?_)
  · subst hk
    exact sds_one (sd_set nd hN hl hfn (h1 rfl) q hw)
  · subst hk
    have e : ρ.set i (.sh (if false = true then d else d0)) = ρ := by
      rw [if_neg Bool.false_ne_true]
      obtain ⟨hi, he⟩ := List.getElem?_eq_some_iff.mp h0
      rw [← he]
      exact List.set_getElem_self hi
    rw [e] at q
    exact q
end
end PD

set_option maxHeartbeats 4000000
/-! while an exception is handled: a list's end, a comprehension over a list of truths -/
namespace PD
open PySem PySem.Spec PyProof.Rows L2
section
variable {prog : Program} {w : World} {A : Around} {E : Value → Shared → Prop} {s : Shared}
theorem hot_listEnd {it l x1 : Addr} {i : Nat} {items : Array Value} {Q : Option Value → Shared → Prop} (hot : HotX.HotAt A x1 s.heap) (hit : s.heap.IsListIter it l i) (hl : s.heap.IsList l items) (hx : items[i]? = none) (hne : x1 ≠ it)
    (hQ : ∀ h', Heap.ExtBut it s.heap h' → Q none { s with heap := h' }) : wpAny (model prog w) A (pyNext (.ref it)) Q E s := by
  obtain ⟨o, ho, hc, hd⟩ := id hit
  obtain ⟨ol, hol, hcl, nl, hdl⟩ := hl
  obtain ⟨hh, o1, vs1, h1, d1, c1⟩ := hot
  unfold pyNext
  refine wpAny_bind (wpAny_attempt (wpAny_callSpecial?_slot (name := Str.ofString "__next__") hit.typeIs slot_listiter_next (wpAny_call_entry slot_listiter_next hit.typeIs entry_listiter_next ?_ (args_listiter_next _))))
  show wpAny _ _ (field (.ref it) 0 >>= _) _ _ s
  refine wpAny_bind (wpAny_field ho hd (x := .ref l) rfl ?_)
  show wpAny _ _ (if (Value.ref l == Value.none) = true then _ else _) _ _ s
  rw [if_neg (show ¬ ((Value.ref l == Value.none) = true) from Bool.false_ne_true)]
  show wpAny _ _ (field (.ref it) 1 >>= _) _ _ s
  refine wpAny_bind (wpAny_field ho hd (x := .int i 0) rfl ?_)
  show wpAny _ _ (seqItems? (.ref l) >>= _) _ _ s
  refine wpAny_bind (wpAny_seqItems hol hdl ?_)
  simp only [Int.toNat_natCast, hx]
  refine wpAny_bind (wpAny_rule (wpAny_bind (wpAny_setField ho hd (by simp) ?_)))
  show wpAny _ _ (newExc (.type "StopIteration") [] >>= _) _ _ _
  refine wpAny_bind ?_
  simp only [newExc, newTuple]
  refine wpAny_bind (wpAny_newObj_type ?_ (by size_fits))
  refine wpAny_bind (m := firstArgMember _ _) (wpAny_of_eq (a := Value.none) (by first | rfl | (simp only [firstArgMember]; rfl)) ?_)
  refine wpAny_newObj_type ?_ (by size_fits)
  have keep : (s.heap.update it (Obj.mapFields (·.setIfInBounds 0 Value.none))).get? x1 = some o1 := (Heap.get?_update_other _ _ (Ne.symm hne)).trans h1
  have k2 := Heap.get?_push_of_some { cls := .type "tuple", data := .seq ([] : List Value).toArray } keep
  refine HotX.raiseNew_hot (x1 := x1) ⟨hh, o1, vs1, Heap.get?_push_of_some _ k2, d1, c1⟩ (Nat.ne_of_lt (Heap.lt_size k2)) (Heap.get?_push_size _ rfl) rfl (by first | (simp; done) | (simp; omega)) ?_
  refine wpAny_bind (wpAny_isInstance (T := "StopIteration") (b := true) ⟨_, Heap.get?_update_self _ (Heap.get?_push_size _ rfl) rfl, rfl⟩ isSubtype_stop ?_)
  refine wpAny_pure (hQ _ fun b u hb e => ?_)
  have e1 : (s.heap.update it (Obj.mapFields (·.setIfInBounds 0 Value.none))).get? b = some u := (Heap.get?_update_other _ _ (Ne.symm hb)).trans e
  have e2 := Heap.get?_push_of_some { cls := .type "tuple", data := .seq ([] : List Value).toArray } e1
  rw [Heap.get?_update_other _ _ (Nat.ne_of_gt (Heap.lt_size e2))]
  exact Heap.get?_push_of_some _ e2
theorem hot_walks (x1 I ax : Addr) (hne : ax ≠ I) (hx : x1 ≠ I) (items : Array Value) :
    Walks prog w A I [I, ax, x1] [I] items.size (fun i v => items[i]? = some v) (fun i h => h.IsListIter I ax i ∧ h.IsList ax items ∧ HotX.HotAt A x1 h) where
  sub := fun b hb => by simp at hb; simp [hb]
  frame := fun i h h' st hk => ⟨st.1.at fun o e => hk I (by simp) o e, st.2.1.at fun o e => hk ax (by simp) o e, by
    obtain ⟨hh, o, vs, e, d, c⟩ := st.2.2
    exact ⟨hh, o, vs, hk x1 (by simp) o e, d, c⟩⟩
  item := fun i s Q E hi st hQ => by
    refine wpAny_pyNext_list_item st.1 st.2.1 (x := items[i]) (by simp [hi]) fun h' hit' hs' => ?_
    refine hQ _ h' s.toks (by simp [hi]) ⟨hit', st.2.1.extBut hs'.extBut hne, ?_⟩ fun b o hb e => hs'.extBut b o (fun h => hb (by simp [h])) e
    obtain ⟨hh, o, vs, e, d, c⟩ := st.2.2
    exact ⟨hh, o, vs, hs'.extBut x1 o hx e, d, c⟩
  done := fun s Q E st hQ => hot_listEnd st.2.2 st.1 st.2.1 (by simp) hx fun h' he' => hQ h' s.toks fun b o hb e => he' b o (fun h => hb (by simp [h])) e
  self := fun _ _ _ _ st hQ => wpAny_pyIter_listiter st.1 hQ
end
section
variable {X : Cx} {pins : List (Addr × Obj)} {σ : L2.St} {H : Hp} {s : Shared}
theorem inv_laid0 {D : Addr} {o : HO} {t' : Nat} {h' : Heap} (I : Inv X pins σ H s) (k : ∀ b u, s.heap.get? b = some u → h'.get? b = some u) (hD : s.heap.get? D = none) (new : ObjOk X.prog X.w (upd H D o) h' D o) : Inv X pins σ (upd H D o) { s with heap := h', toks := t' } := by
  have hn : H D = none := I.hok.gone hD
  have hb : ∀ b u, s.heap.get? b = some u → b ≠ D := fun b u e z => by rw [z, hD] at e; cases e
  refine I.un ⟨fun b u e _ _ _ => k b u e, fun b u e _ _ _ => ⟨u.slots, k b u e⟩, fun b u e n _ => by rw [upd_ne (hb b u e)]; exact n, fun b u e _ => ⟨u, k b u e⟩, fun b xs e => by rw [upd_ne (ne_of_none e hn)]; exact e,
    fun b u xs e => by rw [upd_ne (ne_of_none e hn)]; exact e, fun b ps e => ⟨#[], by rw [upd_ne (ne_of_none e hn), e]; simp⟩⟩ fun b u e => ?_
  by_cases q : b = D
  · subst q; rw [upd_same] at e; cases e; exact new
  · rw [upd_ne q] at e
    exact (I.hok b u e).stay (fun c v _ z => k c v z) (fun c z => by rw [upd_ne (ne_of_none z hn)]; exact z) fun c xs z => by rw [upd_ne (ne_of_none z hn)]; exact z
end
def isT : Value → Bool
  | .bool b => b
  | _ => false
theorem vals_bl : ∀ {bs : List Bool} {us : List Value}, Vals (bs.map V.bl) us → us = bs.map Value.bool
  | [], _, h => by cases h; rfl
  | b :: bs, _, h => by
    cases h with
    | cons r t => cases r; rw [vals_bl t]; rfl
theorem filt_isT : ∀ bs : List Bool, (bs.map Value.bool).filter isT = (bs.filter id).map Value.bool
  | [] => rfl
  | true :: bs => by rw [List.map_cons, List.filter_cons, if_pos (show isT (.bool true) = true from rfl), filt_isT bs]; rfl
  | false :: bs => by rw [List.map_cons, List.filter_cons, if_neg (show ¬ isT (.bool false) = true from Bool.false_ne_true), filt_isT bs]; rfl
theorem vals_of_bl : ∀ bs : List Bool, Vals (bs.map V.bl) (bs.map Value.bool)
  | [] => .nil
  | b :: bs => .cons rfl (vals_of_bl bs)
theorem paired_eq : ∀ {xs ys : List Value}, Paired (fun v y : Value => v = y) xs ys → xs = ys
  | _, _, .nil => rfl
  | _, _, .cons h t => by rw [h, paired_eq t]
/-- [n for n in .. if n] over truths, while an exception is handled -/
theorem pe_hotLc {X : Cx} {n : Str} {pe px pc pos : Pos} {iter : Expr} {scope : Scope} {ti : TE} (hot : L2H.HotC X) (hi : PE X iter ti) (hcell : ∀ y ∈ scope.names, y.2 ≠ .cell) (hfree : ∀ y ∈ scope.names, y.2 ≠ .free) (hkind : scope.kind = .function)
    (hnames : ∀ y ∈ scope.names, y.2 = .local → scope.names.lookup y.1 = some .local) (hx : scope.names.lookup n = some .local) (hdb : (n == ("__debug__" : Str)) = false := by decide) (hs : ∀ x, foldedSetIterable iter X.env x = pure x := by intro _; rfl) :
    PE X (.ListComp (.Name n pe) [⟨.Name n px, iter, [.Name n pc], 0⟩] scope pos) (fun σ H Q => ti σ H fun v H1 => ∃ (a : Addr) (bs : List Bool), v = .ref a ∧ SqL X.K H1 a (bs.map V.bl) ∧ bs.length ≤ 1000 ∧ ∀ D, H1 D = none → Q (.ref D) (upd H1 D (.lst ((bs.filter id).map V.bl)))) := by
  refine ⟨fun pins s σ H Q I h => ?_⟩
  refine wpAny_ListComp_free (cl := []) isT (fun v y => v = y) ?_ hcell hkind hnames hx (wpAny_mono (hi.run pins s σ H _ I h) (fun v s1 hv => ?_) fun _ _ z => z) hs
  · rw [closure_ok fun y hy e => absurd e (hfree y hy)]
    have : ∀ (names : List (Str × NameKind)) acc, (∀ y ∈ names, y.2 ≠ .free) → cloFrom X.env.cells names acc = acc := by
      intro names
      induction names with
      | nil => intro acc _; rfl
      | cons y r ih =>
        obtain ⟨m, k⟩ := y
        intro acc hy
        unfold cloFrom
        have hk : ¬ (k == NameKind.free) = true := fun q => hy (m, k) List.mem_cons_self (eq_of_beq q)
        rw [if_neg hk]
        exact ih acc fun y hm => hy y (List.mem_cons_of_mem _ hm)
    rw [this _ _ hfree]
  · obtain ⟨v0, H1, I1, rv, a, bs, rfl, hsq, hz, q⟩ := hv
    cases rv
    obtain ⟨its, rl, pl, hl⟩ := I1.list hsq
    have eits : its = bs.map Value.bool := vals_bl rl
    obtain ⟨x1, ht⟩ := hot.at I1
    subst eits
    refine wpAny_pyIter_list pl.isList ?_
    have la : a < s1.heap.objs.size := let ⟨_, e, _⟩ := pl.isList; Heap.lt_size e
    obtain ⟨hh, o1, vs1, e1, d1, c1⟩ := id ht
    have lx : x1 < s1.heap.objs.size := Heap.lt_size e1
    have kp : ∀ b o, s1.heap.get? b = some o → (s1.heap.push { cls := .type "list_iterator", data := .fields #[.ref a, .int 0 0] }).get? b = some o := fun b o e => Heap.get?_push_of_some _ e
    have hsz : (bs.map Value.bool).toArray.size = bs.length := by simp
    refine ⟨s1.heap.objs.size, _, _, _, _, _, rfl, hot_walks x1 s1.heap.objs.size a (Nat.ne_of_lt la) (Nat.ne_of_lt lx) (bs.map Value.bool).toArray, by rw [hsz]; exact Nat.le_trans hz (by decide), ⟨⟨_, Heap.get?_push_size _ rfl, rfl, rfl⟩, pl.isList.at fun o e => kp a o e, hh, o1, vs1, kp x1 o1 e1, d1, c1⟩, fun b hb => ?_, ⟨fun C i v s3 m3 E' hC hP hn hm hk ht => ?_, fun C i v s3 m3 E' hC hP hp hn hm hk ht => ?_⟩, fun D h' tk ys vs hD hl2 hpl hlen hP hF hk => ?_⟩
    · have : b = s1.heap.objs.size ∨ b = a ∨ b = x1 := by simpa using hb
      have h9 : b < s1.heap.objs.size + 1 := by
        rcases this with e | e | e
        · rw [e]; exact Nat.lt_succ_self _
        · rw [e]; exact Nat.lt_succ_of_lt la
        · rw [e]; exact Nat.lt_succ_of_lt lx
      show b < (s1.heap.push { cls := .type "list_iterator", data := .fields #[.ref a, .int 0 0] }).objs.size
      rw [Heap.size_push]
      exact h9
    · have hkn : (compEnvC scope [] C X.env).kindOf n = some .local := lookup_relabel_local (env := X.env) hx
      obtain ⟨b, rfl⟩ : ∃ b, v = Value.bool b := by
        have : v ∈ (bs.map Value.bool).toArray.toList := List.mem_of_getElem? (by rw [Array.getElem?_toList]; exact hP)
        obtain ⟨b, _, e⟩ := List.mem_map.mp (by simpa using this : v ∈ bs.map Value.bool)
        exact ⟨b, e.symm⟩
      refine wpAny_tests_one ?_
      show wpAny _ _ (do let v ← eval (.Name n pc) (compEnvC scope [] C X.env); standAt pc; holding [v] (truthy v)) _ _ _
      refine wpAny_bind (wpAny_Name (wpAny_loadName_local (show (relabel scope X.env).kind = .function from hkind) hkn hn hm (wpAny_bind (wpAny_standAt (wpAny_holding (wpAny_truthy_bool ?_))))) hdb)
      exact ⟨rfl, _, _, rfl, fun _ _ e => e⟩
    · have hkn : (compEnvC scope [] C X.env).kindOf n = some .local := lookup_relabel_local (env := X.env) hx
      exact wpAny_Name (wpAny_loadName_local (show (relabel scope X.env).kind = .function from hkind) hkn hn hm ⟨rfl, _, _, rfl, fun _ _ e => e⟩) hdb
    · have evs : vs = bs.map Value.bool := by
        refine List.ext_getElem (by rw [hlen, hsz, List.length_map]) fun j h1 h2 => ?_
        have := hP j vs[j] (List.getElem?_eq_getElem h1)
        rw [List.getElem?_toArray, List.getElem?_eq_getElem h2] at this
        exact (Option.some.inj this).symm
      subst evs
      rw [filt_isT] at hF
      have ey := paired_eq hF
      have hD1 : s1.heap.get? D = none := by
        cases z : s1.heap.get? D with
        | none => rfl
        | some u => rw [kp D u z] at hD; cases hD
      have k2 : ∀ b u, s1.heap.get? b = some u → h'.get? b = some u := fun b u e => hk b u (by
        have : b ≠ s1.heap.objs.size := Nat.ne_of_lt (Heap.lt_size e)
        simpa using this) (kp b u e)
      refine ⟨.ref D, _, inv_laid0 (s := s1) (t' := tk) (o := .lst ((bs.filter id).map V.bl)) I1 k2 hD1 ⟨?_, (bs.filter id).map Value.bool, ?_⟩, rfl, q D (I1.hok.gone hD1)⟩
      · rw [List.length_map]
        have := List.length_filter_le id bs
        exact Nat.le_trans (Nat.le_trans this hz) (by decide)
      · have e2 : ys = ((bs.filter id).map Value.bool).toArray := by rw [ey]
        obtain ⟨m, hm⟩ := hpl
        rw [e2] at hm
        exact ⟨m, vals_of_bl _, hm⟩
end PD

set_option maxHeartbeats 4000000
/-! a try whose clauses bind the error; a def that is handed the error it is called about -/
namespace PD
open PySem PySem.Spec PyProof.Rows L2
/-- what the clauses, one behind the other, wish of an error: slot i is the bound name's; one of them takes it -/
def wTry (K : PySem.W.Frag) (i : Nat) (D : Ends) : List (Value × (Addr → Value → Option Addr → TS)) → WX
  | [] => fun _ _ _ _ => False
  | (c, ts) :: r => fun cls d σ H => ∃ b, PySem.W.exmOne K cls c = some b ∧
      (b = true → ∀ a, H a = none → ts a cls d ⟨fun σ' H' => D.nx (σ'.set i none) H', D.rt, fun σ' H' => D.bk (σ'.set i none) H', fun σ' H' => D.ct (σ'.set i none) H'⟩ (σ.set i (some (.ref a))) H) ∧ (b = false → wTry K i D r cls d σ H)
inductive Clauses (X : Cx) (n : Str) : List ExceptHandler → List (Value × (Addr → Value → Option Addr → TS)) → Prop
  | nil : Clauses X n [] []
  | cons {x : Str} {c : Value} {ts : Addr → Value → Option Addr → TS} {b0 : Stmt} {suite : List Stmt} {np pos' : Pos} {hds : List ExceptHandler} {l : List (Value × (Addr → Value → Option Addr → TS))} (hc : Names X x c)
      (hsu : ∀ (a : Addr) (oe : Obj) (cls : Value) (d : Option Addr) (pn : List (Addr × Obj)), L2N.Zn cls d oe → (∃ vs, oe.data = .fields vs) → PSs (X.suite a ((a, oe) :: pn)) (b0 :: suite) (ts a cls d)) (r : Clauses X n hds l) :
      Clauses X n (.ExceptHandler (some (.Name x np)) (some n) (b0 :: suite) pos' :: hds) ((c, ts) :: l)
section
variable {X : Cx} {body : List Stmt} {n : Str} {i : Nat} {h0 : ExceptHandler} {hds : List ExceptHandler} {l : List (Value × (Addr → Value → Option Addr → TS))} {pos : Pos} {tb : WX → TS}
theorem ps_tryAs (hs : X.stack = X.env :: X.outer) (hf : X.env.frame = some X.env.locals) (hN : X.N.Nodup) (hi : X.N[i]? = some n) (hln : X.env.kindOf n = some .local)
    (hb : ∀ (W : WX) (pn : List (Addr × Obj)) (xe : Value → Shared → Prop), L2N.Takes (X.tr pn xe) W → PassesOwn (model X.prog X.w) X.A X.env xe → PSs (X.tr pn xe) body (tb W))
    (hh : Clauses X n (h0 :: hds) l) : PS X (.Try body (h0 :: hds) [] [] pos) (fun D σ H => tb (wTry X.K i D l) D σ H) := by
  refine ⟨fun pins s σ H D I q0 => ?_⟩
  have ok := I.ok
  have hloc : L2.Loc X.env.scope n := .inl hln
  have hfr : X.A.frames = some (X.env :: X.outer) := by rw [ok.frames, hs]
  refine wpAny_Try_except ?_
  let catch_ : Value → Shared → Prop := fun e s1 => wpAny (model X.prog X.w) X.A (noteFrame e X.env) (fun _ s2 => wpAny (model X.prog X.w) X.A (setFlight e none) (fun _ s3 => wpAny (model X.prog X.w) X.A (handleBy e X.env (h0 :: hds)) (SP X pins D) X.xe s3) X.xe s2) X.xe s1
  refine wpAny_mono ((hb (wTry X.K i D l) (X.pn ++ pins) catch_ (fun u s' xx => ?_) PassesOwn.looking).run [] s σ H D (I.toTry _) q0) (fun f s1 hsp => ?_) (fun e s1 he => he)
  · obtain ⟨a, B, sI, pins', σ', H', cls, d, rfl, J', nb, up, sky, na, os, ag, wish⟩ := xx
    have J : Inv X pins σ' H' sI := J'.ofTry ok
    have sky2 : Sky B (X.env :: X.outer) a (L2N.Zn cls d) X.env.locals s'.heap := by rw [← hs]; exact sky
    show wpAny (model X.prog X.w) X.A (noteFrame (.ref a) X.env) _ _ _
    refine L2N.Sky.land L2N.Zn.steady hfr hf sky2 fun h3 fl3 up3 => ?_
    have J3 : Inv X pins σ' H' { s' with heap := h3 } := J.landed nb fl3.1 (up.trans up3) os ag
    obtain ⟨oe3, vs3, he3, hz3, hd3⟩ := fl3.there
    have apart : a ∉ frs (X.env :: X.outer) := fun hm => by
      obtain ⟨_, o', e', hnf⟩ := fl3.2.2.1.mem hm
      rw [he3] at e'; cases e'
      exact hnf _ hd3
    have nL : a ≠ X.env.locals := fun z => apart (List.mem_filterMap.mpr ⟨X.env, List.mem_cons_self, by rw [hf, z]⟩)
    have nF : a ∉ X.fs := fun hm => let ⟨e, he, q⟩ := List.mem_filterMap.mp hm; apart (List.mem_filterMap.mpr ⟨e, List.mem_cons_of_mem _ he, q⟩)
    have S3 := J3.suite he3 hd3 na nL nF
    have LT : PySem.W.Looks (model X.prog X.w) h3 (typeOf (.ref a)) cls := fun A Q E s k q => wpAny_typeOf_ref (k _ _ he3) (by rw [hz3.1]; exact q)
    -- one clause behind the other
    have go : ∀ {hs' : List ExceptHandler} {l' : List (Value × (Addr → Value → Option Addr → TS))}, Clauses X n hs' l' → wTry X.K i D l' cls d σ' H' → wpAny (model X.prog X.w) X.A (handleBy (.ref a) X.env hs') (SP X pins D) X.xe { s' with heap := h3 } := by
      intro hs' l' hk
      induction hk with
      | nil => exact fun w => w.elim
      | @cons x c ts b0 suite np pos' hds2 l2 hc hsu r ih =>
        rintro ⟨b, hb1, hyes, hno⟩
        refine wpAny_handleBy_cons (codeAny_handlers_test ?_) (by intro q; cases q)
        have LM := PySem.W.exm_one (M := model X.prog X.w) (J3.kIn) LT hb1
        have named : ∀ {Q : Value → Shared → Prop} {E : Value → Shared → Prop}, Q c { s' with heap := h3 } → wpAny (model X.prog X.w) (X.A.mark (some (.ref a))) (eval (.Name x np) X.env) Q E { s' with heap := h3 } := fun {Q E} q => by
          obtain ⟨hg, hdbg, hm | ⟨hm, hv, hnn⟩⟩ := hc
          · exact ld_glob (X := X.suite a ((a, oe3) :: (X.pn ++ pins))) S3 hg hm q hdbg
          · exact ld_blt (X := X.suite a ((a, oe3) :: (X.pn ++ pins))) S3 hg hm hv q hnn hdbg
        refine named (LM.here ?_)
        cases b with
        | false => exact ih (hno rfl)
        | true =>
          refine codeAny_handlers_suite_as (HandSPX.lands_againZ fl3 fun h4 fl4 up4 => ?_)
          have J4 : Inv X pins σ' H' { s' with heap := h4 } := J.landed nb fl4.1 ((up.trans up3).trans up4) os ag
          obtain ⟨oe4, vs4, he4, hz4, hd4⟩ := fl4.there
          have S4 := J4.suite he4 hd4 na nL nF
          refine store_ok (X := X.suite a ((a, oe4) :: (X.pn ++ pins))) (v := .ref a) S4 hN hi hloc rfl (fun s5 S5 => ?_) (.inr hln)
          refine wpAny_mono ((hsu a oe4 cls d (X.pn ++ pins) hz4 ⟨_, hd4⟩).run [] s5 _ H' _ S5 (hyes rfl a na)) (fun f s6 hsp => ?_) (fun _ _ z => False.elim z)
          have over : ∀ {σ6 : L2.St} {H6 : Hp} {Q : Shared → Prop}, Inv (X.suite a ((a, oe4) :: (X.pn ++ pins))) [] σ6 H6 s6 → (∀ s7, Inv X pins (σ6.set i none) H6 s7 → Q s7) →
              wpAny (model X.prog X.w) X.A (do bindName X.env n .none; unbindBehindTheSuite X.env n pos') (fun _ s7 => Q s7) X.xe s6 := fun {σ6 H6 Q} S6 hq => gone_ok (S6.unsuite ok) hN hi hln hq
          cases f with
          | next => obtain ⟨σ6, H6, S6, q6⟩ := hsp; exact over S6 fun s7 J7 => ⟨_, _, J7, q6⟩
          | brk => obtain ⟨σ6, H6, S6, q6⟩ := hsp; exact over S6 fun s7 J7 => ⟨_, _, J7, q6⟩
          | cont => obtain ⟨σ6, H6, S6, q6⟩ := hsp; exact over S6 fun s7 J7 => ⟨_, _, J7, q6⟩
          | ret u => obtain ⟨v6, σ6, H6, S6, r6, q6⟩ := hsp; exact over S6 fun s7 J7 => ⟨_, _, _, J7, r6, q6⟩
    exact go hh wish
  · cases f with
    | next => obtain ⟨σ', H', J', q⟩ := hsp; exact wpAny_execs_nil ⟨σ', H', J'.ofTry ok, q⟩
    | brk => obtain ⟨σ', H', J', q⟩ := hsp; exact ⟨σ', H', J'.ofTry ok, q⟩
    | cont => obtain ⟨σ', H', J', q⟩ := hsp; exact ⟨σ', H', J'.ofTry ok, q⟩
    | ret u => obtain ⟨v, σ', H', J', r, q⟩ := hsp; exact ⟨v, σ', H', J'.ofTry ok, r, q⟩
end

/-! a def that is called in a suite; p: the error that is handled -/
structure FnE (P : Program) (w : World) (K : PySem.W.Frag) (mg : Str → Option Value) (base : Heap) (k : Nat) (f : Addr) (fd : FuncData) (ps : List Str) (sp : Addr × Obj → Sp) : Prop where
  len : ∀ p vs H Q E, sp p vs H Q E → vs.length = ps.length
  run : ∀ (A : Around) (outer : List PySem.Env) (s : Shared) (H : Hp) (args : Args) (us : List Value) (vs : List V) (Q : VK) (p : Addr × Obj), L2H.RoomH k A → L2H.Hot1 A p → L2H.PinOk outer H s p → Env0 P w K mg base A outer s H → BindsTo s fd args (ps.zip us) → Vals vs us →
    sp p vs H Q E0 → codeAny (model P w) A (.call (.ref f) args) (CR CX0 outer P w H s Q E0) s
section
variable {P : Program} {w : World} {K : PySem.W.Frag} {mg : Str → Option Value} {base : Heap}
theorem fnE {x qual : Str} {st : Stmt} {f : Addr} {fd : FuncData} {N ps : List Str} {k : Nat} {sp : Addr × Obj → Sp} (F : Fun K x qual st f fd) (S : FnScope N ps (defScope st)) (len : ∀ p vs H Q E, sp p vs H Q E → vs.length = ps.length)
    (hbody : ∀ (cdv : Value) (A : Around) (outer : List PySem.Env) (s : Shared) (H : Hp) (vs : List V) (Q : VK) (p : Addr × Obj), L2H.Hot1 A p → L2H.RoomH k (A.deeper (envOfC qual (defScope st) s.heap.objs.size f cdv)) → sp p vs H Q E0 →
      WSs (L2H.cxH CX0 P w K mg base N qual (defScope st) f cdv A outer s H E0 p) (defBody st) { nx := fun _ H' => Q .non H', rt := Q } (L2.start N vs) H) : FnE P w K mg base (k + 1) f fd ps sp := by
  obtain ⟨oc, od, kV, doc, pm, an, cdv, ct, osl, rfl, lk, hcd⟩ := F.ex
  refine ⟨len, fun A outer s H args us vs Q p hr hot hpin e0 hb r hsp => ?_⟩
  have hl := len _ _ _ _ _ hsp
  have KX : K.In s.heap := e0.mod.kin.keeps fun b o e => (e0.bs b o e).1
  have lim : s.heap.NoLimit := e0.mod.nolimit.keeps fun b o e => (e0.bs b o e).1
  have kinds : ∀ y ∈ ps.zip us, (defScope st).names.lookup y.1 = some .local ∨ ((defScope st).names.lookup y.1 = some .cell ∧ ((cellsFrom (s.heap.objs.size + 1) (defScope st).names []).lookup y.1).isSome = true) := fun ⟨n, v⟩ hy => by
    rcases S.par n (List.of_mem_zip hy).1 with q | q
    · exact .inl q
    · exact .inr ⟨q, PySem.W.cellsFrom_some _ _ _ (.inl q)⟩
  refine codeAny_call_function hr.depth (KX _ _ lk) rfl S.co S.gen rfl (PySem.W.codeRec_of KX hcd) (hb _ _ _ _ (wpAny_newFunctionEnv_cells S.kind kinds fun env he s1 x => ?_))
  subst he
  refine ⟨lim.keeps x.toInCall.keep, codeAny_func ?_⟩
  have I := L2H.inv_startH (CX := CX0) (cd := cdv) (E := E0) S hpin e0 hl r x
  refine wpAny_mono (hbody cdv A outer s H vs Q p hot (hr.deeper _) hsp [] s1 I) (fun fl s' hs => ?_) fun e s' hs => hs
  cases fl with
  | ret u => obtain ⟨v, σ', H', J, rv, q⟩ := hs; exact ⟨v, H', J.os, J.bare, J.base, J.hok, rv, q⟩
  | next => obtain ⟨σ', H', J, q⟩ := hs; exact ⟨.non, H', J.os, J.bare, J.base, J.hok, rfl, q⟩
  | brk => obtain ⟨_, _, _, q⟩ := hs; exact q.elim
  | cont => obtain ⟨_, _, _, q⟩ := hs; exact q.elim
end
section
variable {X : Cx} {k : Nat} {f : Addr} {fd : FuncData} {ps : List Str} {sp : Addr × Obj → Sp} {x : Str} {q pos : Pos} {e : Expr} {es : List Expr} {t : TA} {pe : Addr × Obj}
theorem pe_callE (F : FnE X.prog X.w X.K X.mg X.base k f fd ps sp) (hr : L2H.RoomH k X.A) (hot : L2H.Hot1 X.A pe) (hp : pe ∈ X.pn) (hg : Gl X x) (hm : X.mg x = some (.ref f)) (hk : PySem.W.keepIn X.K (.ref f) = true) (hb : Binds X.K fd ps [])
    (ha : PA X (e :: es) t) (hdb : (x == ("__debug__" : Str)) = false := by decide) (he : starEach (e :: es) X.env = (false, eval e X.env) :: starEach es X.env := by rfl) (hpl : (backTo pos (starEach es X.env)).any (·.1) = false := by rfl) :
    PE X (.Call (.Name x q) (e :: es) [] pos) (fun σ H Q => t σ H fun vs H1 => sp pe vs H1 Q E0) := by
  refine ⟨fun pins s σ H Q I h => wpAny_Call_Name_kw (ld_glob I hg hm (PySem.W.callWith_K (h₀ := X.base) I.ok.mod.kin hk (thn (ha.run pos pins s σ H _ I h) fun us s1 ⟨vs, H1, I1, r, q1⟩ => ⟨I1.kIn, ?_⟩) he hpl) hdb)⟩
  have hl : us.length = ps.length := by rw [← r.length]; exact F.len _ _ _ _ _ q1
  have b := hb s1 us I1.kIn (by rw [List.append_nil]; exact hl)
  rw [List.append_nil] at b
  have P1 := I1.pin pe (List.mem_append_left _ hp)
  have hpin : L2H.PinOk X.stack H1 s1 pe := ⟨P1.1, P1.2.1, fun hm2 => (List.mem_cons.mp (I1.stkSub pe.1 hm2)).elim P1.2.2.1 P1.2.2.2.1, P1.2.2.2.2⟩
  refine wpAny_call (codeAny_mono (F.run X.A X.stack s1 H1 ⟨us, []⟩ us vs Q pe hr hot hpin I1.env0 b r q1) fun r2 s' hq => ?_)
  cases r2 with
  | error e => exact hq.elim
  | ok fl =>
    cases fl with
    | ret u => exact I1.after hq
    | next => exact hq.elim
    | brk => exact hq.elim
    | cont => exact hq.elim
end
/-! isinstance of the error that is at hand -/
section
variable {X : Cx} {W : WX} {ex : Addr → Prop} {ρ : List Sl} {pos p p2 p3 : Pos} {n c : Str} {i : Nat} {a D : Addr} {oe : Obj}
theorem ed_isi {cv : V} {cu : Value} {b : Bool} (hN : X.N[i]? = some n) (hv : Vis X.env.scope n) (hs : ρ[i]? = some (.raw (.ref a))) (pin : (a, oe) ∈ X.pn) (C : ExcC X.K D) (hz : Zc (.ref D) none oe) (hf : ∃ vs, oe.data = .fields vs)
    (hc : PE X (.Name c p3) (tC cv)) (hcv : ∀ u, RelV cv u → u = cu) (e : PySem.W.kitOne X.K (.ref D) cu = some b) (hg : Gl X ("isinstance" : Str)) (hm : X.mg ("isinstance" : Str) = none)
    (hd : (n == ("__debug__" : Str)) = false := by decide) (hcd : (n == ("__classdict__" : Str)) = false := by decide) : ED X W ex (.Call (.Name "isinstance" p) [.Name n p2, .Name c p3] [] pos) ρ (.bool b) := fun B F H σ Q E xc q => by
  obtain ⟨o, e1, h1⟩ := E.s i _ hs
  cases o with
  | none => exact h1.elim
  | some v =>
  have h1 : v = .ref a := h1
  subst h1
  have r : CallR X (.builtin "isinstance") (rIsE X.K D a) := fun pins s σ H xs us Q I r h => by
    obtain ⟨c, cv, b, rfl, hcv, e, q⟩ := h
    cases r with
    | cons rx rr =>
    cases rr with
    | cons rt rr =>
    cases rr
    cases rx
    have ec := hcv _ rt
    subst ec
    obtain ⟨hget, _⟩ := I.pin (a, oe) (List.mem_append.mpr (.inl pin))
    obtain ⟨vs, hv⟩ := hf
    have J : PySem.W.InstAt s.heap a oe D none := by
      obtain ⟨oc, od, oda, osl⟩ := oe
      obtain ⟨h1, h2⟩ := hz
      dsimp only at h1 h2 hv
      subst h1 h2 hv
      exact ⟨hget, rfl, rfl, trivial⟩
    exact PySem.W.kia_one (PySem.W.handS_kitx_exc C.hg C.hk C.hs C.hd C.ha C.hn C.ht C.hm) I.kIn J e (fun z => nomatch z) fun tk => ⟨.bl b, H, I.kept (t' := tk) fun _ _ z => z, rfl, q⟩
  exact w_e (pe_callB r hg hm (by decide +kernel) (pa_cons (pe_var hN hv hd hcd) (pa_cons hc pa_nil)) (by decide) (by decide) rfl (by rfl)) ⟨_, e1, cv, cu, b, rfl, hcv, e, q _ F H (Ext.refl E.i) (.bl b)⟩
end
end PD

set_option maxHeartbeats 4000000
namespace PD
open PySem PySem.Spec PyProof.Rows L2
section
variable {X : Cx} {W : WX} {ex : Addr → Prop} {ρ : List Sl} {pos pe px pc p p2 p3 : Pos} {n c : Str} {i : Nat} {iter : Expr} {scope : Scope} {bs : List Bool}
/-- [n for n in .. if n] over truths, in a def that is called in a suite -/
theorem el_hot (hot : L2H.HotC X) (h : EB X W ex iter ρ (bs.map .bool)) (hz : bs.length ≤ 1000) (hcell : ∀ y ∈ scope.names, y.2 ≠ .cell := by decide +kernel) (hfree : ∀ y ∈ scope.names, y.2 ≠ .free := by decide +kernel) (hkind : scope.kind = .function := by rfl)
    (hnames : ∀ y ∈ scope.names, y.2 = .local → scope.names.lookup y.1 = some .local := by decide +kernel) (hx : scope.names.lookup n = some .local := by rfl) (hdb : (n == ("__debug__" : Str)) = false := by decide) (hs : ∀ x, foldedSetIterable iter X.env x = pure x := by intro _; rfl) :
    EL X W ex (.ListComp (.Name n pe) [⟨.Name n px, iter, [.Name n pc], 0⟩] scope pos) ρ ((bs.filter id).map .bool) := fun B F H σ Q E xc q =>
  w_e (pe_hotLc hot pe_w hcell hfree hkind hnames hx hdb hs) (h B F H σ _ E xc fun r vs F1 H1 x1 hr i1 => by
    rw [i1.bools_eq] at hr
    refine ⟨r, bs, rfl, hr, hz, fun D hD => ?_⟩
    exact q D _ F1 _ (x1.trans (Ext.kept x1.i hD)) (x1.h.back hD) (x1.i.back hD) upd_same (IsAll.bools _))
end
/-- what the class D says, of the eight and of the two above -/
structure Kit8 (K : PySem.W.Frag) (mg : Str → Option Value) (D : Addr) (b1 b2 b3 b4 b5 b6 b7 b8 : Bool) : Prop where
  cls : ExcC K D
  k1 : ∃ C, mg "BadChange" = some (.ref C) ∧ PySem.W.kitOne K (.ref D) (.ref C) = some b1
  k2 : ∃ C, mg "NotLeaned" = some (.ref C) ∧ PySem.W.kitOne K (.ref D) (.ref C) = some b2
  k3 : ∃ C, mg "Twice" = some (.ref C) ∧ PySem.W.kitOne K (.ref D) (.ref C) = some b3
  k4 : ∃ C, mg "Missing" = some (.ref C) ∧ PySem.W.kitOne K (.ref D) (.ref C) = some b4
  k5 : ∃ C, mg "NoLine" = some (.ref C) ∧ PySem.W.kitOne K (.ref D) (.ref C) = some b5
  k6 : ∃ C, mg "Other" = some (.ref C) ∧ PySem.W.kitOne K (.ref D) (.ref C) = some b6
  k7 : ∃ C, mg "Ring" = some (.ref C) ∧ PySem.W.kitOne K (.ref D) (.ref C) = some b7
  k8 : ∃ C, mg "NoNote" = some (.ref C) ∧ PySem.W.kitOne K (.ref D) (.ref C) = some b8
  k9 : ∃ C, mg "WeaveError" = some (.ref C) ∧ PySem.W.kitOne K (.ref D) (.ref C) = some true
  kv : PySem.W.kitOne K (.ref D) (.type "ValueError") = some true
  ve : mg "ValueError" = none
  is : mg "isinstance" = none
  ln : mg "len" = none
  one : [b1, b2, b3, b4, b5, b6, b7, b8].filter id = [true]
section
variable {X : Cx} {W : WX} {ex : Addr → Prop} {ρ : List Sl} {pos p p2 p3 : Pos} {n c : Str} {i : Nat} {a D : Addr} {oe : Obj} {b : Bool} {sc : Scope} {ns gs : List Str}
theorem ed_isiC (lo : ns.all (locB sc) = true) (gl : gs.all (glB sc) = true) (i j k : Nat) (pin : (a, oe) ∈ X.pn) (C : ExcC X.K D) (hz : Zc (.ref D) none oe) (hf : ∃ vs, oe.data = .fields vs) (kt : ∃ A, X.mg c = some (.ref A) ∧ PySem.W.kitOne X.K (.ref D) (.ref A) = some b) (hm : X.mg ("isinstance" : Str) = none)
    (hN : X.N[i]? = some n := by rfl) (hn : ns[i]? = some n := by rfl) (hs : ρ[i]? = some (.raw (.ref a)) := by rfl) (hj : gs[j]? = some ("isinstance" : Str) := by rfl) (hk : gs[k]? = some c := by rfl) (hsc : X.env.scope = sc := by rfl) (hdb : (c == ("__debug__" : Str)) = false := by decide)
    (hd : (n == ("__debug__" : Str)) = false := by decide) (hcd : (n == ("__classdict__" : Str)) = false := by decide) : ED X W ex (.Call (.Name "isinstance" p) [.Name n p2, .Name c p3] [] pos) ρ (.bool b) := by
  obtain ⟨A, hA, e⟩ := kt
  have g1 : Gl X c := by show X.env.scope.names.lookup c = _; rw [hsc]; exact gl_of gl k hk
  have g2 : Gl X ("isinstance" : Str) := by show X.env.scope.names.lookup _ = _; rw [hsc]; exact gl_of gl j hj
  exact ed_isi (cv := .ref A) hN (by rw [hsc]; exact vis_of (loc_of lo i hn)) hs pin C hz hf (pe_glob g1 hA rfl hdb) (fun u r => r) e g2 hm hd hcd
theorem ed_isiV (lo : ns.all (locB sc) = true) (gl : gs.all (glB sc) = true) (i j k : Nat) (pin : (a, oe) ∈ X.pn) (C : ExcC X.K D) (hz : Zc (.ref D) none oe) (hf : ∃ vs, oe.data = .fields vs) (e : PySem.W.kitOne X.K (.ref D) (.type "ValueError") = some b) (hv : X.mg ("ValueError" : Str) = none) (hm : X.mg ("isinstance" : Str) = none)
    (hN : X.N[i]? = some n := by rfl) (hn : ns[i]? = some n := by rfl) (hs : ρ[i]? = some (.raw (.ref a)) := by rfl) (hj : gs[j]? = some ("isinstance" : Str) := by rfl) (hk : gs[k]? = some ("ValueError" : Str) := by rfl) (hsc : X.env.scope = sc := by rfl)
    (hd : (n == ("__debug__" : Str)) = false := by decide) (hcd : (n == ("__classdict__" : Str)) = false := by decide) : ED X W ex (.Call (.Name "isinstance" p) [.Name n p2, .Name "ValueError" p3] [] pos) ρ (.bool b) := by
  have g1 : Gl X ("ValueError" : Str) := by show X.env.scope.names.lookup _ = _; rw [hsc]; exact gl_of gl k hk
  have g2 : Gl X ("isinstance" : Str) := by show X.env.scope.names.lookup _ = _; rw [hsc]; exact gl_of gl j hj
  exact ed_isi (cv := .ty "ValueError") hN (by rw [hsc]; exact vis_of (loc_of lo i hn)) hs pin C hz hf (pe_bltn g1 hv (by decide +kernel) rfl) (fun u r => r) e g2 hm hd hcd
end
/-- the promise of the law's look at an error: True -/
def spAlone (K : PySem.W.Frag) (mg : Str → Option Value) : Addr × Obj → Sp := fun p vs H Q _ => ∃ D b1 b2 b3 b4 b5 b6 b7 b8, vs = [.ref p.1] ∧ L2N.Zn (.ref D) none p.2 ∧ (∃ vs, p.2.data = .fields vs) ∧ Kit8 K mg D b1 b2 b3 b4 b5 b6 b7 b8 ∧ ∀ H', Ex H H' → Q (.bl true) H'
end PD

set_option maxHeartbeats 4000000
namespace PD
open PySem PySem.Spec PyProof.Rows L2
/-! ### try .. except C as n: .. (one clause or several; one of them takes what is raised) -/
inductive Cls (X : Cx) (n : Str) : List ExceptHandler → List (List Stmt × Value) → Prop
  | nil : Cls X n [] []
  | cons {x : Str} {c : Value} {b0 : Stmt} {suite : List Stmt} {np pos' : Pos} {hds : List ExceptHandler} {l : List (List Stmt × Value)} (hc : Names X x c) (r : Cls X n hds l) : Cls X n (.ExceptHandler (some (.Name x np)) (some n) (b0 :: suite) pos' :: hds) ((b0 :: suite, c) :: l)
/-- behind a suite its name is gone -/
def De.gone (T : De) (i : Nat) : De := { T with nx := fun ρ => T.nx (ρ.set i .un), bk := fun ρ => T.bk (ρ.set i .un), ct := fun ρ => T.ct (ρ.set i .un), ex := fun _ _ => False }
def Han (X : Cx) (i : Nat) (T : De) (C : Addr) (ρ : List Sl) : List (List Stmt × Value) → Prop
  | [] => False
  | (suite, c) :: r => ∃ b, PySem.W.exmOne X.K (.ref C) c = some b ∧
      (b = true → ∀ (a : Addr) (oe : Obj) (pn : List (Addr × Obj)), L2N.Zn (.ref C) none oe → (∃ vs, oe.data = .fields vs) → SDs (X.suite a ((a, oe) :: pn)) noW suite (ρ.set i (.raw (.ref a))) (T.gone i)) ∧ (b = false → Han X i T C ρ r)
section
variable {X : Cx}
def tSui (X : Cx) (suite : List Stmt) : Addr → Value → Option Addr → TS := fun a cls d D σ H => ∀ (oe : Obj) (pn : List (Addr × Obj)), L2N.Zn cls d oe → (∃ vs, oe.data = .fields vs) → WSs (X.suite a ((a, oe) :: pn)) suite D σ H
theorem Cls.cl {n : Str} : ∀ {hds : List ExceptHandler} {l : List (List Stmt × Value)}, Cls X n hds l → Clauses X n hds (l.map fun p => (p.2, tSui X p.1))
  | _, _, .nil => .nil
  | _, _, .cons hc r => .cons hc (fun a oe cls d pn hz hf => ⟨fun pins s σ H D I h => h oe pn hz hf pins s I⟩) r.cl
theorem han_wish {i : Nat} {T : De} {C : Addr} {F0 H0 F H : Hp} {σ : L2.St} {ρ : List Sl} {D : Ends} {W : WX} (l : Lk X.K W F0 H0 T D) (s : S2 X.K F0 H0 F H σ ρ) : ∀ {hs : List (List Stmt × Value)}, Han X i T C ρ hs → wTry X.K i D (hs.map fun p => (p.2, tSui X p.1)) (.ref C) none σ H
  | [], h => h.elim
  | (suite, c) :: r, ⟨b, hb, hy, hn⟩ => ⟨b, hb, fun q a na oe pn hz hf => by
      have s1 : S2 X.K F0 H0 F H (σ.set i (some (.ref a))) (ρ.set i (.raw (.ref a))) := ⟨s.x, s.e.set (s := .raw (.ref a)) rfl rfl⟩
      have drop : ∀ ρ2 σ2 F2 H2, S2 X.K F0 H0 F2 H2 σ2 ρ2 → S2 X.K F0 H0 F2 H2 (σ2.set i none) (ρ2.set i .un) := fun ρ2 σ2 F2 H2 s2 => ⟨s2.x, s2.e.set_ (o := none) (s := .un) trivial fun _ _ _ _ h _ => nomatch h⟩
      exact hy q a oe pn hz hf F0 H0 F H _ _ s1 ⟨fun ρ2 σ2 F2 H2 z s2 => l.nx _ _ F2 H2 z (drop _ _ _ _ s2), l.rt, l.rl, fun ρ2 σ2 F2 H2 z s2 => l.bk _ _ F2 H2 z (drop _ _ _ _ s2), fun ρ2 σ2 F2 H2 z s2 => l.ct _ _ F2 H2 z (drop _ _ _ _ s2), fun _ _ _ _ _ z => z.elim, l.ro⟩, fun q => han_wish l s (hn q)⟩
variable {W : WX} {ρ : List Sl} {T : De} {body : List Stmt} {n : Str} {i : Nat} {h0 : ExceptHandler} {hds : List ExceptHandler} {hs : List (List Stmt × Value)} {pos : Pos}
theorem sd_try (ex0 : Addr → List Sl → Prop) (hst : X.stack = X.env :: X.outer) (hf : X.env.frame = some X.env.locals) (hN : X.N.Nodup) (hi : X.N[i]? = some n) (hln : X.env.kindOf n = some .local) (cl : Cls X n (h0 :: hds) hs)
    (hb : ∀ (W0 : WX) (pn : List (Addr × Obj)) (xe : Value → Shared → Prop), L2N.Takes (X.tr pn xe) W0 → PassesOwn (model X.prog X.w) X.A X.env xe → SDs (X.tr pn xe) W0 body ρ { T with ex := ex0 })
    (hh : ∀ C ρ1, ex0 C ρ1 → Han X i T C ρ1 hs) : SD X W (.Try body (h0 :: hds) [] [] pos) ρ T := fun F0 H0 F H σ D s l =>
  w_s (ps_tryAs (tb := fun W0 D σ H => ∀ pn xe, L2N.Takes (X.tr pn xe) W0 → PassesOwn (model X.prog X.w) X.A X.env xe → WSs (X.tr pn xe) body D σ H) hst hf hN hi hln (fun W0 pn xe tk po => ⟨fun pins s1 σ1 H1 D1 I1 q => q pn xe tk po pins s1 I1⟩) cl.cl)
    fun pn xe tk po => hb _ pn xe tk po F0 H0 F H σ D s ⟨l.nx, l.rt, l.rl, l.bk, l.ct, fun C ρ1 σ1 F1 H1 e s1 => han_wish l s1 (hh C ρ1 e), l.ro⟩
end
section
variable {X : Cx} {W : WX} {ex : Addr → Prop} {ρ : List Sl} {k : Nat} {f : Addr} {fd : FuncData} {ps : List Str} {x n : Str} {q p pos : Pos} {i : Nat} {a D : Addr} {oe : Obj} {sc : Scope} {ns gs : List Str} {b1 b2 b3 b4 b5 b6 b7 b8 : Bool}
/-- a suite's look at its error: True -/
theorem ed_alone (lo : ns.all (locB sc) = true) (gl : gs.all (glB sc) = true) (i j : Nat) (F : FnE X.prog X.w X.K X.mg X.base k f fd ps (spAlone X.K X.mg)) (hr : L2H.RoomH k X.A) (hh : X.A.handled = some (.ref a)) (pin : (a, oe) ∈ X.pn) (hz : L2N.Zn (.ref D) none oe) (hf : ∃ vs, oe.data = .fields vs) (kit : Kit8 X.K X.mg D b1 b2 b3 b4 b5 b6 b7 b8)
    (hm : X.mg x = some (.ref f)) (hk : PySem.W.keepIn X.K (.ref f) = true) (hb : Binds X.K fd ps []) (hN : X.N[i]? = some n := by rfl) (hn : ns[i]? = some n := by rfl) (hs : ρ[i]? = some (.raw (.ref a)) := by rfl) (hj : gs[j]? = some x := by rfl) (hsc : X.env.scope = sc := by rfl)
    (hd : (n == ("__debug__" : Str)) = false := by decide) (hcd : (n == ("__classdict__" : Str)) = false := by decide) (hdb : (x == ("__debug__" : Str)) = false := by decide) : ED X W ex (.Call (.Name x q) [.Name n p] [] pos) ρ (.bool true) := fun B F0 H σ Q E xc k0 => by
  obtain ⟨o, e1, h1⟩ := E.s i _ hs
  cases o with
  | none => exact h1.elim
  | some v =>
  have h1 : v = .ref a := h1
  subst h1
  obtain ⟨vs, hv⟩ := hf
  have g1 : Gl X x := by show X.env.scope.names.lookup x = _; rw [hsc]; exact gl_of gl j hj
  refine w_e (pe_callE (pe := (a, oe)) F hr ⟨hh, vs, hv, hz.2.2 vs hv⟩ pin g1 hm hk hb (pa_cons (pe_var hN (by rw [hsc]; exact vis_of (loc_of lo i hn)) hd hcd) pa_nil) hdb rfl (by rfl)) ⟨_, e1, D, b1, b2, b3, b4, b5, b6, b7, b8, rfl, hz, ⟨vs, hv⟩, kit, fun H' x => ?_⟩
  exact k0 _ F0 H' ⟨Ex.refl F0, x, E.i.trans x, fun _ _ => rfl⟩ (.bl true)
end
end PD

set_option maxHeartbeats 4000000
namespace PD
open PySem PySem.Spec PyProof.Rows L2
/-- an error class of one's own, below ValueError -/
structure Er (K : PySem.W.Frag) (mg : Str → Option Value) (x : Str) (C : Addr) : Prop where
  g : mg x = some (.ref C)
  q : PySem.W.excIn K C [.type "ValueError", .type "Exception", .type "BaseException", .type "object"] "ValueError.__new__" = true
  k : PySem.W.keepIn K (.ref C) = true
  b : PySem.W.subIn K (.ref C) (.type "BaseException") = some true
  t : PySem.W.typeIn K (.ref C) = some (.type "type")
section
variable {X : Cx} {W : WX} {e : Expr} {ρ : List Sl} {d : PyData} {pos p p2 : Pos} {n : Str} {C : Addr} {T : De} {sc : Scope} {gs : List Str}
theorem sd_rz (E : Er X.K X.mg n C) (hc : X.calm = true) (tk : L2N.Takes X W) (hg : Gl X n) (h : ED X W (fun C => T.ex C ρ) e ρ d) (hx : T.ex C ρ) (hs : starEach [e] X.env = (false, eval e X.env) :: starEach [] X.env := by rfl) (hdb : (n == ("__debug__" : Str)) = false := by decide) :
    SD X W (.Raise (some (.Call (.Name n p) [e] [] p2)) none pos) ρ T := sd_raise hc tk PySem.F.excBase_ValueError E.q E.g E.k (raises_own E.b E.t) hg h hx hs hdb
/-- a short text of plain signs -/
def Tx0 (z : Str) : Prop := z.length ≤ 1000 ∧ ∀ c ∈ z.cps.toList, c < 256
theorem sz_repr {z : Str} (h : Tx0 z) : (reprText z).length ≤ 10002 := by
  have h1 := StrLaws.reprText_len z (fun c hc => Nat.lt_of_lt_of_le (h.2 c hc) (by decide))
  have h2 := h.1
  omega
theorem str_ok {z : Str} (h : Tx0 z) : PyData.strOk z = true := by
  unfold PyData.strOk
  rw [← Array.all_toList, List.all_eq_true]
  intro c hc
  exact decide_eq_true (Nat.lt_of_lt_of_le (h.2 c hc) (by decide))
/-- the comprehension without a test -/
theorem lc_all {α β : Type} (xs : List α) (g : α → β) : (xs.filter fun _ => true).map g = xs.map g := by rw [List.filter_eq_self.mpr (fun _ _ => rfl)]
/-- an expression that raises -/
def EX (X : Cx) (W : WX) (ex : Addr → Prop) (e : Expr) (ρ : List Sl) : Prop := ∀ B F H σ (Q : VK), En X.K B F H σ ρ → Xc W ex F H σ → PD.WE X e σ H Q
theorem sd_exprX (h : EX X W (fun C => T.ex C ρ) e ρ) (hw : swapsWith e none pos.line X.env = pure false := by rfl) : SD X W (.Expr e pos) ρ T := fun F0 H0 F H σ D s l => w_s (ps_expr pe_w hw) (h H0 F H σ _ s.e (l.xc s))
theorem sd_retX (h : EX X W (fun C => T.ex C ρ) e ρ) : SD X W (.Return (some e) pos) ρ T := fun F0 H0 F H σ D s l => w_s (ps_ret pe_w) (h H0 F H σ _ s.e (l.xc s))
theorem sd_setX {i : Nat} {m : Str} (nd : X.N.Nodup) (hN : X.N[i]? = some m) (hl : Loc X.env.scope m) (hfn : X.fn m = true ∨ X.env.scope.names.lookup m = some .local) (h : EX X W (fun C => T.ex C ρ) e ρ) (hw : swapsWith e (some (.Name m p)) pos.line X.env = pure false := by rfl) : SD X W (.Assign [.Name m p] e pos) ρ T := fun F0 H0 F H σ D s l =>
  w_s (ps_set nd hN hl pe_w hw hfn) (h H0 F H σ _ s.e (l.xc s))
end
section
variable {X : Cx} {W : WX} {ex : Addr → Prop} {e a b : Expr} {es : List Expr} {ρ as : List Sl} {d : PyData} {ds : List PyData} {pos p : Pos} {k n : Nat} {x : Str} {R : List Sl → DOut → Prop}
theorem EX.ed (h : EX X W ex e ρ) : ED X W ex e ρ d := fun B F H σ Q E c _ => h B F H σ Q E c
theorem ex_call (C : Cal X.prog X.w X.K X.mg X.base k x n R) (hr : Room k X.A) (hg : Gl X x) (tk : L2N.Takes X W) (ha : EA X W ex (e :: es) ρ as) (hn : as.length = n) {D : Addr} (hR : R as (.exc D)) (hD : ex D)
    (hdb : (x == ("__debug__" : Str)) = false := by decide) (he : starEach (e :: es) X.env = (false, eval e X.env) :: starEach es X.env := by rfl) (hpl : (backTo pos (starEach es X.env)).any (·.1) = false := by rfl) : EX X W ex (.Call (.Name x p) (e :: es) [] pos) ρ := fun B F H σ Q E c =>
  call_w C hr hg tk ha hn hR hdb he hpl E c fun F1 H1 x1 F2 H2 x2 => c D F2 H2 hD (x1.trans x2)
end
/-- a test that raises -/
def ETX (X : Cx) (W : WX) (ex : Addr → Prop) (e : Expr) (ρ : List Sl) : Prop := ∀ B F H σ (Q : Bool → Hp → Prop), En X.K B F H σ ρ → Xc W ex F H σ → WT X e σ H Q
section
variable {X : Cx} {W : WX} {ex : Addr → Prop} {e a b : Expr} {ρ : List Sl} {pos : Pos} {T : De} {ths els : List Stmt}
theorem etx_is (h : EX X W ex a ρ) (hm : behindInMarks .Is b = false := by rfl) : ETX X W ex (.Compare a [.Is] [b] pos) ρ := fun B F H σ Q E c => w_t (pt_cmpR op_isN pe_w pe_w hm) (h B F H σ _ E c)
theorem sd_ifX (h : ETX X W (fun C => T.ex C ρ) e ρ) : SD X W (.If e ths els pos) ρ T := fun F0 H0 F H σ D s l => w_s (ps_if pt_w pss_w pss_w) (h H0 F H σ _ s.e (l.xc s))
end
theorem num_len {n : Nat} (h : n ≤ 1000) : (Str.ofString (toString (n : Int))).length ≤ 10 := by
  have a : ((List.range 1001).all fun n => decide ((Str.ofString (toString (n : Int))).length ≤ 10)) = true := by decide +kernel
  exact of_decide_eq_true (List.all_eq_true.mp a n (List.mem_range.mpr (by omega)))
end PD

set_option maxHeartbeats 4000000
namespace PD
open PySem PySem.Spec PyProof.Rows L2
section
variable {X : Cx} {W : WX} {e1 e2 : Expr} {body : List Stmt} {ρ : List Sl} {xs ys : List PyData} {pos p p2 tpos : Pos} {T : De} {elts : List Expr} {kk : Nat}
/-- for .. in zip(xs, ys), both lists stand still -/
theorem sd_zip {f : List Sl → PyData → List Sl → Prop} (I : Nat → List Sl → Prop) (hp : PassesOwn (model X.prog X.w) X.A X.env X.xe) (hc : X.calm = true) (g : GU X (.Tuple elts kk tpos) f) (hg : Gl X ("zip" : Str)) (hm : X.mg ("zip" : Str) = none)
    (h1 : EP' X W (fun C => T.ex C ρ) e1 ρ xs) (h2 : EP' X W (fun C => T.ex C ρ) e2 ρ ys) (h0 : I 0 ρ)
    (hs : ∀ i d1 d2 ρ1, xs[i]? = some d1 → ys[i]? = some d2 → I i ρ1 → ∃ ρ2, f ρ1 (.tuple [d1, d2]) ρ2 ∧ SDs X W body ρ2 { T with nx := I (i + 1), ct := I (i + 1), bk := T.nx }) (hd : ∀ ρ', I (min xs.length ys.length) ρ' → T.nx ρ')
    (s1 : starEach [e1, e2] X.env = (false, eval e1 X.env) :: starEach [e2] X.env := by rfl) (s2 : starEach [e2] X.env = [(false, eval e2 X.env)] := by rfl) (s3 : (backTo p2 (starEach [e2] X.env)).any (fun x => x.1) = false := by rfl)
    (hf : ∀ x, foldedSetIterable (.Call (.Name "zip" p) [e1, e2] [] p2) X.env x = pure x := by intro _; rfl) : SD X W (.For (.Tuple elts kk tpos) (.Call (.Name "zip" p) [e1, e2] [] p2) body [] pos) ρ T := by
  obtain ⟨g1, p1, k1⟩ := g
  refine fun F0 H0 F H σ D s l => w_s (ps_for hp hc (pi_zip hg hm (pa_cons pe_w (pa_cons pe_w pa_nil s2) s1) s1 s3) p1 pss_w hf) (h1 H0 F H σ _ s.e (l.xc s) fun a vs F1 H1 x1 hr1 i1 => h2 H0 F1 H1 σ _ (s.e.ext x1) ((l.xc s).ext x1) fun b ws F2 H2 x2 hr2 i2 => ?_)
  have s4 := (s.go x1).go x2
  have ra : ∀ F' H', Ex F2 F' → Ex F' H' → Ex H0 H' → SqL X.K H' a vs := fun F' H' y z u => by
    rcases hr1 with hr | hr
    · exact u.sql hr
    · exact ((x2.f.trans y).trans z).sql hr
  have rb : ∀ F' H', Ex F2 F' → Ex F' H' → Ex H0 H' → SqL X.K H' b ws := fun F' H' y z u => by
    rcases hr2 with hr | hr
    · exact u.sql hr
    · exact (y.trans z).sql hr
  refine ⟨a, b, vs, ws, rfl, ra F2 H2 (Ex.refl _) s4.e.i s4.e.b, rb F2 H2 (Ex.refl _) s4.e.i s4.e.b, fun i m σ' H' => m = min xs.length ys.length - i ∧ i ≤ min xs.length ys.length ∧ ∃ F' ρ', I i ρ' ∧ Ex F2 F' ∧ S2 X.K F0 H0 F' H' σ' ρ', ⟨_, rfl, Nat.zero_le _, F2, ρ, h0, Ex.refl F2, s4⟩, ?_⟩
  rintro i m σ' H' ⟨rfl, him, F', ρ', hI, hx, s'⟩
  have qa := ra F' H' hx s'.e.i s'.e.b
  have qb := rb F' H' hx s'.e.i s'.e.b
  by_cases hi : i < min xs.length ys.length
  · have hi1 : i < xs.length := by omega
    have hi2 : i < ys.length := by omega
    obtain ⟨v, hv, iv⟩ := i1.get (List.getElem?_eq_getElem hi1)
    obtain ⟨u, hu, iu⟩ := i2.get (List.getElem?_eq_getElem hi2)
    refine .inr ⟨⟨vs, ws, v, u, qa, qb, hv, hu⟩, fun σ2 H2 => ∃ F2' ρ2, I (i + 1) ρ2 ∧ Ex F2 F2' ∧ S2 X.K F0 H0 F2' H2 σ2 ρ2, fun σ2 H2 ⟨F2', ρ2, a1, a2, a3⟩ => ⟨min xs.length ys.length - (i + 1), by omega, rfl, by omega, F2', ρ2, a1, a2, a3⟩, ?_⟩
    rintro x H3 ⟨t, v', u', rfl, nt, rfl, fa, fb⟩
    have ev : v' = v := Option.some.inj ((fa vs qa).symm.trans hv)
    have eu : u' = u := Option.some.inj ((fb ws qb).symm.trans hu)
    subst ev eu
    have x3 : Ext F' H' (upd F' t (.tup [v', u'])) (upd H' t (.tup [v', u'])) := Ext.made s'.e.i nt
    have s3 := s'.go x3
    obtain ⟨ρ2, hf2, hb⟩ := hs i _ _ ρ' (List.getElem?_eq_getElem hi1) (List.getElem?_eq_getElem hi2) hI
    have iv3 := (iv.mono x2.f).mono (hx.trans x3.f)
    have iu3 := iu.mono (hx.trans x3.f)
    refine k1 ρ' _ ρ2 hf2 H0 _ _ σ' (.ref t) _ s3.e (.tup (SqT.of upd_same) (.cons iv3 (.cons iu3 .nil))) fun σ2 E2 => ?_
    refine hb _ H0 _ _ σ2 _ ⟨s3.x.at, E2⟩ ?_
    have l' := l.re s3.x
    have nx : ∀ ρ2 σ2 F4 H4, I (i + 1) ρ2 → S2 X.K (upd F' t (.tup [v', u'])) H0 F4 H4 σ2 ρ2 → ∃ F5 ρ5, I (i + 1) ρ5 ∧ Ex F2 F5 ∧ S2 X.K F0 H0 F5 H4 σ2 ρ5 := fun ρ2 σ2 F4 H4 q s2 => ⟨F4, ρ2, q, (hx.trans x3.f).trans s2.x.f, s2.on s3.x⟩
    exact ⟨nx, l'.rt, l'.rl, l'.nx, nx, l'.ex, l'.ro⟩
  · have ei : i = min xs.length ys.length := by omega
    refine .inl ⟨⟨vs, ws, qa, qb, ?_⟩, l.nx ρ' σ' F' H' (hd ρ' (ei ▸ hI)) s'⟩
    rw [i1.len, i2.len]
    omega
end
end PD

set_option maxHeartbeats 4000000
namespace PD
open PySem L2
/-! a text times a number -/
def repS (z : Str) (n : Nat) : Str := ⟨(List.replicate n z.cps).foldl (· ++ ·) #[]⟩
theorem repS_go (a : Array Nat) : ∀ (n : Nat) (acc : Array Nat), ((List.replicate n a).foldl (· ++ ·) acc).toList = acc.toList ++ (List.replicate n a.toList).flatten
  | 0, acc => by simp
  | n + 1, acc => by rw [List.replicate_succ, List.foldl_cons, repS_go a n, List.replicate_succ, List.flatten_cons, Array.toList_append, List.append_assoc]
theorem repS_cs (z : Str) (n : Nat) : (repS z n).cps.toList = (List.replicate n z.cps.toList).flatten := (repS_go _ n #[]).trans (by simp)
variable {X : Cx} {W : WX} {ex : Addr → Prop} {ρ : List Sl} {a b : Expr} {pos : Pos}
theorem op_repS : OpR X (binaryOp .Mult) (fun x y H Q => ∃ z k, x = .str z ∧ y = .int k ∧ 2 ≤ k ∧ k ≤ 1000 ∧ 1 ≤ z.length ∧ z.length ≤ 100 ∧ Q (.str (repS z k.toNat)) H) := by
  intro pins s σ H x y v u Q I rx ry h
  obtain ⟨z, k, rfl, rfl, h1, h2, h3, h4, q⟩ := h
  obtain ⟨t, rfl⟩ := rx
  obtain ⟨t', rfl⟩ := ry
  have hl : z.length * k.toNat ≤ 100 * 1000 := Nat.mul_le_mul h4 (by omega)
  have hb : ¬ ((z.length : Int) > (2 ^ 63 - 1) / k) := by
    intro hq
    have h5 : (2 ^ 63 - 1 : Int) / 1000 ≤ (2 ^ 63 - 1) / k := by
      refine Int.le_ediv_of_mul_le (by omega) ?_
      have : (2 ^ 63 - 1 : Int) / 1000 * k ≤ (2 ^ 63 - 1) / 1000 * 1000 := Int.mul_le_mul_of_nonneg_left h2 (by decide)
      omega
    have h6 : (100 : Int) < (2 ^ 63 - 1) / 1000 := by decide
    omega
  have hs : (k == 1 || z.length == 0) = false := by
    have e1 : (k == 1) = false := by simp; omega
    have e2 : (z.length == 0) = false := by simp; omega
    rw [e1, e2]; rfl
  have hsl : ¬ z.length * k.toNat > sizeLine := fun hq => by
    have h7 : 100 * 1000 ≤ sizeLine := by decide
    omega
  refine P.mul_str (by
    have e1 : decide (k < -2 ^ 63) = false := decide_eq_false (by omega)
    have e2 : decide (k ≥ 2 ^ 63) = false := decide_eq_false (by omega)
    rw [e1, e2]; rfl) (fun _ _ => hb) (fun _ _ => decide_eq_false hsl) ?_
  rw [if_neg (by omega), hs, if_neg Bool.false_ne_true]
  refine ⟨?_, ⟨.str (repS z k.toNat), H, I.tok _, ⟨_, rfl⟩, q⟩⟩
  show (repS z k.toNat).length ≤ sizeLine
  have e : (repS z k.toNat).length = z.length * k.toNat := by
    show (repS z k.toNat).cps.size = z.cps.size * k.toNat
    rw [← Array.length_toList, repS_cs, List.length_flatten, List.map_replicate, List.sum_replicate_nat, Array.length_toList, Nat.mul_comm]
  rw [e]
  exact Nat.le_of_not_lt hsl
theorem ed_repS {z : Str} {k : Int} (ha : ED X W ex a ρ (.str z)) (hb : ED X W ex b ρ (.int k)) (h : 2 ≤ k ∧ k ≤ 1000 ∧ 1 ≤ z.length ∧ z.length ≤ 100) : ED X W ex (.BinOp a .Mult b pos) ρ (.str (repS z k.toNat)) :=
  ed_op op_repS ha hb fun v u F H Q i0 hv hu q => ⟨z, k, hv.str_eq, hu.int_eq, h.1, h.2.1, h.2.2.1, h.2.2.2, q _ F H (Ext.refl i0) (.str _)⟩
end PD

set_option maxHeartbeats 4000000
namespace PD
open PySem L2
section
variable {X : Cx} {W : WX} {ρ : List Sl} {ds : List PyData} {T : De} {body : List Stmt} {e : Expr} {pos p p0 p2 tpos : Pos} {elts : List Expr} {kk : Nat}
/-- for x in a list of one's own that the body leaves as it is -/
theorem sd_forO {j i0 : Nat} {n m : Str} {l : Addr} (I : Nat → List Sl → Prop) (hp : PassesOwn (model X.prog X.w) X.A X.env X.xe) (hc : X.calm = true) (nd : X.N.Nodup) (hN : X.N[j]? = some n) (hl : Loc X.env.scope n) (hfn : X.fn n = true ∨ X.env.scope.names.lookup n = some .local)
    (hN0 : X.N[i0]? = some m) (hv : Vis X.env.scope m) (h0 : ρ[i0]? = some (.ow l ds)) (hI0 : I 0 ρ) (hO : ∀ i ρ', I i ρ' → ρ'[i0]? = some (.ow l ds))
    (hs : ∀ i d ρ', ds[i]? = some d → I i ρ' → SDs X W body (ρ'.set j (.sh d)) { T with nx := I (i + 1), ct := I (i + 1), bk := T.nx }) (hd : ∀ ρ', I ds.length ρ' → T.nx ρ')
    (hdb : (m == ("__debug__" : Str)) = false := by decide) (hcd : (m == ("__classdict__" : Str)) = false := by decide)
    (hf : ∀ x, foldedSetIterable (.Name m p0) X.env x = pure x := by intro _; rfl) : SD X W (.For (.Name n p) (.Name m p0) body [] pos) ρ T := fun F0 H0 F H σ D s lk => by
  have at_ : ∀ {F' H' : Hp} {σ' : L2.St} {ρ' : List Sl}, S2 X.K F0 H0 F' H' σ' ρ' → ρ'[i0]? = some (.ow l ds) → σ'[i0]? = some (some (.ref l)) ∧ ∃ vs, H' l = some (.lst vs) ∧ IsAll X.K F' vs ds := fun s' q => by
    obtain ⟨o, e1, ok⟩ := s'.e.s i0 _ q
    cases o with
    | none => exact ok.elim
    | some v =>
      obtain ⟨rfl, _, _, h⟩ := ok
      exact ⟨e1, h⟩
  refine w_s (ps_for hp hc (pi_list (pe_var hN0 hv hdb hcd)) (pg_name nd hN hl hfn) pss_w hf) ?_
  obtain ⟨e1, vs, hl0, ia⟩ := at_ s h0
  refine ⟨_, e1, l, rfl, ⟨vs, SqL.of hl0⟩, fun i k σ' H' => k = ds.length - i ∧ i ≤ ds.length ∧ ∃ F' ρ', I i ρ' ∧ S2 X.K F0 H0 F' H' σ' ρ', ⟨_, rfl, Nat.zero_le _, F, ρ, hI0, s⟩, ?_⟩
  rintro i k σ' H' ⟨rfl, him, F', ρ', hI, s'⟩
  obtain ⟨e1', vs', hl', ia'⟩ := at_ s' (hO i ρ' hI)
  by_cases hi : i < ds.length
  · obtain ⟨v, hv', iv⟩ := ia'.get (List.getElem?_eq_getElem hi)
    refine .inr ⟨⟨vs', v, SqL.of hl', hv'⟩, fun σ2 H2 => ∃ F2 ρ2, I (i + 1) ρ2 ∧ S2 X.K F0 H0 F2 H2 σ2 ρ2, fun σ2 H2 ⟨F2, ρ2, a1, a2⟩ => ⟨ds.length - (i + 1), by omega, rfl, by omega, F2, ρ2, a1, a2⟩, ?_⟩
    rintro x H3 ⟨rfl, y⟩
    have ex : v = x := Option.some.inj (hv'.symm.trans (y vs' (SqL.of hl')))
    subst ex
    refine hs i _ ρ' (List.getElem?_eq_getElem hi) hI F' H0 F' H3 (σ'.set j (some v)) _ ⟨s'.x.at, s'.e.set (s := .sh _) iv rfl⟩ ?_
    have l' := lk.re s'.x
    have nx : ∀ ρ2 σ2 F2 H2, I (i + 1) ρ2 → S2 X.K F' H0 F2 H2 σ2 ρ2 → ∃ F3 ρ3, I (i + 1) ρ3 ∧ S2 X.K F0 H0 F3 H2 σ2 ρ3 := fun ρ2 σ2 F2 H2 q s2 => ⟨F2, ρ2, q, s2.on s'.x⟩
    exact ⟨nx, l'.rt, l'.rl, l'.nx, nx, l'.ex, l'.ro⟩
  · have ei : i = ds.length := by omega
    refine .inl ⟨⟨vs', SqL.of hl', by rw [ia'.len]; omega⟩, lk.nx ρ' σ' F' H' (hd ρ' (ei ▸ hI)) s'⟩
/-- for i, x in enumerate(a list that stands still) -/
theorem sd_enum {f : List Sl → PyData → List Sl → Prop} (I : Nat → List Sl → Prop) (hp : PassesOwn (model X.prog X.w) X.A X.env X.xe) (hc : X.calm = true) (g : GU X (.Tuple elts kk tpos) f) (hg : Gl X ("enumerate" : Str)) (hm : X.mg ("enumerate" : Str) = none)
    (h1 : EP' X W (fun C => T.ex C ρ) e ρ ds) (h0 : I 0 ρ)
    (hs : ∀ i d ρ1, ds[i]? = some d → I i ρ1 → ∃ ρ2, f ρ1 (.tuple [.int (i : Nat), d]) ρ2 ∧ SDs X W body ρ2 { T with nx := I (i + 1), ct := I (i + 1), bk := T.nx }) (hd : ∀ ρ', I ds.length ρ' → T.nx ρ')
    (s1 : starEach [e] X.env = [(false, eval e X.env)] := by rfl)
    (hf : ∀ x, foldedSetIterable (.Call (.Name "enumerate" p) [e] [] p2) X.env x = pure x := by intro _; rfl) : SD X W (.For (.Tuple elts kk tpos) (.Call (.Name "enumerate" p) [e] [] p2) body [] pos) ρ T := by
  obtain ⟨g1, p1, k1⟩ := g
  refine fun F0 H0 F H σ D s l => w_s (ps_for hp hc (pi_enum hg hm (pa_cons pe_w pa_nil s1) s1) p1 pss_w hf) (h1 H0 F H σ _ s.e (l.xc s) fun a vs F1 H1 x1 hr1 i1 => ?_)
  have s4 := s.go x1
  have ra : ∀ F' H', Ex F1 F' → Ex F' H' → Ex H0 H' → SqL X.K H' a vs := fun F' H' y z u => by
    rcases hr1 with hr | hr
    · exact u.sql hr
    · exact (y.trans z).sql hr
  refine ⟨a, vs, rfl, ra F1 H1 (Ex.refl _) s4.e.i s4.e.b, fun i m σ' H' => m = ds.length - i ∧ i ≤ ds.length ∧ ∃ F' ρ', I i ρ' ∧ Ex F1 F' ∧ S2 X.K F0 H0 F' H' σ' ρ', ⟨_, rfl, Nat.zero_le _, F1, ρ, h0, Ex.refl F1, s4⟩, ?_⟩
  rintro i m σ' H' ⟨rfl, him, F', ρ', hI, hx, s'⟩
  have qa := ra F' H' hx s'.e.i s'.e.b
  by_cases hi : i < ds.length
  · obtain ⟨v, hv, iv⟩ := i1.get (List.getElem?_eq_getElem hi)
    refine .inr ⟨⟨vs, v, qa, hv⟩, fun σ2 H2 => ∃ F2' ρ2, I (i + 1) ρ2 ∧ Ex F1 F2' ∧ S2 X.K F0 H0 F2' H2 σ2 ρ2, fun σ2 H2 ⟨F2', ρ2, a1, a2, a3⟩ => ⟨ds.length - (i + 1), by omega, rfl, by omega, F2', ρ2, a1, a2, a3⟩, ?_⟩
    rintro x H3 ⟨t, v', rfl, nt, rfl, fa⟩
    have ev : v' = v := Option.some.inj ((fa vs qa).symm.trans hv)
    subst ev
    have x3 : Ext F' H' (upd F' t (.tup [.int (i : Nat), v'])) (upd H' t (.tup [.int (i : Nat), v'])) := Ext.made s'.e.i nt
    have s3 := s'.go x3
    obtain ⟨ρ2, hf2, hb⟩ := hs i _ ρ' (List.getElem?_eq_getElem hi) hI
    have iv3 := iv.mono (hx.trans x3.f)
    refine k1 ρ' _ ρ2 hf2 H0 _ _ σ' (.ref t) _ s3.e (.tup (SqT.of upd_same) (.cons (.int _) (.cons iv3 .nil))) fun σ2 E2 => ?_
    refine hb _ H0 _ _ σ2 _ ⟨s3.x.at, E2⟩ ?_
    have l' := l.re s3.x
    have nx : ∀ ρ2 σ2 F4 H4, I (i + 1) ρ2 → S2 X.K (upd F' t (.tup [.int (i : Nat), v'])) H0 F4 H4 σ2 ρ2 → ∃ F5 ρ5, I (i + 1) ρ5 ∧ Ex F1 F5 ∧ S2 X.K F0 H0 F5 H4 σ2 ρ5 := fun ρ2 σ2 F4 H4 q s2 => ⟨F4, ρ2, q, (hx.trans x3.f).trans s2.x.f, s2.on s3.x⟩
    exact ⟨nx, l'.rt, l'.rl, l'.nx, nx, l'.ex, l'.ro⟩
  · have ei : i = ds.length := by omega
    refine .inl ⟨⟨vs, qa, ?_⟩, l.nx ρ' σ' F' H' (hd ρ' (ei ▸ hI)) s'⟩
    rw [i1.len]
    omega
end
end PD

set_option maxHeartbeats 4000000
/-! a dict of one's own, its keys texts, its values data -/
namespace PD
open PySem L2
section
variable {K : PySem.W.Frag} {B F F' H H' : Hp}
def KvIs (K : PySem.W.Frag) (F : Hp) : List (Key × V) → List (Str × PyData) → Prop := Paired fun a b => a.1 = .inr b.1 ∧ Is K F a.2 b.2
theorem KvIs.mono (x : Ex F F') : ∀ {vs : List (Key × V)} {kvs : List (Str × PyData)}, KvIs K F vs kvs → KvIs K F' vs kvs
  | _, _, .nil => .nil
  | _, _, .cons ⟨a, b⟩ t => .cons ⟨a, b.mono x⟩ (KvIs.mono x t)
theorem KvIs.len : ∀ {vs : List (Key × V)} {kvs : List (Str × PyData)}, KvIs K F vs kvs → vs.length = kvs.length
  | _, _, .nil => rfl
  | _, _, .cons _ t => congrArg (· + 1) (KvIs.len t)
/-- what stands at a key -/
def getD' (kvs : List (Str × PyData)) (k : Str) : Option PyData := (kvs.find? fun p => decide (p.1 = k)).map (·.2)
def hasD (kvs : List (Str × PyData)) (k : Str) : Bool := kvs.any fun p => decide (p.1 = k)
def putD (kvs : List (Str × PyData)) (k : Str) (d : PyData) : List (Str × PyData) := if hasD kvs k = true then kvs.map fun p => if p.1 = k then (p.1, d) else p else kvs ++ [(k, d)]
theorem getD'_has (kvs : List (Str × PyData)) (k : Str) : (getD' kvs k).isSome = hasD kvs k := by
  unfold getD' hasD
  induction kvs with
  | nil => rfl
  | cons p r ih =>
    rw [List.find?_cons, List.any_cons]
    cases h : decide (p.1 = k) with
    | true => rfl
    | false => simpa using ih
theorem KvIs.val : ∀ {vs : List (Key × V)} {kvs : List (Str × PyData)} (k : Str), KvIs K F vs kvs → (getD' kvs k = none ∧ valV vs (.inr k) = none) ∨ ∃ d v, getD' kvs k = some d ∧ valV vs (.inr k) = some v ∧ Is K F v d
  | _, _, k, .nil => .inl ⟨rfl, rfl⟩
  | a :: _, b :: r, k, .cons ⟨h1, h2⟩ t => by
    by_cases e : b.1 = k
    · refine .inr ⟨b.2, a.2, ?_, ?_, h2⟩
      · unfold getD'; rw [List.find?_cons, decide_eq_true e]; rfl
      · rw [valV_pos (by rw [h1, e])]
    · have e2 : ¬ a.1 = .inr k := fun q => e (by rw [h1] at q; exact Sum.inr.inj q)
      rw [valV_neg e2]
      have e3 : getD' (b :: r) k = getD' r k := by unfold getD'; rw [List.find?_cons, decide_eq_false e]
      rw [e3]
      exact KvIs.val k t
theorem KvIs.any : ∀ {vs : List (Key × V)} {kvs : List (Str × PyData)} (k : Str), KvIs K F vs kvs → (vs.any fun kv => decide (kv.1 = .inr k)) = hasD kvs k
  | _, _, k, .nil => rfl
  | a :: _, b :: _, k, .cons ⟨h1, h2⟩ t => by
    have ih := KvIs.any k t
    unfold hasD at ih ⊢
    rw [List.any_cons, List.any_cons, ih]
    congr 1
    rw [h1]
    by_cases e : b.1 = k
    · rw [decide_eq_true e, decide_eq_true (by rw [e])]
    · rw [decide_eq_false e, decide_eq_false fun q => e (Sum.inr.inj q)]
theorem KvIs.repl : ∀ {vs : List (Key × V)} {kvs : List (Str × PyData)} (k : Str) {v : V} {d : PyData}, KvIs K F vs kvs → Is K F v d → KvIs K F (vs.map fun kv => if kv.1 = .inr k then (kv.1, v) else kv) (kvs.map fun p => if p.1 = k then (p.1, d) else p)
  | _, _, k, _, _, .nil, _ => .nil
  | a :: _, b :: _, k, v, d, .cons ⟨h1, h2⟩ t, i => by
    refine .cons ?_ (KvIs.repl k t i)
    dsimp only
    by_cases e : b.1 = k
    · rw [if_pos e, if_pos (by rw [h1, e])]
      exact ⟨h1, i⟩
    · rw [if_neg e, if_neg fun q => e (by rw [h1] at q; exact Sum.inr.inj q)]
      exact ⟨h1, h2⟩
theorem KvIs.snoc : ∀ {vs : List (Key × V)} {kvs : List (Str × PyData)} (k : Str) {v : V} {d : PyData}, KvIs K F vs kvs → Is K F v d → KvIs K F (vs ++ [(.inr k, v)]) (kvs ++ [(k, d)])
  | _, _, k, _, _, .nil, i => .cons ⟨rfl, i⟩ .nil
  | _ :: _, _ :: _, k, v, d, .cons h t, i => .cons h (KvIs.snoc k t i)
theorem KvIs.put {vs : List (Key × V)} {kvs : List (Str × PyData)} (k : Str) {v : V} {d : PyData} (h : KvIs K F vs kvs) (i : Is K F v d) : KvIs K F (putK vs (.inr k) v) (putD kvs k d) := by
  unfold putK putD
  rw [h.any k]
  split
  · exact h.repl k i
  · exact h.snoc k i
/-- the slot -/
def od (K : PySem.W.Frag) (l : Addr) (kvs : List (Str × PyData)) : Sl := .rg [l] fun v F H => v = .ref l ∧ ∃ vs, H l = some (.dK vs) ∧ KvIs K F vs kvs
theorem od_ok {l : Addr} {kvs : List (Str × PyData)} {vs : List (Key × V)} (hf : F l = none) (hb : B l = none) (hh : H l = some (.dK vs)) (h : KvIs K F vs kvs) : SlOk K B F H (some (.ref l)) (od K l kvs) :=
  ⟨fun F' H' x y => ⟨rfl, vs, (y l (List.mem_singleton.mpr rfl)).trans hh, h.mono x⟩, fun a m => by
    rw [List.mem_singleton.mp m]
    exact ⟨hf, hb, by rw [hh]; exact fun q => nomatch q⟩⟩
theorem En.od {σ : L2.St} {ρ : List Sl} (E : En K B F H σ ρ) {i : Nat} {l : Addr} {kvs : List (Str × PyData)} (h : ρ[i]? = some (od K l kvs)) : σ[i]? = some (some (.ref l)) ∧ F l = none ∧ B l = none ∧ ∃ vs, H l = some (.dK vs) ∧ KvIs K F vs kvs := by
  obtain ⟨o, e, ok⟩ := E.s i _ h
  cases o with
  | none => exact ok.elim
  | some v =>
    obtain ⟨q, m⟩ := ok
    obtain ⟨rfl, r⟩ := q F H (Ex.refl F) fun _ _ => rfl
    have m1 := m l (List.mem_singleton.mpr rfl)
    exact ⟨e, m1.1, m1.2.1, r⟩
/-- one's own dict is changed -/
theorem En.wrD {σ : L2.St} {ρ : List Sl} (E : En K B F H σ ρ) {i : Nat} {l : Addr} {kvs kvs' : List (Str × PyData)} {ws : List (Key × V)} (hi : ρ[i]? = some (PD.od K l kvs)) (a : KvIs K F ws kvs') :
    En K B F (upd H l (.dK ws)) σ (ρ.set i (PD.od K l kvs')) := by
  obtain ⟨e1, hf, hb, vs, hh, _⟩ := E.od hi
  refine ⟨E.i.mut hf, E.b.mut hb, fun j t e => ?_, fun x y t u b ea eb ha hb => ?_⟩
  · rcases set_at e with ⟨rfl, _, rfl⟩ | ⟨q, e⟩
    · exact ⟨_, e1, od_ok hf hb upd_same a⟩
    · obtain ⟨o2, e2, h2⟩ := E.s j t e
      refine ⟨o2, e2, h2.mut fun b hb => upd_ne fun z => ?_⟩
      rw [z] at hb
      exact q (E.d i j _ t l hi e (List.mem_singleton.mpr rfl) hb)
  · have back : ∀ (z : Nat) (s : Sl), (ρ.set i (PD.od K l kvs'))[z]? = some s → b ∈ s.fp → ∃ s2, ρ[z]? = some s2 ∧ b ∈ s2.fp := fun z s e m => by
      rcases set_at e with ⟨rfl, _, rfl⟩ | ⟨_, e⟩
      · exact ⟨_, hi, m⟩
      · exact ⟨s, e, m⟩
    obtain ⟨s1, h1, m1⟩ := back x t ea ha
    obtain ⟨s2, h2, m2⟩ := back y u eb hb
    exact E.d x y s1 s2 b h1 h2 m1 m2
end
section
variable {X : Cx} {W : WX} {ex : Addr → Prop} {ρ : List Sl} {e a b : Expr} {d : PyData} {kvs : List (Str × PyData)} {T : De} {pos p p2 spos : Pos} {n : Str} {i : Nat} {l : Addr} {k : Str}
/-- x = {} -/
theorem sd_dnew (nd : X.N.Nodup) (hN : X.N[i]? = some n) (hl : Loc X.env.scope n) (hfn : X.fn n = true ∨ X.env.scope.names.lookup n = some .local) (q : ∀ r, T.nx (ρ.set i (od X.K r [])))
    (hw : swapsWith (.Dict [] [] p2) (some (.Name n p)) pos.line X.env = pure false := by rfl) : SD X W (.Assign [.Name n p] (.Dict [] [] p2) pos) ρ T := fun F0 H0 F H σ D s lk =>
  w_s (ps_set nd hN hl pe_dnewK hw hfn) (fun r hr => by
    have x1 : Ext F H F (upd H r (.dK [])) := Ext.kept s.e.i hr
    have hF : F r = none := s.e.i.back hr
    refine lk.nx _ _ F _ (q r) ⟨s.x.trans x1, (s.e.ext x1).set_ (o := some (.ref r)) (od_ok hF (s.e.b.back hr) upd_same .nil) fun j t c ej hc ht => ?_⟩
    obtain ⟨o, _, h2⟩ := s.e.s j _ ej
    rw [List.mem_singleton.mp hc] at ht
    exact absurd hr (h2.held ht).2.2)
/-- x[k] = e -/
theorem sd_dput (hu : X.A.units + 1 < cLine) (hN : X.N[i]? = some n) (hv : Vis X.env.scope n) (hi : ρ[i]? = some (od X.K l kvs)) (h : ED X W (fun C => T.ex C ρ) e ρ d) (hk : ED X W (fun C => T.ex C ρ) a ρ (.str k)) (hz : kvs.length < 100000) (q : T.nx (ρ.set i (od X.K l (putD kvs k d))))
    (hd : (n == ("__debug__" : Str)) = false := by decide) (hcd : (n == ("__classdict__" : Str)) = false := by decide) (hs : swapsWith e (some (.Subscript (.Name n p2) a p)) pos.line X.env = pure false := by rfl) :
    SD X W (.Assign [.Subscript (.Name n p2) a p] e pos) ρ T := fun F0 H0 F H σ D s lk =>
  w_s (ps_dput hu (pe_var hN hv hd hcd) pe_w pe_w hs) (h H0 F H σ _ s.e (lk.xc s) fun v F1 H1 x1 i1 => by
    have s1 := s.go x1
    obtain ⟨e1, _, _, vs, hh, kv⟩ := s1.e.od hi
    refine ⟨_, e1, hk H0 F1 H1 σ _ s1.e (lk.xc s1) fun y F2 H2 x2 i2 => ?_⟩
    have s2 := s1.go x2
    obtain ⟨_, _, _, vs2, hh2, kv2⟩ := s2.e.od hi
    have i3 := i1.mono x2.f
    rw [i2.str_eq]
    refine ⟨l, _, rfl, DPut.k (k := .inr k) hh2 (by rw [kv2.len]; exact Nat.lt_of_lt_of_le hz (by decide)), lk.nx _ σ F2 _ q ⟨?_, s2.e.wrD hi (kv2.put k i3)⟩⟩
    exact ⟨s2.x.f, s2.x.h.mut ((s2.e.od hi).2.2.1), s2.x.i.mut ((s2.e.od hi).2.1), s2.x.n⟩)
/-- a dict that can be read -/
def EDr (X : Cx) (W : WX) (ex : Addr → Prop) (e : Expr) (ρ : List Sl) (kvs : List (Str × PyData)) : Prop := ∀ B F H σ (Q : VK), En X.K B F H σ ρ → Xc W ex F H σ → (∀ l vs F' H', Ext F H F' H' → H' l = some (.dK vs) → KvIs X.K F' vs kvs → Q (.ref l) H') → WE X e σ H Q
theorem edr_o (hN : X.N[i]? = some n) (hv : Vis X.env.scope n) (hi : ρ[i]? = some (od X.K l kvs)) (hd : (n == ("__debug__" : Str)) = false := by decide) (hcd : (n == ("__classdict__" : Str)) = false := by decide) : EDr X W ex (.Name n pos) ρ kvs := fun B F H σ Q E _ q => by
  obtain ⟨e1, _, _, vs, hh, kv⟩ := E.od hi
  exact w_e (pe_var hN hv hd hcd) ⟨_, e1, q l vs F H (Ext.refl E.i) hh kv⟩
/-- the caller's dict, as it stood -/
def bd (K : PySem.W.Frag) (kvs : List (Str × PyData)) : Sl := .rb fun v F H => ∃ l vs, v = .ref l ∧ H l = some (.dK vs) ∧ KvIs K F vs kvs
theorem edr_b (hN : X.N[i]? = some n) (hv : Vis X.env.scope n) (hi : ρ[i]? = some (bd X.K kvs)) (hd : (n == ("__debug__" : Str)) = false := by decide) (hcd : (n == ("__classdict__" : Str)) = false := by decide) : EDr X W ex (.Name n pos) ρ kvs := fun B F H σ Q E _ q => by
  obtain ⟨o, e1, ok⟩ := E.s i _ hi
  cases o with
  | none => exact ok.elim
  | some v =>
    obtain ⟨l, vs, rfl, hh, kv⟩ := ok F H (Ex.refl F) E.b
    exact w_e (pe_var hN hv hd hcd) ⟨_, e1, q l vs F H (Ext.refl E.i) hh kv⟩
/-- as an argument -/
theorem ea_rd {es : List Expr} {as : List Sl} (h : EDr X W ex e ρ kvs) (r : EA X W ex es ρ as) (hs : starEach (e :: es) X.env = (false, eval e X.env) :: starEach es X.env := by rfl) : EA X W ex (e :: es) ρ (bd X.K kvs :: as) := fun B F H σ Q E c q =>
  w_a (pa_cons pe_w pa_w hs) (h B F H σ _ E c fun l vs F1 H1 x1 h1 kv => r B F1 H1 σ _ (E.ext x1) (c.ext x1) fun vs2 F2 H2 x2 a2 => q _ F2 H2 (x1.trans x2) (.cons (fun F' H' x y => ⟨l, vs, rfl, y _ _ (x2.h _ _ h1), kv.mono (x2.f.trans x)⟩) a2))
/-- x[k] -/
theorem ed_dget (hu : X.A.units + 1 < cLine) (h : EDr X W ex a ρ kvs) (hk : ED X W ex b ρ (.str k)) (hg : getD' kvs k = some d) (hs : NoSl b := by exact fun _ _ => rfl) : ED X W ex (.Subscript a b pos) ρ d := fun B F H σ Q E c q =>
  w_e (pe_dget hu pe_w pe_w hs) (h B F H σ _ E c fun l vs F1 H1 x1 h1 kv => hk B F1 H1 σ _ (E.ext x1) (c.ext x1) fun y F2 H2 x2 i2 => by
    rcases kv.val k with ⟨g, _⟩ | ⟨d', v, g, hv, iv⟩
    · rw [hg] at g; cases g
    · rw [hg] at g
      cases g
      rw [i2.str_eq]
      refine ⟨l, v, rfl, ?_, q v F2 H2 (x1.trans x2) (iv.mono x2.f)⟩
      have := DGet.k (k := .inr k) (x2.h _ _ h1)
      rw [hv] at this
      exact this)
theorem dget_of {l : Addr} {vs : List (Key × V)} {H : Hp} {F : Hp} (h : H l = some (.dK vs)) (kv : KvIs X.K F vs kvs) : ∃ o, DGet H l (.str k) o ∧ o.isSome = hasD kvs k := by
  refine ⟨_, DGet.k (k := .inr k) h, ?_⟩
  rw [← getD'_has]
  rcases kv.val k with ⟨g, hv⟩ | ⟨d', v, g, hv, _⟩ <;> rw [g, hv] <;> rfl
/-- k in x -/
theorem et_din (hu : X.A.units + 1 < cLine) (hk : ED X W ex a ρ (.str k)) (h : EDr X W ex b ρ kvs) (hm : behindInMarks .In b = false := by rfl) : ET X W ex (.Compare a [.In] [b] pos) ρ (hasD kvs k) := fun B F H σ Q E c q =>
  w_t (pt_cmp (pc_din hu pe_w pe_w) hm) (hk B F H σ _ E c fun y F1 H1 x1 i1 => h B F1 H1 σ _ (E.ext x1) (c.ext x1) fun l vs F2 H2 x2 h2 kv => by
    obtain ⟨o, g, e⟩ := dget_of (k := k) h2 kv
    rw [i1.str_eq]
    exact ⟨l, o, rfl, g, _, rfl, e ▸ q F2 H2 (x1.trans x2)⟩)
theorem et_dnin (hu : X.A.units + 1 < cLine) (hk : ED X W ex a ρ (.str k)) (h : EDr X W ex b ρ kvs) (hm : behindInMarks .NotIn b = false := by rfl) : ET X W ex (.Compare a [.NotIn] [b] pos) ρ (!hasD kvs k) := fun B F H σ Q E c q =>
  w_t (pt_cmp (pc_dnotin hu pe_w pe_w) hm) (hk B F H σ _ E c fun y F1 H1 x1 i1 => h B F1 H1 σ _ (E.ext x1) (c.ext x1) fun l vs F2 H2 x2 h2 kv => by
    obtain ⟨o, g, e⟩ := dget_of (k := k) h2 kv
    rw [i1.str_eq]
    exact ⟨l, o, rfl, g, _, rfl, e ▸ q F2 H2 (x1.trans x2)⟩)
theorem ed_din (hu : X.A.units + 1 < cLine) (hk : ED X W ex a ρ (.str k)) (h : EDr X W ex b ρ kvs) (hm : behindInMarks .In b = false := by rfl) : ED X W ex (.Compare a [.In] [b] pos) ρ (.bool (hasD kvs k)) := fun B F H σ Q E c q =>
  w_e (pe_cmp (pc_din hu pe_w pe_w) hm) (hk B F H σ _ E c fun y F1 H1 x1 i1 => h B F1 H1 σ _ (E.ext x1) (c.ext x1) fun l vs F2 H2 x2 h2 kv => by
    obtain ⟨o, g, e⟩ := dget_of (k := k) h2 kv
    rw [i1.str_eq]
    exact ⟨l, o, rfl, g, e ▸ q _ F2 H2 (x1.trans x2) (.bl _)⟩)
end
end PD

set_option maxHeartbeats 4000000
namespace PD
open PySem L2
section
variable {X : Cx} {W : WX} {ρ : List Sl} {e a : Expr} {d : PyData} {ds : List PyData} {T : De} {pos p p2 : Pos} {n : Str} {i : Nat} {r : Addr} {k : Int} {j : Nat}
theorem ix_nat {n j : Nat} (h : j < n) : ixN n (j : Int) = some j := by
  unfold ixN
  rw [if_pos (by omega), if_pos (by omega), Int.toNat_natCast]
/-- x[k] = e, x a list of one's own -/
theorem sd_setix (hN : X.N[i]? = some n) (hv : Vis X.env.scope n) (hi : ρ[i]? = some (.ow r ds)) (h : ED X W (fun C => T.ex C ρ) e ρ d) (hk : ED X W (fun C => T.ex C ρ) a ρ (.int k)) (hix : ixN ds.length k = some j) (q : T.nx (ρ.set i (.ow r (ds.set j d))))
    (hd : (n == ("__debug__" : Str)) = false := by decide) (hcd : (n == ("__classdict__" : Str)) = false := by decide) (h1 : swapsWithSole [.Subscript (.Name n p2) a p] e pos.line X.env = pure false := by rfl) (h2 : swappedStores [.Subscript (.Name n p2) a p] e X.env = pure none := by rfl)
    (ha : ∀ v, assign (.Subscript (.Name n p2) a p) X.env v = (do
      let ov ← holding [v] (eval (.Name n p2) X.env)
      let iv ← holding [v, ov] (eval a X.env)
      standAt p
      holding [v, ov, iv] (setItem ov iv v)
      release [v, ov, iv] []) := by intro _; rfl)
    (h3 : (assignEach [.Subscript (.Name n p2) a p] X.env).map (·.2) = [assign (.Subscript (.Name n p2) a p) X.env] := by rfl) : SD X W (.Assign [.Subscript (.Name n p2) a p] e pos) ρ T := fun F0 H0 F H σ D s lk =>
  w_s (ps_asg pe_w (pg_sub (pe_var hN hv hd hcd) pe_w set_list ha) h1 h2 h3) (h H0 F H σ _ s.e (lk.xc s) fun v F1 H1 x1 i1 => by
    have s1 := s.go x1
    have rd : ∀ {F' H' : Hp}, S2 X.K F0 H0 F' H' σ ρ → σ[i]? = some (some (.ref r)) ∧ ∃ vs, H' r = some (.lst vs) ∧ IsAll X.K F' vs ds ∧ F' r = none ∧ H0 r = none := fun s' => by
      obtain ⟨o, e1, ok⟩ := s'.e.s i _ hi
      cases o with
      | none => exact ok.elim
      | some v =>
        obtain ⟨rfl, hf, hb, vs, hh, ia⟩ := ok
        exact ⟨e1, vs, hh, ia, hf, hb⟩
    refine ⟨_, (rd s1).1, hk H0 F1 H1 σ _ s1.e (lk.xc s1) fun y F2 H2 x2 i2 => ?_⟩
    have s2 := s1.go x2
    obtain ⟨_, vs, hh, ia, hf, hb⟩ := rd s2
    refine ⟨r, vs, k, j, rfl, i2.int_eq, hh, by rw [ia.len]; exact hix, lk.nx _ σ F2 _ q ⟨⟨s2.x.f, s2.x.h.mut hb, s2.x.i.mut hf, s2.x.n⟩, s2.e.wr hi (IsAll.set j ia (i1.mono x2.f))⟩⟩)
end
section
variable {X : Cx} {W : WX} {ex : Addr → Prop} {ρ : List Sl} {kvs : List (Str × PyData)} {pos : Pos} {n : Str} {l : Addr} {sc : Scope} {ns : List Str}
/-! dicts by the def's names -/
theorem edo_v (lo : ns.all (locB sc) = true) (i : Nat) (hN : X.N[i]? = some n := by rfl) (hn : ns[i]? = some n := by rfl) (hs : ρ[i]? = some (od X.K l kvs) := by rfl) (hsc : X.env.scope = sc := by rfl) (hd : (n == ("__debug__" : Str)) = false := by decide) (hcd : (n == ("__classdict__" : Str)) = false := by decide) : EDr X W ex (.Name n pos) ρ kvs :=
  edr_o hN (by rw [hsc]; exact vis_of (loc_of lo i hn)) hs hd hcd
theorem edb_v (lo : ns.all (locB sc) = true) (i : Nat) (hN : X.N[i]? = some n := by rfl) (hn : ns[i]? = some n := by rfl) (hs : ρ[i]? = some (bd X.K kvs) := by rfl) (hsc : X.env.scope = sc := by rfl) (hd : (n == ("__debug__" : Str)) = false := by decide) (hcd : (n == ("__classdict__" : Str)) = false := by decide) : EDr X W ex (.Name n pos) ρ kvs :=
  edr_b hN (by rw [hsc]; exact vis_of (loc_of lo i hn)) hs hd hcd
end
section
variable {X : Cx} {W : WX} {ex : Addr → Prop} {ρ : List Sl} {kvs : List (Str × PyData)} {pos : Pos} {n : Str} {l : Addr} {s : Shared} {H : Hp} {scope : Scope} {C : Addr} {cl : List (Str × Addr)} {fp : List Addr}
/-! .. in a block -/
theorem edo_b (i : Nat) (hN : X.N[i]? = some n := by rfl) (hv : scope.names.lookup n = some .local ∨ scope.names.lookup n = some .cell ∨ scope.names.lookup n = some .free := by first | exact .inl rfl | exact .inr (.inr rfl) | exact .inr (.inl rfl)) (hs : ρ[i]? = some (od X.K l kvs) := by rfl)
    (hd : (n == ("__debug__" : Str)) = false := by decide) (hcd : (n == ("__classdict__" : Str)) = false := by decide) : EDr (X.blk s H scope (compEnvC scope cl C X.env) fp) W ex (.Name n pos) ρ kvs := edr_o hN (vis_rel (env := X.env) hv) hs hd hcd
theorem edb_b (i : Nat) (hN : X.N[i]? = some n := by rfl) (hv : scope.names.lookup n = some .local ∨ scope.names.lookup n = some .cell ∨ scope.names.lookup n = some .free := by first | exact .inl rfl | exact .inr (.inr rfl) | exact .inr (.inl rfl)) (hs : ρ[i]? = some (bd X.K kvs) := by rfl)
    (hd : (n == ("__debug__" : Str)) = false := by decide) (hcd : (n == ("__classdict__" : Str)) = false := by decide) : EDr (X.blk s H scope (compEnvC scope cl C X.env) fp) W ex (.Name n pos) ρ kvs := edr_b hN (vis_rel (env := X.env) hv) hs hd hcd
end
end PD

set_option maxHeartbeats 4000000
namespace PD
open PySem PySem.Spec PyProof.Rows L2
/-! ### try, where nothing is raised -/
section
variable {X : Cx} {W : WX} {body : List Stmt} {h0 : ExceptHandler} {hds : List ExceptHandler} {pos : Pos} {ρ : List Sl} {T : De} {tb : WX → TS}
theorem ps_tryQ (hf : X.env.frame = some X.env.locals)
    (hb : ∀ (W : WX) (pn : List (Addr × Obj)) (xe : Value → Shared → Prop), L2N.Takes (X.tr pn xe) W → PassesOwn (model X.prog X.w) X.A X.env xe → PSs (X.tr pn xe) body (tb W)) :
    PS X (.Try body (h0 :: hds) [] [] pos) (fun D σ H => tb (fun _ _ _ _ => False) D σ H) := by
  refine ⟨fun pins s σ H D I q0 => ?_⟩
  have ok := I.ok
  refine wpAny_Try_except ?_
  let catch_ : Value → Shared → Prop := fun e s1 => wpAny (model X.prog X.w) X.A (noteFrame e X.env) (fun _ s2 => wpAny (model X.prog X.w) X.A (setFlight e none) (fun _ s3 => wpAny (model X.prog X.w) X.A (handleBy e X.env (h0 :: hds)) (SP X pins D) X.xe s3) X.xe s2) X.xe s1
  refine wpAny_mono ((hb (fun _ _ _ _ => False) (X.pn ++ pins) catch_ (fun u s' xx => ?_) PassesOwn.looking).run [] s σ H D (I.toTry _) q0) (fun f s1 hsp => ?_) (fun e s1 he => he)
  · obtain ⟨a, B, sI, pins', σ', H', cls, d, rfl, J', nb, up, sky, na, os, ag, wish⟩ := xx
    exact wish.elim
  · cases f with
    | next => obtain ⟨σ', H', J', q⟩ := hsp; exact wpAny_execs_nil ⟨σ', H', J'.ofTry ok, q⟩
    | brk => obtain ⟨σ', H', J', q⟩ := hsp; exact ⟨σ', H', J'.ofTry ok, q⟩
    | cont => obtain ⟨σ', H', J', q⟩ := hsp; exact ⟨σ', H', J'.ofTry ok, q⟩
    | ret u => obtain ⟨v, σ', H', J', r, q⟩ := hsp; exact ⟨v, σ', H', J'.ofTry ok, r, q⟩
theorem sd_tryQ (hf : X.env.frame = some X.env.locals)
    (hb : ∀ (W0 : WX) (pn : List (Addr × Obj)) (xe : Value → Shared → Prop), L2N.Takes (X.tr pn xe) W0 → PassesOwn (model X.prog X.w) X.A X.env xe → SDs (X.tr pn xe) W0 body ρ { T with ex := fun _ _ => False }) : SD X W (.Try body (h0 :: hds) [] [] pos) ρ T := fun F0 H0 F H σ D s l =>
  w_s (ps_tryQ (tb := fun W0 D σ H => ∀ pn xe, L2N.Takes (X.tr pn xe) W0 → PassesOwn (model X.prog X.w) X.A X.env xe → WSs (X.tr pn xe) body D σ H) hf (fun W0 pn xe tk po => ⟨fun pins s1 σ1 H1 D1 I1 q => q pn xe tk po pins s1 I1⟩))
    fun pn xe tk po => hb _ pn xe tk po F0 H0 F H σ D s ⟨l.nx, l.rt, l.rl, l.bk, l.ct, fun C ρ1 σ1 F1 H1 e s1 => e.elim, l.ro⟩
end
/-! ### kinds -/
def tyN : PyData → String
  | .none => "NoneType"
  | .bool _ => "bool"
  | .int _ => "int"
  | .str _ => "str"
  | .list _ => "list"
  | .tuple _ => "tuple"
  | _ => ""
theorem Is.ty {K : PySem.W.Frag} {F H : Hp} (i : Ex F H) : ∀ {v : V} {d : PyData}, Is K F v d → TyX K H v (.type (tyN d))
  | _, _, .non => .base .non
  | _, _, .bl b => .base (.bl b)
  | _, _, .int n => .base (.int n)
  | _, _, .str x => .base (.str x)
  | _, _, .lst h _ => .base (.lst (i _ _ h))
  | _, _, .tup h _ => by
    rcases h with (h | ⟨o, h⟩) | ⟨o, _, _, h, c, _⟩
    · exact .base (.tup (i _ _ h))
    · exact .fTuple (i _ _ h)
    · exact .kTuple h (by rw [c])
section
variable {X : Cx} {W : WX} {ex : Addr → Prop} {e a b o : Expr} {es : List Expr} {ρ : List Sl} {d x y : PyData} {ds xs ys : List PyData} {pos p p2 apos : Pos} {T : De}
/-- isinstance(e, T), T a class of the language -/
theorem ed_kind {c : Str} {t : String} {k : Bool} (ha : ED X W ex a ρ d) (hk : kitB (tyN d) t = some k) (hg : Gl X ("isinstance" : Str)) (hm : X.mg ("isinstance" : Str) = none) (hg2 : Gl X c) (hm2 : X.mg c = none) (hv : bootBuiltins c = some (.type t)) (hn : c ≠ "__name__" := by decide) (hdb : (c == ("__debug__" : Str)) = false := by decide)
    (hs : starEach [a, .Name c p2] X.env = (false, eval a X.env) :: starEach [.Name c p2] X.env := by rfl) (hs2 : starEach [.Name c p2] X.env = [(false, eval (.Name c p2) X.env)] := by rfl) (hz : (backTo pos (starEach [.Name c p2] X.env)).any (·.1) = false := by rfl) : ED X W ex (.Call (.Name "isinstance" p) [a, .Name c p2] [] pos) ρ (.bool k) := fun B F H σ Q E c q =>
  w_e (pe_callB call_isi hg hm (by decide +kernel) (pa_cons pe_w (pa_cons (pe_bltn (v := .ty t) hg2 hm2 hv rfl hn hdb) pa_nil hs2) hs) (by decide) (by decide) hs hz)
    (ha B F H σ _ E c fun v F1 H1 x1 i1 => ⟨v, .ty t, .type (tyN d), .type t, k, rfl, .ty t, i1.ty x1.i, kit_ty hk, q _ F1 H1 x1 (.bl _)⟩)
/-! ### tuples -/
theorem ed_cutT {lo hi : Option Expr} {l u : Option Int} (ha : ED X W ex a ρ (.tuple ds)) (hl : EO X W ex lo ρ l) (hu : EO X W ex hi ρ u) (hw : ¬ (HT.sIx ds.length 0 l = 0 ∧ HT.sIx ds.length ds.length u = ds.length)) : ED X W ex (.Subscript a (.Slice lo hi none p2) pos) ρ (.tuple (cutD ds l u)) := fun B F H σ Q E c q => by
  obtain ⟨tl, pl, kl⟩ := po_w hl
  obtain ⟨tu, pu, ku⟩ := po_w hu
  exact w_e (pe_slice sl_tup pe_w pl pu) (ha B F H σ _ E c fun v F1 H1 x1 i1 => kl B F1 H1 σ _ (E.ext x1) (c.ext x1) fun F2 H2 x2 => ku B F2 H2 σ _ ((E.ext x1).ext x2) ((c.ext x1).ext x2) fun F3 H3 x3 => by
    have x23 := x2.trans x3
    have i3 := i1.mono x23.f
    cases i3 with
    | tup h1 a1 =>
    rename_i t0 vs0
    refine ⟨t0, vs0, rfl, x23.i.sqt h1, by rw [a1.len]; exact hw, fun r hr => ?_⟩
    have x4 := Ext.made (o := .tup (cutV vs0 l u)) x23.i hr
    exact q _ _ _ ((x1.trans x23).trans x4) (.tup (SqT.of upd_same) ((cut_all l u a1).mono x4.f)))
theorem ed_catT (ha : ED X W ex a ρ (.tuple xs)) (hb : ED X W ex b ρ (.tuple ys)) (hx : xs ≠ []) (h : xs.length + ys.length ≤ 100000) : ED X W ex (.BinOp a .Add b pos) ρ (.tuple (xs ++ ys)) :=
  ed_op op_catT ha hb fun v u F H Q i0 hv hu q => by
    cases hv with
    | tup h1 a1 =>
    cases hu with
    | tup h2 a2 =>
    rename_i p1 v1 p2 v2
    refine ⟨p1, p2, v1, v2, rfl, rfl, i0.sqt h1, i0.sqt h2, fun z => hx (by have := a1.len; rw [z] at this; exact List.length_eq_zero_iff.mp this.symm), by rw [a1.len, a2.len]; exact sz_le h, fun z => ?_, fun _ r hr => ?_⟩
    · have : ys = [] := by have := a2.len; rw [z] at this; exact List.length_eq_zero_iff.mp this.symm
      subst this
      rw [List.append_nil] at q
      exact q _ F H (Ext.refl i0) (.tup h1 a1)
    · have x4 := Ext.made (o := .tup (v1 ++ v2)) i0 hr
      exact q _ _ _ x4 (.tup (SqT.of upd_same) ((a1.append a2).mono x4.f))
/-! ### comprehensions over a tuple -/
section
variable {scope : Scope} {n : Str} {j : Nat} {iter elt : Expr} {ifs : List Expr} {tpos : Pos}
theorem el_lcT {α : Type} (L : LcOk X scope ifs n j iter) (xs : List α) (q : α → PyData) (bt : α → Bool) (g : α → PyData) (h : ED X W ex iter ρ (.tuple (xs.map q))) (hz : xs.length ≤ 50000)
    (hT : ∀ x ∈ xs, Blk X scope fun Y => TsD Y ifs ((ρ.set j .un).set j (.sh (q x))) (bt x)) (hG : ∀ x ∈ xs, bt x = true → Blk X scope fun Y => ED Y noW noX elt ((ρ.set j .un).set j (.sh (q x))) (g x)) :
    EL X W ex (.ListComp elt [⟨.Name n tpos, iter, ifs, 0⟩] scope pos) ρ ((xs.filter bt).map g) := fun B F H σ Q E c k =>
  w_e (pe_lc (own := [(n, j)]) L.calm L.nd (pi_tup pe_w) L.blk (lc_tgt L) (fun _ _ _ _ _ => pts_wb L.one) (fun _ _ _ _ _ => pe_wb) L.fset) (by
    refine h B F H σ _ E c fun v F1 H1 x1 i1 => ?_
    cases i1 with
    | tup hr i1 =>
    rename_i r vs
    have E1 := E.ext x1
    have hsq : ∀ H', Ex H1 H' → SqT X.K H' r vs := fun H' y => (x1.i.trans y).sqt hr
    refine ⟨r, rfl, ⟨vs, hsq H1 (Ex.refl H1)⟩, fun D hD => lc_tup (xs := vs) (fun i H' => Cm X.K F1 H1 D (((xs.take i).filter bt).map g) H') ⟨F1, [], Ext.kept x1.i hD, x1.i.back hD, upd_same, .nil⟩ (fun i H' _ ⟨F', acc, y, _⟩ => hsq H' y.h) ?_ ?_⟩
    · intro i v H' hi hc
      obtain ⟨d', hd, id'⟩ := i1.get' hi
      rw [List.getElem?_map] at hd
      cases hx : xs[i]? with
      | none => rw [hx] at hd; cases hd
      | some x =>
        rw [hx] at hd
        cases hd
        exact lc_run (wi := iTup X.K (WE X iter)) (J := Itt X.K r) (Q := Q) xs q bt g hz E1 hT hG hD (fun H' ⟨F', acc, y, f0, h0, ia⟩ => k D acc F' H' (x1.trans y) (x1.h.back hD) f0 h0 ia) i x v H' hx id' hc
    · rintro H' ⟨F', acc, y, f0, h0, ia⟩
      rw [i1.len, List.length_map, List.take_length] at ia
      exact k D acc F' H' (x1.trans y) (x1.h.back hD) f0 h0 ia)
end
/-! ### texts -/
theorem el_split {z w : Str} (ho : ED X W ex o ρ (.str z)) (ha : ED X W ex a ρ (.str w)) (hw : (w.length == 0) = false) (hz : z.length ≤ 100000)
    (hs : starEach [a] X.env = [(false, eval a X.env)] := by rfl) (hb : attributeBase o "split" X.env (eval o X.env) = eval o X.env := by rfl) (hl : (apos.endLine == pos.line) = true := by rfl) : EL X W ex (.Call (.Attribute o "split" apos) [a] [] pos) ρ ((Txt.split z w).map .str) := fun B F H σ Q E c q =>
  w_e (pe_split pe_w pe_w hs hb hl) (ho B F H σ _ E c fun v F1 H1 x1 i1 => ⟨⟨z, i1.str_eq⟩, ha B F1 H1 σ _ (E.ext x1) (c.ext x1) fun u F2 H2 x2 i2 => by
    refine ⟨z, w, i1.str_eq, by rw [i2.str_eq], hw, Nat.le_trans (Nat.add_le_add_right hz 2) (by decide), fun r hr => ?_⟩
    have x4 := Ext.kept (o := .lst ((Txt.split z w).map V.str)) x2.i hr
    have x24 := (x1.trans x2).trans x4
    exact q r _ F2 _ x24 ((x1.trans x2).h.back hr) (x2.i.back hr) upd_same (IsAll.strs _)⟩)
theorem ed_part {z w : Str} (ho : ED X W ex o ρ (.str z)) (ha : ED X W ex a ρ (.str w)) (hw : (w.length == 0) = false) (hz : z.length ≤ 100000)
    (hs : starEach [a] X.env = [(false, eval a X.env)] := by rfl) (hb : attributeBase o "partition" X.env (eval o X.env) = eval o X.env := by rfl) (hl : (apos.endLine == pos.line) = true := by rfl) : ED X W ex (.Call (.Attribute o "partition" apos) [a] [] pos) ρ (.tuple [.str (Txt.partition z w).1, .str (Txt.partition z w).2.1, .str (Txt.partition z w).2.2]) := fun B F H σ Q E c q =>
  w_e (pe_partition pe_w pe_w hs hb hl) (ho B F H σ _ E c fun v F1 H1 x1 i1 => ⟨⟨z, i1.str_eq⟩, ha B F1 H1 σ _ (E.ext x1) (c.ext x1) fun u F2 H2 x2 i2 => by
    refine ⟨z, w, i1.str_eq, by rw [i2.str_eq], hw, sz_le hz, fun r hr => ?_⟩
    have x4 := Ext.made (o := .tup [V.str (Txt.partition z w).1, V.str (Txt.partition z w).2.1, V.str (Txt.partition z w).2.2]) x2.i hr
    exact q _ _ _ ((x1.trans x2).trans x4) (.tup (SqT.of upd_same) (.cons (.str _) (.cons (.str _) (.cons (.str _) .nil))))⟩)
theorem ed_intS {z : Str} {n : Int} (ha : ED X W ex a ρ (.str z)) (hn : PySem.intText? z = some n) (hz : z.length ≤ 640) (hg : Gl X ("int" : Str)) (hm : X.mg ("int" : Str) = none) (hs : starEach [a] X.env = [(false, eval a X.env)] := by rfl) : ED X W ex (.Call (.Name "int" p) [a] [] pos) ρ (.int n) := fun B F H σ Q E c q =>
  w_e (pe_callTy call_int_str hg hm (by decide +kernel) (pa_cons pe_w pa_nil hs) (by decide) (by decide) hs (by rfl)) (ha B F H σ _ E c fun v F1 H1 x1 i1 => ⟨z, n, by rw [i1.str_eq], hn, hz, q _ F1 H1 x1 (.int _)⟩)
end
end PD

set_option maxHeartbeats 4000000
/-! things of one's own: told, kept, lent, changed -/
namespace PD
open PySem PySem.Spec PyProof.Rows L2
abbrev OP := V → List Addr → Hp → Hp → Prop
/-- places that are new and nobody's yet -/
def New (H F' H' : Hp) (fp : List Addr) : Prop := ∀ a ∈ fp, H a = none ∧ F' a = none ∧ H' a ≠ none
/-- what is told stays where the places that it holds stay -/
def Stab (P : OP) : Prop := ∀ v fp F H F' H', P v fp F H → Ex F F' → (∀ a ∈ fp, H' a = H a) → P v fp F' H'
def EOw (X : Cx) (W : WX) (ex : Addr → Prop) (e : Expr) (ρ : List Sl) (P : OP) : Prop := ∀ B F H σ (Q : VK), En X.K B F H σ ρ → Xc W ex F H σ → (∀ v fp F' H', Ext F H F' H' → New H F' H' fp → P v fp F' H' → Q v H') → WE X e σ H Q
def og (fp : List Addr) (P : OP) : Sl := .rg fp fun v F H => P v fp F H
section
variable {K : PySem.W.Frag} {B F F' H H' : Hp} {σ : L2.St} {ρ : List Sl} {P : OP}
theorem og_ok {v : V} {fp : List Addr} (st : Stab P) (p : P v fp F H) (h : ∀ a ∈ fp, F a = none ∧ B a = none ∧ H a ≠ none) : SlOk K B F H (some v) (og fp P) :=
  ⟨fun F' H' x y => st v fp F H F' H' p x y, h⟩
theorem En.og {i : Nat} {fp : List Addr} (E : En K B F H σ ρ) (h : ρ[i]? = some (og fp P)) : ∃ v, σ[i]? = some (some v) ∧ P v fp F H ∧ ∀ a ∈ fp, F a = none ∧ B a = none ∧ H a ≠ none := by
  obtain ⟨o, e, ok⟩ := E.s i _ h
  cases o with
  | none => exact ok.elim
  | some v => exact ⟨v, e, ok.1 F H (Ex.refl F) fun _ _ => rfl, ok.2⟩
theorem En.newOg (E : En K B F H σ ρ) (x : Ext F H F' H') {i : Nat} {v : V} {fp : List Addr} (st : Stab P) (p : P v fp F' H') (n : New H F' H' fp) : En K B F' H' (σ.set i (some v)) (ρ.set i (PD.og fp P)) :=
  (E.ext x).set_ (o := some v) (og_ok st p fun a ha => ⟨(n a ha).2.1, E.b.back (n a ha).1, (n a ha).2.2⟩) fun j t b ej hb ht => by
    obtain ⟨o, _, h2⟩ := E.s j _ ej
    exact absurd (n b hb).1 (h2.held ht).2.2
/-- a place of one's own is changed; the slot tells what stands there then -/
theorem En.poke {i : Nat} {s : Sl} (E : En K B F H σ ρ) {fp : List Addr} (hi : ρ[i]? = some (PD.og fp P)) {l : Addr} (hl : l ∈ fp) (u : HO) (hs : ∀ v, σ[i]? = some (some v) → SlOk K B F (upd H l u) (some v) s) (hf : ∀ a ∈ s.fp, a ∈ fp) : En K B F (upd H l u) σ (ρ.set i s) := by
  obtain ⟨v, e1, _, q⟩ := E.og hi
  have ql := q l hl
  refine ⟨E.i.mut ql.1, E.b.mut ql.2.1, fun j t e => ?_, fun x y t w b ea eb ha hb => ?_⟩
  · rcases set_at e with ⟨rfl, _, rfl⟩ | ⟨z, e⟩
    · exact ⟨_, e1, hs v e1⟩
    · obtain ⟨o2, e2, h2⟩ := E.s j t e
      refine ⟨o2, e2, h2.mut fun b hb => upd_ne fun w => ?_⟩
      rw [w] at hb
      exact z (E.d i j _ t l hi e hl hb)
  · have back : ∀ (z : Nat) (s' : Sl), (ρ.set i s)[z]? = some s' → b ∈ s'.fp → ∃ s2, ρ[z]? = some s2 ∧ b ∈ s2.fp := fun z s' e m => by
      rcases set_at e with ⟨rfl, _, rfl⟩ | ⟨_, e⟩
      · exact ⟨_, hi, hf b m⟩
      · exact ⟨s', e, m⟩
    obtain ⟨s1, h1, m1⟩ := back x t ea ha
    obtain ⟨s2, h2, m2⟩ := back y w eb hb
    exact E.d x y s1 s2 b h1 h2 m1 m2
end
section
variable {X : Cx} {W : WX} {ex : Addr → Prop} {e e1 e2 e3 a b o : Expr} {es : List Expr} {ρ as : List Sl} {d x y : PyData} {ds xs ys : List PyData} {pos p p2 p3 apos spos : Pos} {T : De} {P : OP} {n : Str} {i j : Nat}
/-- x = e, a thing of one's own -/
theorem sd_setW (nd : X.N.Nodup) (hN : X.N[i]? = some n) (hl : Loc X.env.scope n) (hfn : X.fn n = true ∨ X.env.scope.names.lookup n = some .local) (st : Stab P) (h : EOw X W (fun C => T.ex C ρ) e ρ P) (q : ∀ fp, T.nx (ρ.set i (og fp P)))
    (hw : swapsWith e (some (.Name n p)) pos.line X.env = pure false := by rfl) : SD X W (.Assign [.Name n p] e pos) ρ T := fun F0 H0 F H σ D s l =>
  w_s (ps_set nd hN hl pe_w hw hfn) (h H0 F H σ _ s.e (l.xc s) fun v fp F1 H1 x1 n1 p1 => l.nx _ _ F1 H1 (q fp) ⟨s.x.trans x1, s.e.newOg x1 st p1 n1⟩)
theorem sd_retW (h : EOw X W (fun C => T.ex C ρ) e ρ P) (q : ∀ v fp F H, P v fp F H → T.ro v fp F H) : SD X W (.Return (some e) pos) ρ T := fun F0 H0 F H σ D s l =>
  w_s (ps_ret pe_w) (h H0 F H σ _ s.e (l.xc s) fun v fp F1 H1 x1 n1 p1 => l.ro v fp F1 H1 (q _ _ _ _ p1) (s.x.trans x1) fun a ha => ⟨s.x.h.back (n1 a ha).1, (n1 a ha).2⟩)
theorem sd_retS {fp : List Addr} (hN : X.N[i]? = some n) (hv : Vis X.env.scope n) (hi : ρ[i]? = some (og fp P)) (q : ∀ v F H, P v fp F H → T.ro v fp F H) (hd : (n == ("__debug__" : Str)) = false := by decide) (hcd : (n == ("__classdict__" : Str)) = false := by decide) :
    SD X W (.Return (some (.Name n p)) pos) ρ T := fun F0 H0 F H σ D s l => by
  obtain ⟨v, e1, p1, h1⟩ := s.e.og hi
  exact w_s (ps_ret (pe_var hN hv hd hcd)) ⟨_, e1, l.ro v fp F H (q _ _ _ p1) s.x fun a ha => ⟨(h1 a ha).2.1, (h1 a ha).1, (h1 a ha).2.2⟩⟩
theorem eo_call {k m : Nat} {x : Str} {R : List Sl → DOut → Prop} (C : Cal X.prog X.w X.K X.mg X.base k x m R) (hr : Room k X.A) (hg : Gl X x) (tk : L2N.Takes X W) (ha : EA X W ex (e :: es) ρ as) (hn : as.length = m) (hR : R as (.own P))
    (hdb : (x == ("__debug__" : Str)) = false := by decide) (he : starEach (e :: es) X.env = (false, eval e X.env) :: starEach es X.env := by rfl) (hpl : (backTo pos (starEach es X.env)).any (·.1) = false := by rfl) : EOw X W ex (.Call (.Name x p) (e :: es) [] pos) ρ P := fun B F H σ Q E c q =>
  call_w C hr hg tk ha hn hR hdb he hpl E c fun F1 H1 x1 v fp F2 H2 x2 n2 p2 => q v fp F2 H2 (x1.trans x2) (fun a ha => ⟨x1.h.back (n2 a ha).1, (n2 a ha).2⟩) p2
/-! ### arguments that are lent for a plain answer -/
def EAl (X : Cx) (W : WX) (ex : Addr → Prop) (es : List Expr) (ρ : List Sl) (as : List Sl) : Prop := ∀ B F H σ (Q : List V → Hp → Prop), En X.K B F H σ ρ → Xc W ex F H σ → (∀ vs F' H', Ext F H F' H' → AgsOk X.K H' H' vs as → Q vs H') → WA X es σ H Q
theorem ags_up {K : PySem.W.Frag} {H H' : Hp} (x : Ex H H') : ∀ {vs : List V} {as : List Sl}, AgsOk K H H vs as → AgsOk K H' H' vs as
  | _, _, .nil => .nil
  | _, _, .cons (b := s) h t => .cons (by
      cases s with
      | sh d => exact Is.mono x h
      | bo ds => obtain ⟨l, vs, e, h, a⟩ := h; exact ⟨l, vs, e, x.sql h, a.mono x⟩
      | raw w => exact h
      | rb P => exact fun F2 H2 y z => h F2 H2 (x.trans y) (x.trans z)
      | un => exact h.elim
      | ow _ _ => exact h.elim
      | rg _ _ => exact h.elim) (ags_up x t)
theorem eal_nil : EAl X W ex [] ρ [] := fun B F H σ Q E c q => w_a pa_nil (q [] F H (Ext.refl E.i) .nil)
theorem eal_d (h : ED X W ex e ρ d) (r : EAl X W ex es ρ as) (hs : starEach (e :: es) X.env = (false, eval e X.env) :: starEach es X.env := by rfl) : EAl X W ex (e :: es) ρ (.sh d :: as) := fun B F H σ Q E c q =>
  w_a (pa_cons pe_w pa_w hs) (h B F H σ _ E c fun v F1 H1 x1 i1 => r B F1 H1 σ _ (E.ext x1) (c.ext x1) fun vs F2 H2 x2 i2 => q (v :: vs) F2 H2 (x1.trans x2) (.cons ((i1.mono x1.i).mono x2.h) i2))
/-- a thing of one's own, read as data -/
theorem eal_og {fp : List Addr} (hN : X.N[i]? = some n) (hv : Vis X.env.scope n) (hi : ρ[i]? = some (og fp P)) (hP : ∀ v F H, Ex F H → P v fp F H → Is X.K H v d) (r : EAl X W ex es ρ as) (hd : (n == ("__debug__" : Str)) = false := by decide) (hcd : (n == ("__classdict__" : Str)) = false := by decide)
    (hs : starEach (.Name n pos :: es) X.env = (false, eval (.Name n pos) X.env) :: starEach es X.env := by rfl) : EAl X W ex (.Name n pos :: es) ρ (.sh d :: as) := fun B F H σ Q E c q => by
  obtain ⟨v, e1, p1, h1⟩ := E.og hi
  refine w_a (pa_cons (pe_var hN hv hd hcd) pa_w hs) ⟨v, e1, r B F H σ _ E c fun vs F2 H2 x2 i2 => q (v :: vs) F2 H2 x2 (.cons ((hP v F H E.i p1).mono x2.h) i2)⟩
def basicD : PyData → Bool
  | .none => true
  | .bool _ => true
  | .int _ => true
  | .str _ => true
  | _ => false
theorem Is.basic {K : PySem.W.Frag} {F F' : Hp} : ∀ {v : V} {d : PyData}, basicD d = true → Is K F v d → Is K F' v d
  | _, _, _, .non => .non
  | _, _, _, .bl b => .bl b
  | _, _, _, .int n => .int n
  | _, _, _, .str x => .str x
  | _, _, h, .lst _ _ => nomatch h
  | _, _, h, .tup _ _ => nomatch h
/-- f(..), the answer plain: what is handed in may be a thing of one's own -/
theorem ed_callL {k m : Nat} {x : Str} {R : List Sl → DOut → Prop} (C : Cal X.prog X.w X.K X.mg X.base k x m R) (hr : Room k X.A) (hg : Gl X x) (tk : L2N.Takes X W) (ha : EAl X W ex (e :: es) ρ as) (hn : as.length = m) (hR : R as (.val d)) (hb : basicD d = true := by rfl)
    (hdb : (x == ("__debug__" : Str)) = false := by decide) (he : starEach (e :: es) X.env = (false, eval e X.env) :: starEach es X.env := by rfl) (hpl : (backTo pos (starEach es X.env)).any (·.1) = false := by rfl) : ED X W ex (.Call (.Name x p) (e :: es) [] pos) ρ d := fun B F H σ Q E c q => by
  obtain ⟨f, fd, ps, Fn, hm, hk, hbd⟩ := C.ex
  exact w_e (pe_callS Fn hr hg hm hk hbd (fun σ => L2N.passAt tk σ) pa_w hdb he hpl) (ha B F H σ _ E c fun vs F1 H1 x1 i1 => ⟨H1, as, .val d, Ex.refl H1, i1, hn, hR, fun v F2 H2 x2 i2 => q v F1 H2 ⟨x1.f, x1.h.trans x2.h, x1.i.trans x2.h, x1.n⟩ (i2.basic hb)⟩)
/-! ### a change of one's own; a text and a list -/
def cP (K : PySem.W.Frag) (n : Str) (xs ys : List PyData) : OP := fun v fp F H => ∃ a l1 l2 v1 v2, v = .ref a ∧ fp = [l1, l2] ∧ l1 ≠ l2 ∧ SqT K F a [.str n, .ref l1, .ref l2] ∧ H l1 = some (.lst v1) ∧ IsAll K F v1 xs ∧ H l2 = some (.lst v2) ∧ IsAll K F v2 ys
theorem cP_st {K : PySem.W.Frag} {z : Str} : Stab (cP K z xs ys) := fun v fp F H F' H' ⟨a, l1, l2, v1, v2, e, ef, ne, h, h1, i1, h2, i2⟩ x y => by
  subst ef
  exact ⟨a, l1, l2, v1, v2, e, rfl, ne, x.sqt h, (y l1 List.mem_cons_self).trans h1, i1.mono x, (y l2 (List.mem_cons_of_mem _ (List.mem_singleton.mpr rfl))).trans h2, i2.mono x⟩
theorem cP_is {K : PySem.W.Frag} {z : Str} {v : V} {fp : List Addr} {F H : Hp} (i : Ex F H) (h : cP K z xs ys v fp F H) : Is K H v (.tuple [.str z, .list xs, .list ys]) := by
  obtain ⟨a, l1, l2, v1, v2, rfl, ef, ne, h, h1, i1, h2, i2⟩ := h
  exact .tup (i.sqt h) (.cons (.str z) (.cons (.lst h1 (i1.mono i)) (.cons (.lst h2 (i2.mono i)) .nil)))
/-- what is one's own stands still from here on -/
theorem EOw.dat {z : Str} (h : EOw X W ex e ρ (cP X.K z xs ys)) : ED X W ex e ρ (.tuple [.str z, .list xs, .list ys]) := fun B F H σ Q E c q => h B F H σ _ E c fun v fp F1 H1 x1 n1 ⟨a, l1, l2, v1, v2, ev, ef, ne, ht, h1, i1, h2, i2⟩ => by
  subst ev ef
  have m1 := n1 l1 List.mem_cons_self
  have m2 := n1 l2 (List.mem_cons_of_mem _ (List.mem_singleton.mpr rfl))
  have x2 := x1.told m1.1 m1.2.1 h1
  have f2 : (upd F1 l1 (.lst v1)) l2 = none := by rw [upd_ne (Ne.symm ne)]; exact m2.2.1
  have x3 := x2.told m2.1 f2 h2
  have e1 : Ex F1 (upd F1 l1 (.lst v1)) := Ex.new m1.2.1
  have e2 : Ex (upd F1 l1 (.lst v1)) (upd (upd F1 l1 (.lst v1)) l2 (.lst v2)) := Ex.new f2
  exact q _ _ H1 x3 (.tup ((e1.trans e2).sqt ht) (.cons (.str z) (.cons (.lst (e2 _ _ upd_same) (i1.mono (e1.trans e2))) (.cons (.lst upd_same (i2.mono (e1.trans e2))) .nil))))
theorem eo_chg {z : Str} {kk : Nat} (h1 : ED X W ex e1 ρ (.str z)) (h2 : EL X W ex e2 ρ xs) (h3 : EL X W ex e3 ρ ys) (s1 : starEach [e1, e2, e3] X.env = (false, eval e1 X.env) :: starEach [e2, e3] X.env := by rfl) (s2 : starEach [e2, e3] X.env = (false, eval e2 X.env) :: starEach [e3] X.env := by rfl) (s3 : starEach [e3] X.env = [(false, eval e3 X.env)] := by rfl) :
    EOw X W ex (.Tuple [e1, e2, e3] kk pos) ρ (cP X.K z xs ys) := fun B F H σ Q E c q =>
  w_e (pe_tup (pa_cons pe_w (pa_cons pe_w (pa_cons pe_w pa_nil s3) s2) s1)) (h1 B F H σ _ E c fun v F1 H1 x1 i1 => h2 B F1 H1 σ _ (E.ext x1) (c.ext x1) fun l1 v1 F2 H2 x2 a1 b1 c1 d1 => h3 B F2 H2 σ _ ((E.ext x1).ext x2) ((c.ext x1).ext x2) fun l2 v2 F3 H3 x3 a2 b2 c2 d2 => by
    refine ⟨by show 3 ≤ sizeLine; decide, fun t ht => ?_⟩
    rw [i1.str_eq]
    have ne : l1 ≠ l2 := fun q => by rw [q, a2] at c1; cases c1
    have n1 : H3 l1 = some (.lst v1) := x3.h _ _ c1
    have f1 : F3 l1 = none := (x3.n l1 (by rw [c1]; exact fun q => nomatch q)).trans b1
    have x4 := Ext.made (o := .tup [V.str z, .ref l1, .ref l2]) x3.i ht
    have t1 : l1 ≠ t := fun q => by rw [q, ht] at n1; cases n1
    have t2 : l2 ≠ t := fun q => by rw [q, ht] at c2; cases c2
    refine q _ [l1, l2] _ _ (((x1.trans x2).trans x3).trans x4) (fun b hb => ?_) ⟨t, l1, l2, v1, v2, rfl, rfl, ne, SqT.of upd_same, (upd_ne t1).trans n1, (d1.mono x3.f).mono x4.f, (upd_ne t2).trans c2, d2.mono x4.f⟩
    rcases List.mem_cons.mp hb with rfl | hb
    · exact ⟨x1.h.back a1, (upd_ne t1).trans f1, by rw [upd_ne t1, n1]; exact fun q => nomatch q⟩
    · rw [List.mem_singleton.mp hb]
      exact ⟨(x1.trans x2).h.back a2, (upd_ne t2).trans b2, by rw [upd_ne t2, c2]; exact fun q => nomatch q⟩)
/-- a text and a new list -/
def prP (K : PySem.W.Frag) (n : Str) (xs : List PyData) : OP := fun v fp F H => ∃ a l vs, v = .ref a ∧ fp = [l] ∧ SqT K F a [.str n, .ref l] ∧ H l = some (.lst vs) ∧ IsAll K F vs xs
theorem eo_pr {z : Str} {kk : Nat} (h1 : ED X W ex e1 ρ (.str z)) (h2 : EL X W ex e2 ρ xs) (s1 : starEach [e1, e2] X.env = (false, eval e1 X.env) :: starEach [e2] X.env := by rfl) (s2 : starEach [e2] X.env = [(false, eval e2 X.env)] := by rfl) :
    EOw X W ex (.Tuple [e1, e2] kk pos) ρ (prP X.K z xs) := fun B F H σ Q E c q =>
  w_e (pe_tup (pa_cons pe_w (pa_cons pe_w pa_nil s2) s1)) (h1 B F H σ _ E c fun v F1 H1 x1 i1 => h2 B F1 H1 σ _ (E.ext x1) (c.ext x1) fun l1 v1 F2 H2 x2 a1 b1 c1 d1 => by
    refine ⟨by show 2 ≤ sizeLine; decide, fun t ht => ?_⟩
    rw [i1.str_eq]
    have x4 := Ext.made (o := .tup [V.str z, .ref l1]) x2.i ht
    have t1 : l1 ≠ t := fun q => by rw [q, ht] at c1; cases c1
    refine q _ [l1] _ _ ((x1.trans x2).trans x4) (fun b hb => ?_) ⟨t, l1, v1, rfl, rfl, SqT.of upd_same, (upd_ne t1).trans c1, d1.mono x4.f⟩
    rw [List.mem_singleton.mp hb]
    exact ⟨x1.h.back a1, (upd_ne t1).trans b1, by rw [upd_ne t1, c1]; exact fun q => nomatch q⟩)
end
end PD

set_option maxHeartbeats 4000000
namespace PD
open PySem PySem.Spec PyProof.Rows L2
section
variable {K : PySem.W.Frag} {B F F' H H' : Hp} {σ : L2.St} {ρ : List Sl}
/-- a slot tells less -/
theorem En.less (E : En K B F H σ ρ) {i : Nat} {s0 s : Sl} (hi : ρ[i]? = some s0) (hs : ∀ o, SlOk K B F H o s0 → SlOk K B F H o s) (hf : ∀ a, a ∈ s.fp → a ∈ s0.fp) : En K B F H σ (ρ.set i s) := by
  refine ⟨E.i, E.b, fun j t e => ?_, fun x y t w b ea eb ha hb => ?_⟩
  · rcases set_at e with ⟨rfl, _, rfl⟩ | ⟨_, e⟩
    · obtain ⟨o, e1, h⟩ := E.s _ _ hi
      exact ⟨o, e1, hs o h⟩
    · exact E.s j t e
  · have back : ∀ (z : Nat) (s' : Sl), (ρ.set i s)[z]? = some s' → b ∈ s'.fp → ∃ s2, ρ[z]? = some s2 ∧ b ∈ s2.fp := fun z s' e m => by
      rcases set_at e with ⟨rfl, _, rfl⟩ | ⟨_, e⟩
      · exact ⟨_, hi, hf b m⟩
      · exact ⟨s', e, m⟩
    obtain ⟨s1, h1, m1⟩ := back x t ea ha
    obtain ⟨s2, h2, m2⟩ := back y w eb hb
    exact E.d x y s1 s2 b h1 h2 m1 m2
end
section
variable {X : Cx} {W : WX} {ex : Addr → Prop} {e e1 e2 e3 a b o : Expr} {es : List Expr} {ρ as : List Sl} {d x y : PyData} {ds xs ys : List PyData} {pos p p0 p1 p2 p3 p4 apos spos tpos : Pos} {T : De} {P : OP} {n m m1 m2 : Str} {i j : Nat} {z : Str}
/-- a, b = e: a text, a list of one's own -/
theorem sd_asgPr {kk : Nat} (hc : X.calm = true) (nd : X.N.Nodup) (hN : X.N[i]? = some n) (hl : Loc X.env.scope n) (hfn : X.fn n = true ∨ X.env.scope.names.lookup n = some .local) (hN2 : X.N[j]? = some m) (hl2 : Loc X.env.scope m) (hfn2 : X.fn m = true ∨ X.env.scope.names.lookup m = some .local)
    (h : EOw X W (fun C => T.ex C ρ) e ρ (prP X.K z xs)) (q : ∀ l, T.nx ((ρ.set i (.sh (.str z))).set j (.ow l xs)))
    (g1 : (assignEach [.Name n p1, .Name m p2] X.env).map (·.2) = assign (.Name n p1) X.env :: (assignEach [.Name m p2] X.env).map (·.2) := by rfl) (g2 : (assignEach [.Name m p2] X.env).map (·.2) = assign (.Name m p2) X.env :: (assignEach [] X.env).map (·.2) := by rfl)
    (g3 : (assignEach [.Name n p1, .Name m p2] X.env).length = 2 := by rfl) (g4 : (assignEach [.Name n p1, .Name m p2] X.env).findIdx? (·.1) = none := by rfl)
    (h1 : swapsWithSole [.Tuple [.Name n p1, .Name m p2] kk tpos] e pos.line X.env = pure false := by rfl) (h2 : swappedStores [.Tuple [.Name n p1, .Name m p2] kk tpos] e X.env = pure none := by rfl) (h3 : (assignEach [.Tuple [.Name n p1, .Name m p2] kk tpos] X.env).map (·.2) = [assign (.Tuple [.Name n p1, .Name m p2] kk tpos) X.env] := by rfl) :
    SD X W (.Assign [.Tuple [.Name n p1, .Name m p2] kk tpos] e pos) ρ T := fun F0 H0 F H σ D s l =>
  w_s (ps_asg pe_w (pg_tup hc (pgs_cons (pg_name nd hN hl hfn) (pgs_cons (pg_name nd hN2 hl2 hfn2) pgs_nil g2) g1) g3 g4) h1 h2 h3) (h H0 F H σ _ s.e (l.xc s) fun v fp F1 H1 x1 n1 ⟨a, l1, vs, ev, ef, ht, hh, ia⟩ => by
    subst ev ef
    have s1 := s.go x1
    refine ⟨a, _, rfl, x1.i.sqt ht, rfl, .str z, _, rfl, .ref l1, _, rfl, rfl, ?_⟩
    have nl := n1 l1 (List.mem_singleton.mpr rfl)
    have E1 := s1.e.set (i := i) (v := .str z) (s := .sh (.str z)) (.str z) rfl
    refine l.nx _ _ F1 H1 (q l1) ⟨s1.x, E1.set_ (o := some (.ref l1)) ⟨rfl, nl.2.1, s.e.b.back nl.1, vs, hh, ia⟩ fun k t b ek hb htt => ?_⟩
    rw [List.mem_singleton.mp hb] at htt
    rcases set_at ek with ⟨_, _, rfl⟩ | ⟨_, ek⟩
    · exact nomatch htt
    · obtain ⟨o, _, h2⟩ := s.e.s k t ek
      exact absurd nl.1 (h2.held htt).2.2)
/-- x = (a, b, e): a's text, b's list, a new list -/
theorem sd_setChg {i1 i2 : Nat} {kk : Nat} {l1 : Addr} (nd : X.N.Nodup) (hN : X.N[i]? = some n) (hl : Loc X.env.scope n) (hfn : X.fn n = true ∨ X.env.scope.names.lookup n = some .local)
    (hN1 : X.N[i1]? = some m1) (hv1 : Vis X.env.scope m1) (hi1 : ρ[i1]? = some (.sh (.str z))) (hN2 : X.N[i2]? = some m2) (hv2 : Vis X.env.scope m2) (hi2 : ρ[i2]? = some (.ow l1 xs)) (h : EL X W (fun C => T.ex C ρ) e ρ ys) (hne : i ≠ i2)
    (q : ∀ fp, T.nx ((ρ.set i2 (.raw (.ref l1))).set i (og fp (cP X.K z xs ys))))
    (d1 : (m1 == ("__debug__" : Str)) = false := by decide) (d2 : (m1 == ("__classdict__" : Str)) = false := by decide) (d3 : (m2 == ("__debug__" : Str)) = false := by decide) (d4 : (m2 == ("__classdict__" : Str)) = false := by decide)
    (s1 : starEach [.Name m1 p1, .Name m2 p2, e] X.env = (false, eval (.Name m1 p1) X.env) :: starEach [.Name m2 p2, e] X.env := by rfl) (s2 : starEach [.Name m2 p2, e] X.env = (false, eval (.Name m2 p2) X.env) :: starEach [e] X.env := by rfl) (s3 : starEach [e] X.env = [(false, eval e X.env)] := by rfl)
    (hw : swapsWith (.Tuple [.Name m1 p1, .Name m2 p2, e] kk tpos) (some (.Name n p)) pos.line X.env = pure false := by rfl) :
    SD X W (.Assign [.Name n p] (.Tuple [.Name m1 p1, .Name m2 p2, e] kk tpos) pos) ρ T := fun F0 H0 F H σ D s l => by
  obtain ⟨o1, e1, k1⟩ := s.e.s i1 _ hi1
  obtain ⟨o2, e2, k2⟩ := s.e.s i2 _ hi2
  cases o1 with
  | none => exact k1.elim
  | some v1 =>
  cases o2 with
  | none => exact k2.elim
  | some v2 =>
  have k1 : Is X.K F v1 (.str z) := k1
  obtain ⟨rfl, f1, b1, vs, hh, ia⟩ := k2
  have := k1.str_eq
  subst this
  refine w_s (ps_set nd hN hl (pe_tup (pa_cons (pe_var hN1 hv1 d1 d2) (pa_cons (pe_var hN2 hv2 d3 d4) (pa_cons pe_w pa_nil s3) s2) s1)) hw hfn) ⟨_, e1, _, e2, h H0 F H σ _ s.e (l.xc s) fun l2 v2 F2 H2 x2 a2 b2 c2 d2 => ?_⟩
  refine ⟨by show 3 ≤ sizeLine; decide, fun t ht => ?_⟩
  have g1 := x2.h _ _ hh
  have ne : l1 ≠ l2 := fun q => by rw [q, a2] at hh; cases hh
  have f2 : F2 l1 = none := (x2.n l1 (by rw [hh]; exact fun q => nomatch q)).trans f1
  have x4 := Ext.made (o := .tup [V.str z, .ref l1, .ref l2]) x2.i ht
  have t1 : l1 ≠ t := fun q => by rw [q, ht] at g1; cases g1
  have t2 : l2 ≠ t := fun q => by rw [q, ht] at c2; cases c2
  have x24 := x2.trans x4
  have E1 := s.e.ext x24
  have E2 := E1.less (s := .raw (.ref l1)) hi2 (fun o h => by
    cases o with
    | none => exact h.elim
    | some v => exact h.1) (fun a m => nomatch m)
  refine l.nx _ _ _ _ (q [l1, l2]) ⟨s.x.trans x24, E2.set_ (o := some (.ref t)) (og_ok cP_st ⟨t, l1, l2, vs, v2, rfl, rfl, ne, SqT.of upd_same, (upd_ne t1).trans g1, ia.mono x24.f, (upd_ne t2).trans c2, d2.mono x4.f⟩ fun b hb => ?_) fun k s' b ek hb htt => ?_⟩
  · rcases List.mem_cons.mp hb with rfl | hb
    · exact ⟨(upd_ne t1).trans f2, b1, by rw [upd_ne t1, g1]; exact fun q => nomatch q⟩
    · rw [List.mem_singleton.mp hb]
      exact ⟨(upd_ne t2).trans b2, s.e.b.back a2, by rw [upd_ne t2, c2]; exact fun q => nomatch q⟩
  · rcases set_at ek with ⟨_, _, rfl⟩ | ⟨hk, ek2⟩
    · exact nomatch htt
    · rcases List.mem_cons.mp hb with rfl | hb
      · exact absurd (s.e.d i2 k _ s' b hi2 ek2 (List.mem_singleton.mpr rfl) htt) hk
      · rw [List.mem_singleton.mp hb] at htt
        obtain ⟨o, _, h2⟩ := s.e.s k s' ek2
        exact absurd a2 (h2.held htt).2.2
/-- x[1].append(e), x[2].append(e), x[1].clear(), x[2].clear(): x a change of one's own -/
theorem cP_poke {K : PySem.W.Frag} {B F H : Hp} {σ : L2.St} {ρ : List Sl} (E : En K B F H σ ρ) {fp : List Addr} (hi : ρ[i]? = some (og fp (cP K z xs ys))) : ∃ a l1 l2 v1 v2, fp = [l1, l2] ∧ σ[i]? = some (some (.ref a)) ∧ SqT K H a [.str z, .ref l1, .ref l2] ∧ H l1 = some (.lst v1) ∧ H l2 = some (.lst v2) ∧ IsAll K F v1 xs ∧ IsAll K F v2 ys ∧
    F l1 = none ∧ B l1 = none ∧ F l2 = none ∧ B l2 = none ∧ (∀ w xs', IsAll K F w xs' → En K B F (upd H l1 (.lst w)) σ (ρ.set i (og fp (cP K z xs' ys)))) ∧ (∀ w ys', IsAll K F w ys' → En K B F (upd H l2 (.lst w)) σ (ρ.set i (og fp (cP K z xs ys')))) := by
  obtain ⟨v, e1, ⟨a, l1, l2, v1, v2, ev, ef, ne, ht, h1, i1, h2, i2⟩, hf⟩ := E.og hi
  subst ev ef
  have m1 : l1 ∈ [l1, l2] := List.mem_cons_self
  have m2 : l2 ∈ [l1, l2] := List.mem_cons_of_mem _ (List.mem_singleton.mpr rfl)
  have g : ∀ (l : Addr) (u : HO) (b : Addr), b ∈ [l1, l2] → F b = none ∧ B b = none ∧ (upd H l u) b ≠ none := fun l u b hb => by
    refine ⟨(hf b hb).1, (hf b hb).2.1, ?_⟩
    by_cases q : b = l
    · subst q; rw [upd_same]; exact fun q => nomatch q
    · rw [upd_ne q]; exact (hf b hb).2.2
  refine ⟨a, l1, l2, v1, v2, rfl, e1, E.i.sqt ht, h1, h2, i1, i2, (hf l1 m1).1, (hf l1 m1).2.1, (hf l2 m2).1, (hf l2 m2).2.1, fun w xs' iw => ?_, fun w ys' iw => ?_⟩
  · refine E.poke hi m1 (.lst w) (fun v' ev' => ?_) (fun b hb => hb)
    rw [e1] at ev'
    cases ev'
    exact og_ok cP_st ⟨a, l1, l2, w, v2, rfl, rfl, ne, ht, upd_same, iw, (upd_ne (Ne.symm ne)).trans h2, i2⟩ (g _ _)
  · refine E.poke hi m2 (.lst w) (fun v' ev' => ?_) (fun b hb => hb)
    rw [e1] at ev'
    cases ev'
    exact og_ok cP_st ⟨a, l1, l2, v1, w, rfl, rfl, ne, ht, (upd_ne ne).trans h1, i1, upd_same, iw⟩ (g _ _)
variable {fp : List Addr}
theorem s2_poke {K : PySem.W.Frag} {F0 H0 F H : Hp} {σ : L2.St} {ρ ρ' : List Sl} {l : Addr} {u : HO} (s : S2 K F0 H0 F H σ ρ) (hb : H0 l = none) (E : En K H0 F (upd H l u) σ ρ') : S2 K F0 H0 F (upd H l u) σ ρ' :=
  ⟨⟨s.x.f, s.x.h.mut hb, E.i, s.x.n⟩, E⟩
theorem sd_cApp1 (hN : X.N[i]? = some n) (hv : Vis X.env.scope n) (hi : ρ[i]? = some (og fp (cP X.K z xs ys))) (h : ED X W (fun C => T.ex C ρ) e ρ d) (hz : xs.length < 100000) (q : T.nx (ρ.set i (og fp (cP X.K z (xs ++ [d]) ys)))) {j0}
    (hd : (n == ("__debug__" : Str)) = false := by decide) (hcd : (n == ("__classdict__" : Str)) = false := by decide) (hb : attributeBase (.Subscript (.Name n p2) (.Constant (.int 1) j0 p3) p4) "append" X.env (eval (.Subscript (.Name n p2) (.Constant (.int 1) j0 p3) p4) X.env) = eval (.Subscript (.Name n p2) (.Constant (.int 1) j0 p3) p4) X.env := by rfl)
    (hs : starEach [e] X.env = [(false, eval e X.env)] := by rfl) (ha : (((backTo p (starEach [e] X.env)).all (fun x => !x.1) && (backToKw p (keywordEach [] X.env)).all (fun x => x.1.isSome)) && decide (([e].length + ([] : List Keyword).length + if ([] : List Keyword).isEmpty = true then 0 else 1) < 30)) = true := by rfl) (hz2 : (backTo p (starEach [] X.env)).any (·.1) = false := by rfl)
    (hl : (apos.endLine == p.line) = true := by rfl) (hw : swapsWith (.Call (.Attribute (.Subscript (.Name n p2) (.Constant (.int 1) j0 p3) p4) "append" apos) [e] [] p) none pos.line X.env = pure false := by rfl) (hpl : PlainIx (.Constant (.int 1) j0 p3) := by exact fun _ _ => rfl) : SD X W (.Expr (.Call (.Attribute (.Subscript (.Name n p2) (.Constant (.int 1) j0 p3) p4) "append" apos) [e] [] p) pos) ρ T := fun F0 H0 F H σ D s l => by
  obtain ⟨a, l1, l2, v1, v2, ef, e1, ht, h1, h2, i1, i2, f1, b1, f2, b2, k1, k2⟩ := cP_poke s.e hi
  refine w_s (ps_expr (pe_bm PySem.F.plainAttrs_list PySem.F.slot_list_append PySem.F.type_list_append mt_append (pe_ix ix_tup (pe_var hN hv hd hcd) pe_int hpl) (pa_cons pe_w pa_nil hs) hb ha hl hs hz2) hw) ⟨_, e1, a, _, 1, .ref l1, rfl, rfl, ht, atI_nat (j := 1) rfl, .inl ⟨rfl, v1, SqL.of h1⟩, ?_⟩
  refine h H0 F H σ _ s.e (l.xc s) fun v F1 H1 x1 iv => ?_
  have s1 := s.go x1
  obtain ⟨a', l1', l2', w1, w2, ef', e1', ht', h1', h2', i1', i2', f1', b1', f2', b2', k1', k2'⟩ := cP_poke s1.e hi
  rw [ef] at ef'
  cases ef'
  refine ⟨l1, w1, v, rfl, rfl, h1', Nat.lt_of_lt_of_le (by rw [i1'.len]; exact hz) (by decide), ?_⟩
  exact l.nx _ σ F1 _ q (s2_poke s1 b1' (k1' _ _ (i1'.append (.cons iv .nil))))
theorem sd_cApp2 (hN : X.N[i]? = some n) (hv : Vis X.env.scope n) (hi : ρ[i]? = some (og fp (cP X.K z xs ys))) (h : ED X W (fun C => T.ex C ρ) e ρ d) (hz : ys.length < 100000) (q : T.nx (ρ.set i (og fp (cP X.K z xs (ys ++ [d]))))) {j0}
    (hd : (n == ("__debug__" : Str)) = false := by decide) (hcd : (n == ("__classdict__" : Str)) = false := by decide) (hb : attributeBase (.Subscript (.Name n p2) (.Constant (.int 2) j0 p3) p4) "append" X.env (eval (.Subscript (.Name n p2) (.Constant (.int 2) j0 p3) p4) X.env) = eval (.Subscript (.Name n p2) (.Constant (.int 2) j0 p3) p4) X.env := by rfl)
    (hs : starEach [e] X.env = [(false, eval e X.env)] := by rfl) (ha : (((backTo p (starEach [e] X.env)).all (fun x => !x.1) && (backToKw p (keywordEach [] X.env)).all (fun x => x.1.isSome)) && decide (([e].length + ([] : List Keyword).length + if ([] : List Keyword).isEmpty = true then 0 else 1) < 30)) = true := by rfl) (hz2 : (backTo p (starEach [] X.env)).any (·.1) = false := by rfl)
    (hl : (apos.endLine == p.line) = true := by rfl) (hw : swapsWith (.Call (.Attribute (.Subscript (.Name n p2) (.Constant (.int 2) j0 p3) p4) "append" apos) [e] [] p) none pos.line X.env = pure false := by rfl) (hpl : PlainIx (.Constant (.int 2) j0 p3) := by exact fun _ _ => rfl) : SD X W (.Expr (.Call (.Attribute (.Subscript (.Name n p2) (.Constant (.int 2) j0 p3) p4) "append" apos) [e] [] p) pos) ρ T := fun F0 H0 F H σ D s l => by
  obtain ⟨a, l1, l2, v1, v2, ef, e1, ht, h1, h2, i1, i2, f1, b1, f2, b2, k1, k2⟩ := cP_poke s.e hi
  refine w_s (ps_expr (pe_bm PySem.F.plainAttrs_list PySem.F.slot_list_append PySem.F.type_list_append mt_append (pe_ix ix_tup (pe_var hN hv hd hcd) pe_int hpl) (pa_cons pe_w pa_nil hs) hb ha hl hs hz2) hw) ⟨_, e1, a, _, 2, .ref l2, rfl, rfl, ht, atI_nat (j := 2) rfl, .inl ⟨rfl, v2, SqL.of h2⟩, ?_⟩
  refine h H0 F H σ _ s.e (l.xc s) fun v F1 H1 x1 iv => ?_
  have s1 := s.go x1
  obtain ⟨a', l1', l2', w1, w2, ef', e1', ht', h1', h2', i1', i2', f1', b1', f2', b2', k1', k2'⟩ := cP_poke s1.e hi
  rw [ef] at ef'
  cases ef'
  refine ⟨l2, w2, v, rfl, rfl, h2', Nat.lt_of_lt_of_le (by rw [i2'.len]; exact hz) (by decide), ?_⟩
  exact l.nx _ σ F1 _ q (s2_poke s1 b2' (k2' _ _ (i2'.append (.cons iv .nil))))
theorem sd_cClr1 (hN : X.N[i]? = some n) (hv : Vis X.env.scope n) (hi : ρ[i]? = some (og fp (cP X.K z xs ys))) (q : T.nx (ρ.set i (og fp (cP X.K z [] ys)))) {j0}
    (hd : (n == ("__debug__" : Str)) = false := by decide) (hcd : (n == ("__classdict__" : Str)) = false := by decide) (hb : attributeBase (.Subscript (.Name n p2) (.Constant (.int 1) j0 p3) p4) "clear" X.env (eval (.Subscript (.Name n p2) (.Constant (.int 1) j0 p3) p4) X.env) = eval (.Subscript (.Name n p2) (.Constant (.int 1) j0 p3) p4) X.env := by rfl)
    (hl : (apos.endLine == p.line) = true := by rfl) (hw : swapsWith (.Call (.Attribute (.Subscript (.Name n p2) (.Constant (.int 1) j0 p3) p4) "clear" apos) [] [] p) none pos.line X.env = pure false := by rfl) (hpl : PlainIx (.Constant (.int 1) j0 p3) := by exact fun _ _ => rfl) : SD X W (.Expr (.Call (.Attribute (.Subscript (.Name n p2) (.Constant (.int 1) j0 p3) p4) "clear" apos) [] [] p) pos) ρ T := fun F0 H0 F H σ D s l => by
  obtain ⟨a, l1, l2, v1, v2, ef, e1, ht, h1, h2, i1, i2, f1, b1, f2, b2, k1, k2⟩ := cP_poke s.e hi
  refine w_s (ps_expr (pe_bm0 PySem.F.plainAttrs_list PySem.F.slot_list_clear PySem.F.type_list_clear mt_clear (pe_ix ix_tup (pe_var hN hv hd hcd) pe_int hpl) hb hl) hw) ⟨_, e1, a, _, 1, .ref l1, rfl, rfl, ht, atI_nat (j := 1) rfl, .inl ⟨rfl, v1, SqL.of h1⟩, l1, v1, rfl, rfl, h1, ?_⟩
  exact l.nx _ σ F _ q (s2_poke s b1 (k1 _ _ .nil))
theorem sd_cClr2 (hN : X.N[i]? = some n) (hv : Vis X.env.scope n) (hi : ρ[i]? = some (og fp (cP X.K z xs ys))) (q : T.nx (ρ.set i (og fp (cP X.K z xs [])))) {j0}
    (hd : (n == ("__debug__" : Str)) = false := by decide) (hcd : (n == ("__classdict__" : Str)) = false := by decide) (hb : attributeBase (.Subscript (.Name n p2) (.Constant (.int 2) j0 p3) p4) "clear" X.env (eval (.Subscript (.Name n p2) (.Constant (.int 2) j0 p3) p4) X.env) = eval (.Subscript (.Name n p2) (.Constant (.int 2) j0 p3) p4) X.env := by rfl)
    (hl : (apos.endLine == p.line) = true := by rfl) (hw : swapsWith (.Call (.Attribute (.Subscript (.Name n p2) (.Constant (.int 2) j0 p3) p4) "clear" apos) [] [] p) none pos.line X.env = pure false := by rfl) (hpl : PlainIx (.Constant (.int 2) j0 p3) := by exact fun _ _ => rfl) : SD X W (.Expr (.Call (.Attribute (.Subscript (.Name n p2) (.Constant (.int 2) j0 p3) p4) "clear" apos) [] [] p) pos) ρ T := fun F0 H0 F H σ D s l => by
  obtain ⟨a, l1, l2, v1, v2, ef, e1, ht, h1, h2, i1, i2, f1, b1, f2, b2, k1, k2⟩ := cP_poke s.e hi
  refine w_s (ps_expr (pe_bm0 PySem.F.plainAttrs_list PySem.F.slot_list_clear PySem.F.type_list_clear mt_clear (pe_ix ix_tup (pe_var hN hv hd hcd) pe_int hpl) hb hl) hw) ⟨_, e1, a, _, 2, .ref l2, rfl, rfl, ht, atI_nat (j := 2) rfl, .inl ⟨rfl, v2, SqL.of h2⟩, l2, v2, rfl, rfl, h2, ?_⟩
  exact l.nx _ σ F _ q (s2_poke s b2 (k2 _ _ .nil))
end
end PD

set_option maxHeartbeats 4000000
namespace PD
open PySem PySem.Spec PyProof.Rows L2
/-! ### comprehensions over zip, two names -/
theorem wipe2 {σ : L2.St} {j k : Nat} {a b : Option V} (h : j ≠ k) : wipe (((wipe σ [j, k]).set j a).set k b) [j, k] = wipe σ [j, k] := by
  show (((((σ.set k none).set j none).set j a).set k b).set k none).set j none = (σ.set k none).set j none
  refine List.ext_getElem? fun i => ?_
  simp only [List.getElem?_set, List.length_set]
  by_cases h1 : j = i
  · rw [if_pos h1, if_pos h1]
  · simp only [if_neg h1]
    by_cases h2 : k = i
    · rw [if_pos h2, if_pos h2]
    · rw [if_neg h2, if_neg h2, if_neg h2]
section
variable {X : Cx} {W : WX} {ex : Addr → Prop} {e1 e2 elt : Expr} {ρ : List Sl} {pos p p2 p3 p4 tpos : Pos} {scope : Scope} {n1 n2 : Str} {j1 j2 kk : Nat}
structure LcOk2 (X : Cx) (scope : Scope) (n1 : Str) (j1 : Nat) (n2 : Str) (j2 : Nat) (iter : Expr) : Prop where
  calm : X.calm = true
  nd : X.N.Nodup
  blk : BlkOk X.N X.env.scope scope [(n1, j1), (n2, j2)]
  l1 : scope.names.lookup n1 = some .local
  a1 : X.N[j1]? = some n1
  l2 : scope.names.lookup n2 = some .local
  a2 : X.N[j2]? = some n2
  ne : j1 ≠ j2
  fset : ∀ x, foldedSetIterable iter X.env x = pure x
theorem lc_tgt2 (calm : X.calm = true) (nd : X.N.Nodup) (l1 : scope.names.lookup n1 = some .local) (a1 : X.N[j1]? = some n1) (l2 : scope.names.lookup n2 = some .local) (a2 : X.N[j2]? = some n2) (s : Shared) (H : Hp) (C : Addr) (cl : List (Str × Addr)) (fp : List Addr)
    (g1 : (assignEach [.Name n1 p3, .Name n2 p4] (X.blk s H scope (compEnvC scope cl C X.env) fp).env).map (·.2) = assign (.Name n1 p3) (X.blk s H scope (compEnvC scope cl C X.env) fp).env :: (assignEach [.Name n2 p4] (X.blk s H scope (compEnvC scope cl C X.env) fp).env).map (·.2) := by rfl)
    (g2 : (assignEach [.Name n2 p4] (X.blk s H scope (compEnvC scope cl C X.env) fp).env).map (·.2) = assign (.Name n2 p4) (X.blk s H scope (compEnvC scope cl C X.env) fp).env :: (assignEach [] (X.blk s H scope (compEnvC scope cl C X.env) fp).env).map (·.2) := by rfl)
    (g3 : (assignEach [.Name n1 p3, .Name n2 p4] (X.blk s H scope (compEnvC scope cl C X.env) fp).env).length = 2 := by rfl) (g4 : (assignEach [.Name n1 p3, .Name n2 p4] (X.blk s H scope (compEnvC scope cl C X.env) fp).env).findIdx? (·.1) = none := by rfl) :
    PG (X.blk s H scope (compEnvC scope cl C X.env) fp) (.Tuple [.Name n1 p3, .Name n2 p4] kk tpos) (gTup X.K 2 (gCons (gName j1) (gCons (gName j2) gNil))) := by
  have h1 : (X.blk s H scope (compEnvC scope cl C X.env) fp).env.scope.names.lookup n1 = some .local := lookup_relabel_local (env := X.env) l1
  have h2 : (X.blk s H scope (compEnvC scope cl C X.env) fp).env.scope.names.lookup n2 = some .local := lookup_relabel_local (env := X.env) l2
  exact pg_tup (X := X.blk s H scope (compEnvC scope cl C X.env) fp) calm (pgs_cons (pg_name nd a1 (.inl h1) (.inr h1)) (pgs_cons (pg_name nd a2 (.inl h2) (.inr h2)) pgs_nil g2) g1) g3 g4
theorem el_lcZ {α β : Type} (L : LcOk2 X scope n1 j1 n2 j2 (.Call (.Name "zip" p) [e1, e2] [] p2)) (hg : Gl X ("zip" : Str)) (hm : X.mg ("zip" : Str) = none) (xs : List α) (ys : List β) (q1 : α → PyData) (q2 : β → PyData) (g : α → β → PyData) (h1 : EP' X W ex e1 ρ (xs.map q1)) (h2 : EP' X W ex e2 ρ (ys.map q2)) (hz : xs.length ≤ 50000)
    (hG : ∀ (i : Nat) x y, xs[i]? = some x → ys[i]? = some y → Blk X scope fun Y => ED Y noW noX elt ((((ρ.set j2 .un).set j1 .un).set j1 (.sh (q1 x))).set j2 (.sh (q2 y))) (g x y))
    (s1 : starEach [e1, e2] X.env = (false, eval e1 X.env) :: starEach [e2] X.env := by rfl) (s2 : starEach [e2] X.env = [(false, eval e2 X.env)] := by rfl) (s3 : (backTo p2 (starEach [e2] X.env)).any (fun x => x.1) = false := by rfl)
    (tg : ∀ (s : Shared) (H : Hp) (C : Addr) (cl : List (Str × Addr)) (fp : List Addr), PG (X.blk s H scope (compEnvC scope cl C X.env) fp) (.Tuple [.Name n1 p3, .Name n2 p4] kk tpos) (gTup X.K 2 (gCons (gName j1) (gCons (gName j2) gNil)))) :
    EL X W ex (.ListComp elt [⟨.Tuple [.Name n1 p3, .Name n2 p4] kk tpos, .Call (.Name "zip" p) [e1, e2] [] p2, [], 0⟩] scope pos) ρ ((xs.zip ys).map fun p => g p.1 p.2) := fun B F H σ Q E c k =>
  w_e (pe_lc (own := [(n1, j1), (n2, j2)]) L.calm L.nd (pi_zip hg hm (pa_cons pe_w (pa_cons pe_w pa_nil s2) s1) s1 s3) L.blk tg (fun _ _ _ _ _ => pts_nil) (fun _ _ _ _ _ => pe_wb) L.fset) (by
    refine h1 B F H σ _ E c fun a vs F1 H1 x1 hr1 i1 => h2 B F1 H1 σ _ (E.ext x1) (c.ext x1) fun b ws F2 H2 x2 hr2 i2 => ?_
    have E2 := (E.ext x1).ext x2
    have i1' := i1.mono x2.f
    have ra : ∀ H', Ex H2 H' → SqL X.K H' a vs := fun H' y => by
      rcases hr1 with hr | hr
      · exact (E2.b.trans y).sql hr
      · exact ((x2.f.trans x2.i).trans y).sql hr
    have rb : ∀ H', Ex H2 H' → SqL X.K H' b ws := fun H' y => by
      rcases hr2 with hr | hr
      · exact (E2.b.trans y).sql hr
      · exact (x2.i.trans y).sql hr
    have hm1 := List.length_map (as := xs) q1
    have hm2 := List.length_map (as := ys) q2
    refine ⟨a, b, vs, ws, rfl, ra H2 (Ex.refl _), rb H2 (Ex.refl _), fun D hD => ⟨fun i m H' => m = min xs.length ys.length - i ∧ i ≤ min xs.length ys.length ∧ Cm X.K F2 H2 D (((xs.zip ys).take i).map fun p => g p.1 p.2) H', ⟨_, rfl, Nat.zero_le _, F2, [], Ext.kept x2.i hD, x2.i.back hD, upd_same, .nil⟩, ?_⟩⟩
    rintro i m H' ⟨rfl, him, hc⟩
    obtain ⟨F', acc, y, f0, hh, ia⟩ := hc
    have qa := ra H' y.h
    have qb := rb H' y.h
    by_cases hi : i < min xs.length ys.length
    · have hi1 : i < xs.length := by omega
      have hi2 : i < ys.length := by omega
      obtain ⟨v, hv, iv⟩ := i1'.get (show (xs.map q1)[i]? = some (q1 xs[i]) by rw [List.getElem?_map, List.getElem?_eq_getElem hi1]; rfl)
      obtain ⟨u, hu, iu⟩ := i2.get (show (ys.map q2)[i]? = some (q2 ys[i]) by rw [List.getElem?_map, List.getElem?_eq_getElem hi2]; rfl)
      refine .inr ⟨⟨vs, ws, v, u, qa, qb, hv, hu⟩, fun H4 => Cm X.K F2 H2 D (((xs.zip ys).take (i + 1)).map fun p => g p.1 p.2) H4, fun H4 q => ⟨min xs.length ys.length - (i + 1), by omega, rfl, by omega, q⟩, ?_⟩
      rintro x H3 ⟨t, v', u', rfl, nt, rfl, fa, fb⟩
      have ev : v' = v := Option.some.inj ((fa vs qa).symm.trans hv)
      have eu : u' = u := Option.some.inj ((fb ws qb).symm.trans hu)
      subst ev eu
      have x3 : Ext F' H' (upd F' t (.tup [v', u'])) (upd H' t (.tup [v', u'])) := Ext.made y.i nt
      have tD : D ≠ t := fun q => by rw [q, nt] at hh; cases hh
      have hc3 : Cm X.K F2 H2 D (((xs.zip ys).take i).map fun p => g p.1 p.2) (upd H' t (.tup [v', u'])) := ⟨_, acc, y.trans x3, (upd_ne tD).trans f0, (upd_ne tD).trans hh, ia.mono x3.f⟩
      refine ⟨t, _, rfl, SqT.of upd_same, rfl, v', _, rfl, u', _, rfl, rfl, wipe2 L.ne, ?_⟩
      have hzip : (xs.zip ys)[i]? = some (xs[i], ys[i]) := by
        rw [List.getElem?_zip_eq_some]; exact ⟨List.getElem?_eq_getElem hi1, List.getElem?_eq_getElem hi2⟩
      rw [List.take_add_one, hzip, List.map_append]
      have T := cm_turn (α := α) (X := X) (σ := σ) (B := B) (t := tYes) (te := WEB X scope elt) (σ2 := ((wipe σ [j1, j2]).set j1 (some v')).set j2 (some u')) (ρ2 := (((ρ.set j2 .un).set j1 .un).set j1 (.sh (q1 xs[i]))).set j2 (.sh (q2 ys[i]))) (out := ((xs.zip ys).take i).map fun p => g p.1 p.2) (k := true) (r := g xs[i] ys[i])
        (fun F H Q E4 k2 => k2 F H (Ext.refl E4.i)) (fun _ F H Q E4 k2 s H0 C cl fp => hG i xs[i] ys[i] (List.getElem?_eq_getElem hi1) (List.getElem?_eq_getElem hi2) s H0 C cl fp B F H _ Q E4 xcN k2)
        (fun F H x4 => ((((E2.ext x4).wipe j2).wipe j1).set (s := .sh (q1 xs[i])) (iv.mono x4.f) rfl).set (s := .sh (q2 ys[i])) (iu.mono x4.f) rfl) hD (by rw [List.length_map, List.length_take, List.length_zip]; omega) hc3
      rw [if_pos rfl] at T
      exact T
    · have ei : i = min xs.length ys.length := by omega
      refine .inl ⟨⟨vs, ws, qa, qb, by rw [i1'.len, i2.len, hm1, hm2]; omega⟩, ?_⟩
      rw [ei, List.take_of_length_le (by rw [List.length_zip]; exact Nat.le_refl _)] at ia
      exact k D acc F' H' ((x1.trans x2).trans y) ((x1.trans x2).h.back hD) f0 hh ia)
end
end PD

set_option maxHeartbeats 4000000
namespace PD
open PySem L2 PyProof.Rows
/-! ### facts of the top, as they are taken from the heap behind it -/
section
variable {P : Program} {w : World} {K : PySem.W.Frag} {h : Heap} {mg : Str → Option Value} {base : Heap}
/-- a def of the top -/
def DefK (K : PySem.W.Frag) (x : Str) (st : Stmt) : Prop :=
  ∃ (f : Addr) (oc : Value) (od : Option Addr) (kV doc pm : Value) (an : Option Addr) (cdv ct : Value) (osl : Array (Option Value)),
    PySem.W.nsIn K mainGlobals x = some (some (.ref f)) ∧ K.lookup f = some ⟨oc, od, .func (PySem.W.fnOf x x (defArgs st) (defBody st) (defScope st) .none kV doc pm an cdv ct), osl⟩ ∧ PySem.W.codeIn K cdv x = true ∧ PySem.W.keepIn K (.ref f) = true
theorem defK_mk {x : Str} {st : Stmt} {f : Addr} {oc : Value} {od : Option Addr} {kV doc pm : Value} {an : Option Addr} {cdv ct : Value} {osl : Array (Option Value)}
    (a : PySem.W.nsIn K mainGlobals x = some (some (.ref f))) (l : K.lookup f = some ⟨oc, od, .func (PySem.W.fnOf x x (defArgs st) (defBody st) (defScope st) .none kV doc pm an cdv ct), osl⟩) (c : PySem.W.codeIn K cdv x = true) (k : PySem.W.keepIn K (.ref f) = true) : DefK K x st :=
  ⟨f, oc, od, kV, doc, pm, an, cdv, ct, osl, a, l, c, k⟩
/-- its arguments are bound by place -/
def BindK (x : Str) (st : Stmt) (ps : List Str) : Prop :=
  ∀ (kV doc pm : Value) (an : Option Addr) (cdv ct : Value) (us : List Value), us.length = ps.length → bindArgs (PySem.W.fnOf x x (defArgs st) (defBody st) (defScope st) .none kV doc pm an cdv ct) ⟨us, []⟩ = pure (ps.zip us)
theorem cal_of {x : Str} {st : Stmt} {k n : Nat} {R : List Sl → DOut → Prop} (X : K.In h) (G : h.Ns mainGlobals mg) (ps : List Str) (D : DefK K x st) (hb : BindK x st ps)
    (ok : ∀ (f : Addr) (fd : FuncData), Fun K x x st f fd → FnOk P w K mg base (L2N.CX P w) k f fd ps (spD K n R)) : Cal P w K mg base k x n R := by
  obtain ⟨f, oc, od, kV, doc, pm, an, cdv, ct, osl, a, l, c, kk⟩ := D
  have F := fun_mk l c kk
  exact ⟨f, _, ps, ok f _ F, PySem.W.mg_of X G a, kk, F.binds hb⟩
/-- a class of the top -/
structure ClsK (K : PySem.W.Frag) (x : Str) (C : Addr) : Prop where
  a : PySem.W.nsIn K mainGlobals x = some (some (.ref C))
  i : PySem.W.isClsIn K C = true
  t : PySem.W.typeIn K (.ref C) = some (.type "type")
theorem kit_of {D C : Addr} {b : Bool} {x : Str} (c : ClsK K x C) (h : PySem.W.subIn K (.ref D) (.ref C) = some b) (hn : (Value.ref D == Value.ref C) = true → b = true) : PySem.W.kitOne K (.ref D) (.ref C) = some b := by
  unfold PySem.W.kitOne
  by_cases e : (Value.ref D == Value.ref C) = true
  · rw [if_pos e, hn e]
  · rw [if_neg e]
    have e2 : ((PySem.W.clsIn K C).isSome && PySem.W.typeIn K (.ref C) == some (.type "type")) = true := by
      have h2' : (PySem.W.clsIn K C).isSome = true := c.i
      rw [h2', c.t] <;> rfl
    show (if ((PySem.W.clsIn K C).isSome && PySem.W.typeIn K (.ref C) == some (.type "type")) = true then PySem.W.subIn K (.ref D) (.ref C) else none) = some b
    rw [if_pos e2]
    exact h
theorem kit_ve {D : Addr} (h : PySem.W.subIn K (.ref D) (.type "ValueError") = some true) : PySem.W.kitOne K (.ref D) (.type "ValueError") = some true := by
  show (if (Value.ref D == Value.type "ValueError") = true then some true else (if PySem.W.kitMeta "ValueError" = true then PySem.W.subIn K (.ref D) (.type "ValueError") else none)) = some true
  have e : PySem.W.kitMeta "ValueError" = true := by decide +kernel
  rw [e, if_pos rfl, h]
  split <;> rfl
theorem exm_of {D C : Addr} {b : Bool} {x : Str} (c : ClsK K x C) (hb : PySem.W.subIn K (.ref C) (.type "BaseException") = some true) (h : PySem.W.subIn K (.ref D) (.ref C) = some b) : PySem.W.exmOne K (.ref D) (.ref C) = some b := by
  have e1 : (PySem.W.subIn K (.ref C) (.type "BaseException") == some true) = true := by rw [hb] <;> rfl
  have e2 : ((PySem.W.clsIn K C).isSome && PySem.W.typeIn K (.ref C) == some (.type "type")) = true := by
    have h2' : (PySem.W.clsIn K C).isSome = true := c.i
    rw [h2', c.t] <;> rfl
  show (if (PySem.W.subIn K (.ref C) (.type "BaseException") == some true) = true then (if ((PySem.W.clsIn K C).isSome && PySem.W.typeIn K (.ref C) == some (.type "type")) = true then PySem.W.subIn K (.ref D) (.ref C) else none) else none) = some b
  rw [if_pos e1, if_pos e2]
  exact h
/-- an error class of the top, where it stands under -/
structure ErrK (K : PySem.W.Frag) (D : Addr) (C1 C2 C3 C4 C5 C6 C7 C8 C9 : Addr) (b1 b2 b3 b4 b5 b6 b7 b8 : Bool) : Prop where
  s1 : PySem.W.subIn K (.ref D) (.ref C1) = some b1
  s2 : PySem.W.subIn K (.ref D) (.ref C2) = some b2
  s3 : PySem.W.subIn K (.ref D) (.ref C3) = some b3
  s4 : PySem.W.subIn K (.ref D) (.ref C4) = some b4
  s5 : PySem.W.subIn K (.ref D) (.ref C5) = some b5
  s6 : PySem.W.subIn K (.ref D) (.ref C6) = some b6
  s7 : PySem.W.subIn K (.ref D) (.ref C7) = some b7
  s8 : PySem.W.subIn K (.ref D) (.ref C8) = some b8
  s9 : PySem.W.subIn K (.ref D) (.ref C9) = some true
  n1 : (Value.ref D == Value.ref C1) = true → b1 = true
  n2 : (Value.ref D == Value.ref C2) = true → b2 = true
  n3 : (Value.ref D == Value.ref C3) = true → b3 = true
  n4 : (Value.ref D == Value.ref C4) = true → b4 = true
  n5 : (Value.ref D == Value.ref C5) = true → b5 = true
  n6 : (Value.ref D == Value.ref C6) = true → b6 = true
  n7 : (Value.ref D == Value.ref C7) = true → b7 = true
  n8 : (Value.ref D == Value.ref C8) = true → b8 = true
  sv : PySem.W.subIn K (.ref D) (.type "ValueError") = some true
  q : PySem.W.excIn K D [.type "ValueError", .type "Exception", .type "BaseException", .type "object"] "ValueError.__new__" = true
  k : PySem.W.keepIn K (.ref D) = true
  hs : PySem.W.subIn K (.ref D) (.type "BaseException") = some true
  hg : PySem.W.findIn K (.ref D) "__getattribute__" = some (some (.builtin "BaseException.__getattribute__"))
  hk : PySem.W.findIn K (.ref D) "__getattr__" = some none
  hd : PySem.W.hasDictIn K D = true
  ha : PySem.W.findIn K (.ref D) "__class__" = some (some (.builtin "object.__class__"))
  hn : PySem.W.specialIn K (.builtin "object.__class__") "__get__" = some (some (.builtin "getset_descriptor.__get__"))
  ht : PySem.W.takesIn K (.builtin "object.__class__") = some true
  hm : PySem.W.mroIn K D (.type "object") = some true
/-- the nine classes of the errors -/
structure NineK (K : PySem.W.Frag) (C1 C2 C3 C4 C5 C6 C7 C8 C9 : Addr) : Prop where
  c1 : ClsK K "BadChange" C1
  c2 : ClsK K "NotLeaned" C2
  c3 : ClsK K "Twice" C3
  c4 : ClsK K "Missing" C4
  c5 : ClsK K "NoLine" C5
  c6 : ClsK K "Other" C6
  c7 : ClsK K "Ring" C7
  c8 : ClsK K "NoNote" C8
  c9 : ClsK K "WeaveError" C9
theorem kit8_of {D C1 C2 C3 C4 C5 C6 C7 C8 C9 : Addr} {b1 b2 b3 b4 b5 b6 b7 b8 : Bool} (X : K.In h) (G : h.Ns mainGlobals mg) (N : NineK K C1 C2 C3 C4 C5 C6 C7 C8 C9) (E : ErrK K D C1 C2 C3 C4 C5 C6 C7 C8 C9 b1 b2 b3 b4 b5 b6 b7 b8)
    (ve : mg "ValueError" = none) (is : mg "isinstance" = none) (ln : mg "len" = none) (one : [b1, b2, b3, b4, b5, b6, b7, b8].filter id = [true]) : Kit8 K mg D b1 b2 b3 b4 b5 b6 b7 b8 :=
  ⟨⟨E.hg, E.hk, E.hs, E.hd, E.ha, E.hn, E.ht, E.hm⟩,
    ⟨C1, PySem.W.mg_of X G N.c1.a, kit_of N.c1 E.s1 E.n1⟩, ⟨C2, PySem.W.mg_of X G N.c2.a, kit_of N.c2 E.s2 E.n2⟩, ⟨C3, PySem.W.mg_of X G N.c3.a, kit_of N.c3 E.s3 E.n3⟩, ⟨C4, PySem.W.mg_of X G N.c4.a, kit_of N.c4 E.s4 E.n4⟩,
    ⟨C5, PySem.W.mg_of X G N.c5.a, kit_of N.c5 E.s5 E.n5⟩, ⟨C6, PySem.W.mg_of X G N.c6.a, kit_of N.c6 E.s6 E.n6⟩, ⟨C7, PySem.W.mg_of X G N.c7.a, kit_of N.c7 E.s7 E.n7⟩, ⟨C8, PySem.W.mg_of X G N.c8.a, kit_of N.c8 E.s8 E.n8⟩,
    ⟨C9, PySem.W.mg_of X G N.c9.a, kit_of N.c9 E.s9 fun _ => rfl⟩, kit_ve E.sv, ve, is, ln, one⟩
theorem er_of {x : Str} {D C1 C2 C3 C4 C5 C6 C7 C8 C9 : Addr} {b1 b2 b3 b4 b5 b6 b7 b8 : Bool} (X : K.In h) (G : h.Ns mainGlobals mg) (c : ClsK K x D) (E : ErrK K D C1 C2 C3 C4 C5 C6 C7 C8 C9 b1 b2 b3 b4 b5 b6 b7 b8) : Er K mg x D :=
  ⟨PySem.W.mg_of X G c.a, E.q, E.k, E.hs, c.t⟩
/-- a tuple of texts of the top -/
theorem sqT3 {t : Addr} {od : Option Addr} {sl : Array (Option Value)} {n : Nat} {x y z : Str} {t1 t2 t3 : Tok} (l : K.lookup t = some ⟨.type "tuple", od, .seq #[.str x t1, .str y t2, .str z t3] n, sl⟩) : ∀ H, SqT K H t [.str x, .str y, .str z] := fun H =>
  .inr ⟨_, _, n, l, rfl, rfl, by show 3 ≤ _; decide, .cons ⟨_, rfl⟩ (.cons ⟨_, rfl⟩ (.cons ⟨_, rfl⟩ .nil))⟩
/-- a name that the top does not bind -/
def FreeK (K : PySem.W.Frag) (x : Str) : Prop := PySem.W.nsIn K mainGlobals x = some none
/-- an error class of the top, as it can be raised -/
structure ErK (K : PySem.W.Frag) (x : Str) (D : Addr) : Prop where
  c : ClsK K x D
  q : PySem.W.excIn K D [.type "ValueError", .type "Exception", .type "BaseException", .type "object"] "ValueError.__new__" = true
  k : PySem.W.keepIn K (.ref D) = true
  hs : PySem.W.subIn K (.ref D) (.type "BaseException") = some true
theorem er_ofK {x : Str} {D : Addr} (X : K.In h) (G : h.Ns mainGlobals mg) (E : ErK K x D) : Er K mg x D :=
  ⟨PySem.W.mg_of X G E.c.a, E.q, E.k, E.hs, E.c.t⟩
theorem int_of {x : Str} {n : Int} (X : K.In h) (G : h.Ns mainGlobals mg) (e : ∃ t : Tok, PySem.W.nsIn K mainGlobals x = some (some (.int n t))) : ∃ t, mg x = some (.int n t) := let ⟨t, e⟩ := e; ⟨t, PySem.W.mg_of X G e⟩
theorem str_of {x z : Str} (X : K.In h) (G : h.Ns mainGlobals mg) (e : ∃ t : Tok, PySem.W.nsIn K mainGlobals x = some (some (.str z t))) : ∃ t, mg x = some (.str z t) := let ⟨t, e⟩ := e; ⟨t, PySem.W.mg_of X G e⟩
theorem b1 {x : Str} {st : Stmt} {a : Str} (h : ∀ (kV doc pm : Value) (an : Option Addr) (cdv ct u : Value), bindArgs (PySem.W.fnOf x x (defArgs st) (defBody st) (defScope st) .none kV doc pm an cdv ct) ⟨[u], []⟩ = pure ([a].zip [u])) : BindK x st [a] :=
  fun kV doc pm an cdv ct us hl => match us, hl with | [u], _ => h kV doc pm an cdv ct u
theorem b2 {x : Str} {st : Stmt} {a b : Str} (h : ∀ (kV doc pm : Value) (an : Option Addr) (cdv ct u v : Value), bindArgs (PySem.W.fnOf x x (defArgs st) (defBody st) (defScope st) .none kV doc pm an cdv ct) ⟨[u, v], []⟩ = pure ([a, b].zip [u, v])) : BindK x st [a, b] :=
  fun kV doc pm an cdv ct us hl => match us, hl with | [u, v], _ => h kV doc pm an cdv ct u v
theorem b3 {x : Str} {st : Stmt} {a b c : Str} (h : ∀ (kV doc pm : Value) (an : Option Addr) (cdv ct u v r : Value), bindArgs (PySem.W.fnOf x x (defArgs st) (defBody st) (defScope st) .none kV doc pm an cdv ct) ⟨[u, v, r], []⟩ = pure ([a, b, c].zip [u, v, r])) : BindK x st [a, b, c] :=
  fun kV doc pm an cdv ct us hl => match us, hl with | [u, v, r], _ => h kV doc pm an cdv ct u v r
theorem b4 {x : Str} {st : Stmt} {a b c d : Str} (h : ∀ (kV doc pm : Value) (an : Option Addr) (cdv ct u v r z : Value), bindArgs (PySem.W.fnOf x x (defArgs st) (defBody st) (defScope st) .none kV doc pm an cdv ct) ⟨[u, v, r, z], []⟩ = pure ([a, b, c, d].zip [u, v, r, z])) : BindK x st [a, b, c, d] :=
  fun kV doc pm an cdv ct us hl => match us, hl with | [u, v, r, z], _ => h kV doc pm an cdv ct u v r z
end
end PD

set_option maxHeartbeats 4000000
/-! a list comprehension whose item raises -/
namespace PD
open PySem PySem.Spec PyProof.Rows L2
theorem noteFrame_eq {e : Value} {env env' : Env} (h : env.frame = env'.frame) : noteFrame e env = noteFrame e env' := by
  unfold noteFrame PySem.frameOf
  rw [h]
section
variable {M : Model} {A : Around} {E : Value → Shared → Prop} {s : Shared} {env : Env}
def compPostX (M : Model) (A : Around) (E : Value → Shared → Prop) (Q : Value → Shared → Prop) (acc : Value) (cenv : Env) (r : Result) (s' : Shared) : Prop :=
  match r with
  | .ok _ => ∃ m, s'.heap.Ns cenv.locals m ∧ ∀ h', Heap.SameBut cenv.locals s'.heap h' → Q acc { s' with heap := h' }
  | .error x => ∃ m, s'.heap.Ns cenv.locals m ∧ ∀ h', Heap.SameBut cenv.locals s'.heap h' → ∀ cenv' : Env, cenv'.frame = cenv.frame → wpAny M A (passOn "comprehension.variables-let-go" x cenv' : Sem Value) (fun _ _ => False) E { s' with heap := h' }
theorem wpAny_comprehension_X {e : Expr} {scope : Scope} {pos : Pos} {newAcc first : Sem Value} {g : Comprehension} {gs : List Comprehension} {cl : List (Str × Addr)}
    {Q : Value → Shared → Prop}
    (hcl : clausesOf e = g :: gs) (hs : ∀ x, foldedSetIterable g.iter env x = pure x) (hclos : closureFor scope env = pure cl)
    (hkind : scope.kind = .function) (hnames : ∀ x ∈ scope.names, x.2 = .local → scope.names.lookup x.1 = some .local)
    (h : wpAny M A first (fun x s₁ => wpAny M A (pyIter x) (fun it s₂ => wpAny M A newAcc (fun acc s₃ =>
      wpAny M A (newFunctionEnv scope env.globals cl [] env.qual none .none (some env)) (fun cenv s₄ =>
        codeAny M A (.compStart e 0 it acc { cenv with scope := relabel scope env }) (compPostX M A E Q acc cenv) s₄) E s₃) E s₂) E s₁) E s) :
    wpAny M A (comprehension e scope env pos newAcc false first none) Q E s := by
  unfold comprehension
  rw [hclos, hcl]
  have on : ∀ {α : Type} {t : Sem α} {P P' : α → Shared → Prop} {s₀ : Shared}, wpAny M A t P E s₀ → (∀ v s₁, P v s₁ → P' v s₁) → wpAny M A t P' E s₀ := fun a b => wpAny_mono a b fun _ _ z => z
  refine wpAny_bind (on h fun x s₁ q₁ => wpAny_bind (wpAny_standAt (wpAny_bind (wpAny_of_eq (hs x) (wpAny_bind (wpAny_holding (on q₁ fun it s₂ q₂ => ?_)))))))
  refine wpAny_standIf (wpAny_bind (on q₂ fun acc s₃ q₃ => wpAny_bind (wpAny_pure (wpAny_bind (on q₃ fun cenv s₄ h₄ => ?_)))))
  dsimp only
  have hv : ∀ x ∈ (scope.names.filter fun y => (y.2 == .local || y.2 == .cell) && y.1 != (".0" : Str)).reverse, x.2 = .local → Env.kindOf { cenv with scope := relabel scope env } x.1 = some .local :=
    fun x hx hl => lookup_relabel_local (hnames x (List.mem_filter.mp (List.mem_reverse.mp hx)).1 hl)
  refine wpAny_holding (wpAny_bind (wpAny_attempt (wpAny_holding (wpAny_run (codeAny_mono h₄ fun r s' hr => ?_)))))
  cases r with
  | ok f =>
    obtain ⟨m, hn, hr⟩ := hr
    exact wpAny_bind (wpAny_holding (wpAny_comp_letGo (cenv := { cenv with scope := relabel scope env }) hkind _ s' m hv hn fun h' m' _ hs' => wpAny_pure (hr h' hs')))
  | error x =>
    obtain ⟨m, hn, hr⟩ := hr
    exact wpAny_bind (wpAny_holding (wpAny_comp_letGo (cenv := { cenv with scope := relabel scope env }) hkind _ s' m hv hn fun h' m' _ hs' => wpAny_mono (hr h' hs' _ rfl) (fun _ _ f => f.elim) fun _ _ y => y))
end
end PD
namespace PySem
namespace PXN
open HandSPX
variable {M : Model} {A : Around} {E : Value → Shared → Prop} {s : Shared} {base : Heap} {env : Env} {outer : List Env} {e : Addr} {Z : Obj → Prop} {L C : Addr}
/-- an exception that another frame's number holds is noted -/
theorem looks_otherZ {Q : Unit → Shared → Prop} (hZ : Steady1 Z) (hC : C ≠ L) (hfr : A.frames = some (env :: outer)) (hf : env.frame = some L) (hfl : HeldZ base (env :: outer) e Z C s.heap)
    (hQ : ∀ h', HeldZ base (env :: outer) e Z L h' → s.heap.UpToSlots h' → Q () { s with heap := h' }) : wpAny M A (noteFrame (.ref e) env) Q E s := by
  obtain ⟨stay, ground, funs, ob, fs, T, obT, gs, atE, zE, dE, f1, groundT, apart, atT, dT, f3⟩ := hfl
  have there : (Value.ref T != Value.none) = true := by simp
  unfold noteFrame
  simp only [hf]
  refine wpAny_bind (wpAny_field atE dE f1 ?_)
  rw [if_pos there]
  refine wpAny_bind (wpAny_field atT dT f3 ?_)
  rw [if_neg (show ¬ ((rawInt C == rawInt L) = true) from fun q => hC (by
    have q2 : rawInt C = rawInt L := by simpa using q
    unfold rawInt at q2
    injection q2 with q3
    exact Int.ofNat.inj q3))]
  refine wpAny_bind (wpAny_setField atT dT (Array.getElem?_eq_some_iff.mp f3).1 ?_)
  -- the heap whose record at T names no frame any more
  generalize hg : s.heap.update T (Obj.mapFields (·.setIfInBounds 3 Value.none)) = g
  have off : ∀ b, b ≠ T → g.get? b = s.heap.get? b := fun b hb => by rw [← hg]; exact Heap.get?_update_other _ _ (Ne.symm hb)
  have plainNe : ∀ b o, s.heap.get? b = some o → (∀ vs, o.data ≠ .fields vs) → b ≠ T := fun b o e n q => by
    subst q
    rw [atT] at e
    cases e
    exact n gs dT
  have stay2 : base.StaysIn g := fun b o e => (off b fun q => by rw [q, groundT] at e; cases e).trans (stay b o e)
  have funs2 : g.FunFrames base (env :: outer) := funs.of_keeps fun b o e n => ⟨o, (off b (plainNe b o e n)).trans e, rfl⟩
  refine wpAny_entryZ (s := { s with heap := g }) hZ hfr funs2 hf ((off e (Ne.symm apart)).trans atE) stay2 ground dE (Array.getElem?_eq_some_iff.mp f1).1 zE fun h' ⟨x1, x2, x3, x4⟩ => ?_
  exact hQ h' ⟨x1, ground, x2, x3⟩ fun b o e n => x4 b o ((off b (plainNe b o e n)).trans e) n
end PXN
end PySem
namespace PD
open PySem PySem.Spec PyProof.Rows L2
section
variable {X : Cx}
theorem fun_of {B B' h h' : Heap} {C : Addr} (hb : ∀ b, B.get? b = none → B'.get? b = none) (hh : ∀ b, b ≠ C → h'.get? b = h.get? b) : ∀ {l : List Env}, C ∉ frs l → h.FunFrames B l → h'.FunFrames B' l
  | [], _, _ => trivial
  | env :: rest, hc, ⟨k, ⟨L, o, e1, e2, e3, e4⟩, r⟩ => by
    have hL : L ≠ C := fun q => hc (List.mem_filterMap.mpr ⟨env, List.mem_cons_self, by rw [e1, q]⟩)
    refine ⟨k, ⟨L, o, e1, hb L e2, (hh L hL).trans e3, e4⟩, fun_of hb hh (fun q => hc ?_) r⟩
    obtain ⟨e, he, q⟩ := List.mem_filterMap.mp q
    exact List.mem_filterMap.mpr ⟨e, List.mem_cons_of_mem _ he, q⟩
/-- from the block's air into ours -/
theorem blk_takes {σ : L2.St} {pins : List (Addr × Obj)} {s3 : Shared} {H3 : Hp} {scope : Scope} {ce : Env} {fp : List Addr} {W : WX} {pnB : List (Addr × Obj)} {Qf : Value → Shared → Prop} {acc : Value}
    (hst : X.stack = X.env :: X.outer) (hf : X.env.frame = some X.env.locals) (tk : L2N.Takes X W) (I3 : Inv X pins σ H3 s3) (hcL : ce.locals = s3.heap.objs.size) (hcf : ce.frame = X.env.frame)
    (okB : (X.blk s3 H3 scope ce fp).Ok) (hfp : ∀ b ∈ fp, FpOk X pins H3 b) :
    L2N.Takes ((X.blk s3 H3 scope ce fp).tr pnB (notedBy (model X.prog X.w) X.A ce fun e s' => compPostX (model X.prog X.w) X.A X.xe Qf acc ce (.error e) s')) (fun cls d _ H' => W cls d σ H') := fun u s' xx => by
  obtain ⟨a, B, sI, pins', σ', H', cls, d, rfl, J', nb, up, sky, na, os, ag, w⟩ := xx
  have ok := I3.ok
  have hfr : X.A.frames = some (X.env :: X.outer) := by rw [ok.frames, hst]
  have J : Inv (X.blk s3 H3 scope ce fp) (pnB ++ pins') σ' H' sI := ⟨okB, J'.os, J'.bare, J'.base, J'.loc, J'.cell, J'.free, J'.freeC, J'.pin, J'.hok, J'.len⟩
  have nC : H' ce.locals = none := J.free
  have fC : FpOk X pins H' ce.locals := I3.fpOk (Nat.le_of_eq hcL.symm) nC
  have hCL : ce.locals ≠ X.env.locals := fC.2.1
  have hCf : ce.locals ∉ frs X.stack := fun hm => by
    rcases List.mem_cons.mp (I3.stkSub _ hm) with q | q
    · exact fC.2.1 q
    · exact fC.2.2.1 q
  obtain ⟨mI, nsI, _⟩ := id J.loc
  obtain ⟨oC, hoC⟩ : ∃ o, sI.heap.get? ce.locals = some o := by
    obtain ⟨o, _, _, q, _⟩ := nsI
    exact ⟨o, q⟩
  have hBC : B.get? ce.locals = some oC := nb _ _ hoC hCf
  have hokB : HOk X.prog X.w H' B := J.inGround nb
  show wpAny (model X.prog X.w) X.A (noteFrame (.ref a) ce) _ _ s'
  rw [noteFrame_eq hcf]
  have fin : ∀ h1, HandSPX.HeldZ B (X.env :: X.outer) a (L2N.Zn cls d) X.env.locals h1 → s'.heap.UpToSlots h1 → compPostX (model X.prog X.w) X.A X.xe Qf acc ce (.error (.ref a)) { s' with heap := h1 } := fun h1 hh up1 => by
    have J1 : Inv (X.blk s3 H3 scope ce fp) (pnB ++ pins') σ' H' { s' with heap := h1 } := J.landed (s' := { s' with heap := h1 }) nb hh.1 (up.trans up1) os ag
    obtain ⟨m, hn, _⟩ := J1.loc
    refine ⟨m, hn, fun h' sb cenv' hcf' => ?_⟩
    obtain ⟨st1, ban, ff1, oe, vs, T, oT, ts, he, hz, hd, hv1, hnT, hTe, hT, hdT, hts⟩ := hh
    have a_ne : a ≠ ce.locals := fun q => by rw [q, hBC] at ban; cases ban
    have T_ne : T ≠ ce.locals := fun q => by rw [q, hBC] at hnT; cases hnT
    obtain ⟨B2, b1, b2⟩ := restrict h' fun b => (B.get? b).isSome
    obtain ⟨G, g1, g2⟩ := restrict h' fun b => (B.get? b).isSome || decide (b ∈ frs X.stack)
    have og : ∀ b o, G.get? b = some o → h'.get? b = some o ∧ ((B.get? b).isSome = true ∨ b ∈ frs X.stack) := fun b o e => by
      cases q : ((B.get? b).isSome || decide (b ∈ frs X.stack)) with
      | false => rw [g2 b q] at e; cases e
      | true =>
        rw [g1 b q] at e
        exact ⟨e, by simpa [Bool.or_eq_true] using q⟩
    have hB' : ∀ b o, b ≠ ce.locals → B.get? b = some o → h'.get? b = some o := fun b o hb e => (sb.2 b hb).trans (st1 b o e)
    have gB : ∀ b o, b ≠ ce.locals → B.get? b = some o → G.get? b = some o := fun b o hb e => by rw [g1 b (by simp [e])]; exact hB' b o hb e
    have gF : ∀ b, b ∈ frs X.stack → G.get? b = h'.get? b := fun b hb => g1 b (by simp [hb])
    have fne : ∀ b, b ∈ frs X.stack → b ≠ ce.locals := fun b hb q => hCf (q ▸ hb)
    have slotG : ∀ b o, sI.heap.get? b = some o → b ∈ frs X.stack → ∃ sl, G.get? b = some { o with slots := sl } := fun b o e hb => by
      obtain ⟨_, o', e', hnf⟩ := J.stack.mem hb
      rw [e] at e'; cases e'
      obtain ⟨sl1, q1⟩ := up b o e hnf
      obtain ⟨sl2, q2⟩ := up1 b _ q1 hnf
      exact ⟨sl2, by rw [gF b hb, sb.2 b (fne b hb)]; exact q2⟩
    have anyG : ∀ b o, sI.heap.get? b = some o → b ≠ ce.locals → ∃ o', G.get? b = some o' := fun b o e hb => by
      by_cases hf : b ∈ frs X.stack
      · obtain ⟨sl, q⟩ := slotG b o e hf; exact ⟨_, q⟩
      · exact ⟨o, gB b o hb (nb b o e hf)⟩
    have uG : Un (frs X.stack) (ce.locals :: fp) H3 H' s3.heap G := by
      have ub : Un (frs X.stack) fp H3 H' s3.heap sI.heap := J.base
      have out : ∀ {b}, b ∉ ce.locals :: fp → b ≠ ce.locals ∧ b ∉ fp := fun {b} h => ⟨fun q => h (q ▸ List.mem_cons_self), fun q => h (List.mem_cons_of_mem _ q)⟩
      refine ⟨fun b o e n hb hx => gB b o (out hx).1 (nb b o (ub.keep b o e n hb (out hx).2) hb), fun b o e n hb hx => ?_, fun b o e n hx => ub.free b o e n (out hx).2, fun b o e hx => ?_, ub.tups, ub.frzs, ub.tbls⟩
      · obtain ⟨sl, q⟩ := ub.slot b o e n hb (out hx).2
        obtain ⟨sl2, q2⟩ := slotG b _ q hb
        exact ⟨sl2, q2⟩
      · obtain ⟨o', q⟩ := ub.there b o e (out hx).2
        exact anyG b o' q (out hx).1
    have hokG : HOk X.prog X.w H' G := fun b o e => (hokB b o e).stay (fun c u hc q => gB c u (fun z => by
      rcases hc with hc | hc
      · rw [← hc, z, nC] at e; cases e
      · rw [z, nC] at hc; cases hc) q) (fun _ q => q) fun _ _ q => q
    have IG : Inv X pins σ H' { sI with heap := G, gens := s'.gens, drawn := s'.drawn, toks := s'.toks } := I3.call' (ch := ce.locals :: fp) (s' := { sI with heap := G, gens := s'.gens, drawn := s'.drawn, toks := s'.toks }) J.os uG hokG ag fun b hb => by
      rcases List.mem_cons.mp hb with rfl | hb
      · exact ⟨fC.2.2.2.1, fC.2.1, fC.2.2.2.2.1, fC.2.2.2.2.2⟩
      · have q := hfp b hb
        exact ⟨q.2.2.2.1, q.2.1, q.2.2.2.2.1, q.2.2.2.2.2⟩
    have b2n : ∀ b, B.get? b = none → B2.get? b = none := fun b q => b2 b (by rw [q]; rfl)
    have st2 : B2.StaysIn h' := fun b o e => by
      cases q : (B.get? b).isSome with
      | false => rw [b2 b q] at e; cases e
      | true => rw [b1 b q] at e; exact e
    have ff2 : h'.FunFrames B2 (X.env :: X.outer) := fun_of b2n sb.2 (hst ▸ hCf) ff1
    unfold PySem.passOn
    refine wpAny_bind (wpAny_field ((sb.2 a a_ne).trans he) hd hv1 ?_)
    rw [if_neg (show ¬ ((Value.ref T == Value.none) = true) from by simp)]
    have cf : cenv'.frame = some X.env.locals := hcf'.trans (hcf.trans hf)
    rw [cf]
    have go : wpAny (model X.prog X.w) X.A (setFlight (.ref a) (some X.env.locals)) (fun _ s4 => wpAny (model X.prog X.w) X.A (throw (.ref a) : Sem Value) (fun _ _ => False) X.xe s4) X.xe { s' with heap := h' } := by
      refine HandSPX.setFlight_anyZ (s := { s' with heap := h' }) (l := X.env :: X.outer) (base := B2) (Z := L2N.Zn cls d) (fl := rawInt X.env.locals) st2 ff2 ⟨oe, vs, T, oT, ts, (sb.2 a a_ne).trans he, hz, hd, hv1, b2n T hnT, hTe, (sb.2 T T_ne).trans hT, hdT, hts⟩ fun h4 st4 ff4 tr4 up4 => wpAny_throw (tk _ _ ?_)
      exact ⟨a, B2, { sI with heap := G, gens := s'.gens, drawn := s'.drawn, toks := s'.toks }, pins, σ, H', cls, d, rfl, IG, fun b o e hb => by
        obtain ⟨e1, q⟩ := og b o e
        rcases q with q | q
        · rw [b1 b q]; exact e1
        · exact absurd q hb, fun b o e hnf => up4 b o (og b o e).1 hnf, .inr (.inr (by rw [hst]; exact ⟨st4, b2n a ban, ff4, tr4⟩)), na, os, ag, w⟩
    first
      | exact wpAny_bind (wpAny_pure (wpAny_bind go))
      | exact wpAny_bind go
  have sky' : L2.Sky B (X.env :: X.outer) a (L2N.Zn cls d) ce.locals s'.heap := by rw [← hst]; exact sky
  rcases sky' with ⟨hB, hn, hl, oe, vs, he, hz, hd, h1⟩ | fl | hh
  · exact PXN.look_newZ L2N.Zn.steady hfr hl hf he hB hn hd h1 hz fin
  · exact PXN.looks_onZ L2N.Zn.steady hfr hf fl fin
  · exact PXN.looks_otherZ L2N.Zn.steady hCL hfr hf hh fin

section
variable {elt tg iter : Expr} {ifs : List Expr} {scope : Scope} {own : List (Str × Nat)} {pos : Pos} {wi : TI} {g : TG} {tt : TT} {te : WX → TE} {W : WX}
/-- [elt for tg in iter if ..]: elt may raise what we take -/
theorem pe_lcX (hc : X.calm = true) (hN : X.N.Nodup) (hst : X.stack = X.env :: X.outer) (hf : X.env.frame = some X.env.locals) (tk : L2N.Takes X W) (hi : PI X tg iter wi) (ok : BlkOk X.N X.env.scope scope own)
    (hg : ∀ (s : Shared) (H : Hp) (C : Addr) (cl : List (Str × Addr)) (fp : List Addr), PG (X.blk s H scope (compEnvC scope cl C X.env) fp) tg g) (ht : ∀ (s : Shared) (H : Hp) (C : Addr) (cl : List (Str × Addr)) (fp : List Addr), PTs (X.blk s H scope (compEnvC scope cl C X.env) fp) ifs tt)
    (he : ∀ (Wb : WX) (s : Shared) (H : Hp) (C : Addr) (cl : List (Str × Addr)) (fp : List Addr) (pn : List (Addr × Obj)) (xe : Value → Shared → Prop), L2N.Takes ((X.blk s H scope (compEnvC scope cl C X.env) fp).tr pn xe) Wb → PE ((X.blk s H scope (compEnvC scope cl C X.env) fp).tr pn xe) elt (te Wb))
    (hs : ∀ x, foldedSetIterable iter X.env x = pure x := by intro _; rfl) :
    PE X (.ListComp elt [⟨tg, iter, ifs, 0⟩] scope pos) (fun σ H Q => tLc wi g tt (te fun cls d _ H' => W cls d σ H') (own.map (·.2)) σ H Q) := by
  refine ⟨fun pins s σ H Q I h => ?_⟩
  rw [eval_ListComp]
  have clo : ∀ y ∈ scope.names, y.2 = .free → ∃ c, X.env.cells.lookup y.1 = some c := fun y hy e => (ok.free y hy e).elim (fun k => I.ok.has _ (.inl k)) fun k => I.ok.has _ (.inr k)
  refine wpAny_comprehension_X rfl hs (closure_ok clo) ok.kind (fun y hy e => by rw [ok.uniq y hy, e]) (thn (hi.run pins s σ H _ I h) fun xv s1 q1 => thn q1 fun itv s2 q2 => ?_)
  obtain ⟨it, fp, tn, J, H2, rfl, I2, T, st2, f2, q⟩ := q2
  refine wpAny_newObj_type (newEnv_comp ?_) (by show 0 ≤ sizeLine; decide)
  generalize hD : s2.heap.objs.size = D
  have Dn : H2 D = none := I2.hok.fresh (Nat.le_of_eq hD)
  obtain ⟨Wn, ⟨m0, w0⟩, turn⟩ := q D Dn
  -- a list is laid for what is made
  generalize hs3 : ({ s2 with heap := s2.heap.push { cls := .type "list", data := .seq ([] : List Value).toArray } } : Shared) = s3
  have heap3 : s3.heap = s2.heap.push { cls := .type "list", data := .seq ([] : List Value).toArray } := by rw [← hs3]
  have I3 : Inv X pins σ (upd H2 D (.lst [])) s3 := by
    rw [← hs3]
    refine I2.laid (t' := s2.toks) (fun b o e => Heap.get?_push_of_some _ e) (Nat.le_of_eq hD) ⟨Nat.zero_le _, [], 0, .nil, ?_⟩
    rw [← hD]
    exact Heap.get?_push_size _ rfl
  have below : ∀ b ∈ fp, b < s2.heap.objs.size := fun b hb => let ⟨_, e, _⟩ := T.obj _ _ st2 b hb; Heap.lt_size e
  have walk : ∀ b ∈ fp, FpOk X pins (upd H2 D (.lst [])) b ∧ b < s3.heap.objs.size := fun b hb => by
    have lt := below b hb
    have z := f2 b hb
    refine ⟨⟨(upd_ne (by rw [← hD]; exact Nat.ne_of_lt lt)).trans z.1, z.2⟩, ?_⟩
    rw [heap3, Heap.size_push]
    exact Nat.lt_succ_of_lt lt
  have st3 : tn 0 s3.heap := T.keep _ _ _ st2 fun b _ o e => by rw [heap3]; exact Heap.get?_push_of_some _ e
  have I4 := block_start I3 ok hN walk
  have pg := hg s3 (upd H2 D (.lst [])) s3.heap.objs.size (cellsFrom (s3.heap.objs.size + 1) scope.names (cloFrom X.env.cells scope.names [])) fp
  have pt := ht s3 (upd H2 D (.lst [])) s3.heap.objs.size (cellsFrom (s3.heap.objs.size + 1) scope.names (cloFrom X.env.cells scope.names [])) fp
  have pe := fun Wb => he Wb s3 (upd H2 D (.lst [])) s3.heap.objs.size (cellsFrom (s3.heap.objs.size + 1) scope.names (cloFrom X.env.cells scope.names [])) fp
  show codeAny _ _ (.compStart (.ListComp elt [⟨tg, iter, ifs, 0⟩] scope pos) 0 (.ref it) (.ref D) (compEnvC scope (cellsFrom (s3.heap.objs.size + 1) scope.names (cloFrom X.env.cells scope.names [])) s3.heap.objs.size X.env))
    (compPostX (model X.prog X.w) X.A X.xe (EP X pins σ Q) (.ref D) (compEnvC scope (cellsFrom (s3.heap.objs.size + 1) scope.names (cloFrom X.env.cells scope.names [])) s3.heap.objs.size X.env)) { s3 with heap := pushCells (s3.heap.push { cls := .type "dict", data := .dict #[] }) scope.names }
  generalize hce : compEnvC scope (cellsFrom (s3.heap.objs.size + 1) scope.names (cloFrom X.env.cells scope.names [])) s3.heap.objs.size X.env = ce at I4 pg pt pe ⊢
  have ceL : ce.locals = s3.heap.objs.size := by subst hce; rfl
  have ceF : ce.frame = X.env.frame := by subst hce; rfl
  generalize hH3 : upd H2 D (.lst []) = H3 at I3 I4 pg pt pe w0 walk
  generalize hs4 : ({ s3 with heap := pushCells (s3.heap.push { cls := .type "dict", data := .dict #[] }) scope.names } : Shared) = s4 at I4 ⊢
  have okB : (X.blk s3 H3 scope ce fp).Ok := I4.ok
  have st4 : tn 0 s4.heap := T.keep _ _ _ st3 fun b _ o e => by rw [← hs4]; exact pushCells_keeps _ _ _ _ (Heap.get?_push_of_some _ e)
  have free4 : ∀ b ∈ fp, H3 b = none := fun b hb => (walk b hb).1.1
  have still : ∀ {σ' : L2.St} {H' : Hp} {s' : Shared}, Inv (X.blk s3 H3 scope ce fp) [] σ' H' s' → (∀ b ∈ fp, H' b = none) → ∀ b ∈ fp, FpOk (X.blk s3 H3 scope ce fp) [] H' b := fun {σ' H' s'} I' n b hb =>
    have ox := I'.ok
    ⟨n b hb, (ox.exf b hb).1, ox.exfs b hb, .inl hb, fun x c e => (ox.exf b hb).2 x c e, fun p hp => (by simp at hp)⟩
  let R : Result → Shared → Prop := compPostX (model X.prog X.w) X.A X.xe (EP X pins σ Q) (.ref D) ce
  let air : Value → Shared → Prop := notedBy (model X.prog X.w) X.A ce fun e s' => R (.error e) s'
  let Wb : WX := fun cls d _ H' => W cls d σ H'
  let Lp : Nat → Shared → Prop := fun n s' => ∃ i H', Inv (X.blk s3 H3 scope ce fp) [] (wipe σ (own.map (·.2))) H' s' ∧ tn i s'.heap ∧ (∀ b ∈ fp, H' b = none) ∧ Wn i n H'
  have takes : ∀ pn, L2N.Takes ((X.blk s3 H3 scope ce fp).tr pn air) Wb := fun pn => blk_takes (pnB := pn) hst hf tk I3 ceL ceF okB fun b hb => (walk b hb).1
  have loop : codeAny (model X.prog X.w) X.A (.compLoop (.ListComp elt [⟨tg, iter, ifs, 0⟩] scope pos) 0 (.ref it) (.ref D) ce) R s4 := by
    refine compLoop_any Lp ?_ m0 ⟨0, H3, I4, st4, free4, w0⟩
    rintro n s5 ⟨i, H5, I5, st5, n5, w5⟩
    rcases turn i n H5 w5 with ⟨stop, last⟩ | ⟨go, Nx, next, step⟩
    · refine thnF (T.done (X.blk s3 H3 scope ce fp) rfl rfl rfl hc i [] s5 _ H5 (fun _ _ => False) I5 (still I5 n5) st5 stop) fun r s6 ⟨hr, I6⟩ => ?_
      subst hr
      have I7 : Inv X pins σ H5 s6 := I3.call' (ch := fp) I6.os I6.base I6.hok I6.bare fun b hb => let z := (walk b hb).1; ⟨z.2.2.2.1, z.2.1, z.2.2.2.2.1, z.2.2.2.2.2⟩
      have fC : FpOk X pins H5 ce.locals := I3.fpOk (Nat.le_of_eq ceL.symm) I6.free
      obtain ⟨m, hn, _⟩ := I6.loc
      refine ⟨m, hn, fun h'' sb => ?_⟩
      obtain ⟨c0, c1, c2, c3, c4, c5⟩ := fC
      exact ⟨.ref D, H5, I7.turned (t' := s6.toks) (fun b o hb e => (sb.2 b hb).trans e) c0 c1 c3 c4 c5, rfl, last⟩
    · refine thnF (T.item (X.blk s3 H3 scope ce fp) rfl rfl rfl hc i [] s5 _ H5 (fun _ _ => False) I5 (still I5 n5) st5 go) fun r s6 ⟨u, hr, q6⟩ => ?_
      subst hr
      refine thnF q6 fun _ s7 ⟨x, H7, I7, r7, y7, st7, n7⟩ => ?_
      have P7 := I7.pinned (still I7 n7) (T.obj _ _ st7)
      refine thnF (pg.run _ s7 _ H7 x u _ P7 r7 (step x H7 y7)) fun _ s8 ⟨σ8, H8, I8, wiped, q8⟩ => ?_
      refine thnF (pt.run _ s8 σ8 H8 _ I8 q8) fun b s9 ⟨H9, I9, q9⟩ => ?_
      have over : ∀ {s' : Shared} {H' : Hp}, Inv (X.blk s3 H3 scope ce fp) ([] ++ pinsAt fp s7.heap) σ8 H' s' → Nx H' → ∃ m, m < n ∧ Lp m s' := fun {s' H'} I' nx => by
        obtain ⟨m', lt, w'⟩ := next H' nx
        have pinned : ∀ b ∈ fp, ∀ o, s7.heap.get? b = some o → s'.heap.get? b = some o ∧ H' b = none := fun b hb o e =>
          have z := I'.pin (b, o) (List.mem_append_right _ (List.mem_append_right _ (mem_pinsAt hb e)))
          ⟨z.1, z.2.1⟩
        have len8 : (wipe σ (own.map (·.2))).length = σ8.length := by rw [← wiped, wipe_length]
        refine ⟨m', lt, i + 1, H', (I'.unpinned (pins := [])).weak len8 (fun j v e => ?_), T.keep _ _ _ st7 fun b hb o e => (pinned b hb o e).1, fun b hb => ?_, w'⟩
        · rw [← wiped] at e
          exact (wipe_some e).1
        · obtain ⟨o, e, _⟩ := T.obj _ _ st7 b hb
          exact (pinned b hb o e).2
      cases b with
      | false =>
        simp only [Bool.false_eq_true, if_false] at q9 ⊢
        exact over I9 q9
      | true =>
        simp only [if_true] at q9 ⊢
        have run := (pe Wb ((X.blk s3 H3 scope ce fp).pn ++ ([] ++ pinsAt fp s7.heap)) air (takes _)).run [] s9 σ8 H9 _ (I9.toTry air) q9
        refine wpAny_mono run (fun z s10 ⟨yv, H10, I10, r10, made, hD10, hz10, nx⟩ => ?_) fun _ _ z => z
        exact app_ok (X := X.blk s3 H3 scope ce fp) (I10.ofTry okB) hD10 hz10 r10 fun s11 I11 => over I11 nx
  exact codeAny_compStart_list loop (T.self X.A 0 _ _ _ st4 loop)
end
end
end PD

set_option maxHeartbeats 4000000
/-! an error in whose making another one was handled: its context is known, and that one's is None -/
namespace PD
open PySem PySem.Spec PyProof.Rows L2
def ctxV : Option Addr → Value
  | none => .none
  | some b => .ref b
/-- its class, no dict of its own, its context -/
def Zm (cls : Value) (d : Option Addr) : Obj → Prop := fun o => o.cls = cls ∧ o.dict = none ∧ ∀ vs : Array Value, o.data = .fields vs → vs[2]? = some (ctxV d)
theorem Zm.steady {cls : Value} {d : Option Addr} : PXN.Steady1 (Zm cls d) := fun o v h => ⟨PXN.steady_cls o v h.1, PXN.steady_dict o v h.2.1, by
  obtain ⟨c, di, dt, sl⟩ := o
  cases dt with
  | fields w0 =>
    intro ws e
    have e2 : w0.setIfInBounds 1 v = ws := Data.fields.inj e
    rw [← e2, HotX.set_other (y := ctxV d) (by decide) (h.2.2 w0 rfl)]
  | _ => intro ws e; first | exact Data.noConfusion e | cases e⟩
theorem Zm.zc {cls : Value} {d : Option Addr} {o : Obj} (h : Zm cls d o) : Zc cls none o := ⟨h.1, h.2.1⟩
theorem Zm.of {cls : Value} {o : Obj} (h : L2N.Zn cls none o) : Zm cls none o := ⟨h.1, h.2.1, h.2.2⟩
theorem Zm.zn {cls : Value} {o : Obj} (h : Zm cls none o) : L2N.Zn cls none o := ⟨h.1, h.2.1, h.2.2⟩
/-- the context's own object, on the ground -/
def Cq (B : Heap) (H : Hp) : Option Addr → Prop
  | none => True
  | some b => ∃ ob vb, B.get? b = some ob ∧ H b = none ∧ ob.data = .fields vb ∧ vb[2]? = some .none
structure XMa (X : Cx) (W : WX) (s1 : Shared) (a : Addr) (B : Heap) (sI : Shared) (pins : List (Addr × Obj)) (σ : L2.St) (H : Hp) (cls : Value) (d : Option Addr) : Prop where
  inv : Inv X pins σ H sI
  gr : ∀ b o, sI.heap.get? b = some o → b ∉ frs X.stack → B.get? b = some o
  up : sI.heap.UpToSlots s1.heap
  sky : Sky B X.stack a (Zm cls d) X.env.locals s1.heap
  fr : H a = none
  os : s1.os = sI.os
  ag : AllBare s1.gens
  cq : Cq B H d
  w : W cls d σ H
def XM (X : Cx) (W : WX) (u : Value) (s1 : Shared) : Prop := ∃ a B sI pins σ H cls d, u = .ref a ∧ XMa X W s1 a B sI pins σ H cls d
def TakesM (X : Cx) (W : WX) : Prop := ∀ u s1, XM X W u s1 → X.xe u s1
theorem takesM0 {X : Cx} : TakesM X (fun _ _ _ _ => False) := fun _ _ ⟨_, _, _, _, _, _, _, _, _, x⟩ => x.w.elim
theorem TakesM.imp {X : Cx} {W W2 : WX} (t : TakesM X W) (h : ∀ c d σ H, W2 c d σ H → W c d σ H) : TakesM X W2 := fun u s1 ⟨a, B, sI, pins, σ, H, cls, d, e, x⟩ =>
  t u s1 ⟨a, B, sI, pins, σ, H, cls, d, e, x.inv, x.gr, x.up, x.sky, x.fr, x.os, x.ag, x.cq, h _ _ _ _ x.w⟩
theorem sky_imp {B : Heap} {l : List PySem.Env} {a L : Addr} {Z Z2 : Obj → Prop} {h : Heap} (z : ∀ o, Z o → Z2 o) (x : Sky B l a Z L h) : Sky B l a Z2 L h := by
  rcases x with ⟨h1, h2, h3, oe, vs, h4, hz, h5⟩ | x | x
  · exact .inl ⟨h1, h2, h3, oe, vs, h4, z _ hz, h5⟩
  · exact .inr (.inl (L2H.flyingZ_imp z x))
  · exact .inr (.inr ⟨x.1, x.2.1, x.2.2.1, L2H.tracedZ_imp z x.2.2.2⟩)
/-- an error without a context is one of these -/
theorem TakesM.n {X : Cx} {W : WX} (t : TakesM X W) : L2N.Takes X (fun cls d σ H => d = none ∧ W cls none σ H) := fun u s1 ⟨a, B, sI, pins, σ, H, cls, d, e, I, nb, up, sky, na, os, ag, ed, w⟩ => by
  subst ed
  exact t u s1 ⟨a, B, sI, pins, σ, H, cls, none, e, I, nb, up, sky_imp (fun o z => Zm.of z) sky, na, os, ag, trivial, w⟩
structure CMa (P : Program) (w : World) (outer : List PySem.Env) (H : Hp) (s : Shared) (E : XK) (s1 : Shared) (a : Addr) (B : Heap) (H1 : Hp) (cls : Value) (d : Option Addr) : Prop where
  fl : HandSPX.FlyingZ B outer a (Zm cls d) s1.heap
  ok : HOk P w H1 B
  ub : UB (frs outer) H H1 s.heap B s1.heap
  fr : H1 a = none
  os : s1.os = s.os
  ag : AllBare s1.gens
  cq : Cq B H1 d
  w : E cls d H1
/-- behind a call that raised such a one -/
def CM (P : Program) (w : World) : CXT := fun outer H s E u s1 => ∃ a B H1 cls d, u = .ref a ∧ CMa P w outer H s E s1 a B H1 cls d
section
variable {X : Cx} {pins : List (Addr × Obj)} {σ : L2.St} {H : Hp} {sI s s1 : Shared} {B : Heap} {W : WX} {E : XK}
theorem XM.called (I : Inv X pins σ H s) (hW : ∀ cls d G, E cls d G → W cls d σ G) {u : Value} (c : CM X.prog X.w X.stack H s E u s1) : XM X W u s1 := by
  obtain ⟨a, B, H1, cls, d, rfl, c⟩ := c
  obtain ⟨G, in1, out1⟩ := restrict s1.heap fun q => (B.get? q).isSome || decide (q ∈ frs X.stack)
  have stays : B.StaysIn s1.heap := c.fl.1
  have ground : ∀ q o, B.get? q = some o → G.get? q = some o := fun q o e => (in1 q (by simp [e])).trans (stays q o e)
  have frame : ∀ q, q ∈ frs X.stack → G.get? q = s1.heap.get? q := fun q m => in1 q (by simp [m])
  have back : ∀ q o, G.get? q = some o → s1.heap.get? q = some o ∧ ((B.get? q).isSome = true ∨ q ∈ frs X.stack) := fun q o e => by
    cases z : ((B.get? q).isSome || decide (q ∈ frs X.stack)) with
    | false => rw [out1 q z] at e; cases e
    | true => exact ⟨(in1 q z).symm.trans e, by simpa [Bool.or_eq_true] using z⟩
  have inv : Inv X pins σ H1 { s with heap := G, gens := s1.gens, drawn := s1.drawn, toks := s1.toks } := by
    refine I.call (ch := []) ⟨fun q o e n m _ => ground q o (c.ub.keep q o e n m), fun q o e n m _ => ?_, fun q o e n _ => c.ub.free q o e n, fun q o e _ => ?_, c.ub.tups, c.ub.frzs, c.ub.tbls⟩ (c.ok.kept ground) c.ag (fun _ z => nomatch z)
    · obtain ⟨sl, z⟩ := c.ub.slot q o e m
      exact ⟨sl, (frame q m).trans z⟩
    · by_cases m : q ∈ frs X.stack
      · obtain ⟨sl, z⟩ := c.ub.slot q o e m
        exact ⟨_, (frame q m).trans z⟩
      · obtain ⟨o2, z⟩ := c.ub.there q o e m
        exact ⟨o2, ground q o2 z⟩
  refine ⟨a, B, _, pins, σ, H1, cls, d, rfl, inv, fun q o e m => ?_, Heap.UpToSlots.of_keeps fun q o e => (back q o e).1, .inr (.inl c.fl), c.fr, c.os, c.ag, c.cq, hW _ _ _ c.w⟩
  obtain ⟨e1, h⟩ := back q o e
  rcases h with h | h
  · obtain ⟨o2, z⟩ := Option.isSome_iff_exists.mp h
    have z2 := stays q o2 z
    rw [e1] at z2; cases z2
    exact z
  · exact absurd h m
theorem XM.made {a : Addr} {oe : Obj} {vs : Array Value} {cls : Value} {d : Option Addr} (I : Inv X pins σ H sI) (k : ∀ q o, sI.heap.get? q = some o → s1.heap.get? q = some o) (hne : sI.heap.get? a = none) (he : s1.heap.get? a = some oe)
    (hz : Zm cls d oe) (hd : oe.data = .fields vs) (h1 : vs[1]? = some .none) (na : H a = none) (os : s1.os = sI.os) (ag : AllBare s1.gens) (cq : Cq (PySem.W.hideAll sI.heap (frs X.stack)) H d) (w : W cls d σ H) : XM X W (.ref a) s1 := by
  have hidden : (PySem.W.hideAll sI.heap (frs X.stack)).get? a = none := by
    cases z : (PySem.W.hideAll sI.heap (frs X.stack)).get? a with
    | none => rfl
    | some o => rw [PySem.W.of_hideAll _ z] at hne; cases hne
  exact ⟨a, _, sI, pins, σ, H, cls, d, rfl, I, fun q o e m => PySem.W.hideAll_get _ e m, Heap.UpToSlots.of_keeps k,
    .inl ⟨fun q o e => k q o (PySem.W.of_hideAll _ e), hidden, Heap.FunFrames.of_keeps (fun q o e _ => ⟨o, k q o e, rfl⟩) (funFrames_none I.stack fun q m => PySem.W.hideAll_none _ m), oe, vs, he, hz, hd, h1⟩, na, os, ag, cq, w⟩
theorem XM.leave (hs : X.stack = X.env :: X.outer) (hf : X.env.frame = some X.env.locals) (hex : X.ex = []) {E1 : Value → Shared → Prop} (hW : ∀ cls d σ G, W cls d σ G → E cls d G) {u : Value} (x : XM X W u s1) :
    wpAny (model X.prog X.w) X.A (leaving X.env u) (fun _ s2 => CM X.prog X.w X.outer X.H_0 X.s_0 E u s2) E1 s1 := by
  obtain ⟨a, B, sI, pins, σ, H, cls, d, rfl, x⟩ := x
  have I := x.inv
  have frames : X.A.frames = some (X.env :: X.outer) := by rw [I.ok.frames, hs]
  have noex : ∀ q, q ∉ X.ex := fun q m => by rw [hex] at m; cases m
  have away : ∀ q o, X.s_0.heap.get? q = some o → q ∉ X.fs → q ∉ frs X.stack := fun q o e n m => by
    rcases List.mem_cons.mp (I.stkSub q m) with z | z
    · have l1 := Heap.lt_size e
      have l2 := I.ok.above
      rw [z] at l1
      exact (Nat.lt_irrefl _ (Nat.lt_of_lt_of_le l1 l2)).elim
    · exact n z
  have inB := I.inGround x.gr
  have fin : ∀ h2, HandSPX.FlyingZ B X.outer a (Zm cls d) h2 → s1.heap.UpToSlots h2 → CM X.prog X.w X.outer X.H_0 X.s_0 E (.ref a) { s1 with heap := h2 } := fun h2 fl up2 => by
    refine ⟨a, B, H, cls, d, rfl, fl, inB, ⟨fun q o e n m => x.gr q o (I.base.keep q o e n m (noex q)) (away q o e m), fun q o e m => ?_, fun q o e n => I.base.free q o e n (noex q), fun q o e m => ?_, I.base.tups, I.base.frzs, I.base.tbls⟩, x.fr, x.os.trans I.os, x.ag, x.cq, hW _ _ _ _ x.w⟩
    · obtain ⟨_, o0, e0, nf⟩ := I.ok.funs.mem m
      rw [e] at e0; cases e0
      obtain ⟨sl1, e1⟩ := I.base.slot q o e (I.ok.frf q m) m (noex q)
      obtain ⟨sl2, e2⟩ := x.up q _ e1 nf
      obtain ⟨sl3, e3⟩ := up2 q _ e2 nf
      exact ⟨sl3, e3⟩
    · obtain ⟨o2, e1⟩ := I.base.there q o e (noex q)
      exact ⟨o2, x.gr q o2 e1 (away q o e m)⟩
  have sky := x.sky
  rw [hs] at sky
  rcases sky with ⟨hB, hn, hl, oe, vs, he, hz, hd, h1⟩ | fl | hd
  · exact PXN.leaving_firstZ Zm.steady frames hl hf he hB hn hd h1 hz fin
  · exact PXN.leaves_onZ Zm.steady frames hf fl fin
  · exact HandSPX.leaves_heldZ hf hd fin
theorem takesM_of (hs : X.stack = X.env :: X.outer) (hf : X.env.frame = some X.env.locals) (hex : X.ex = []) {E1 : Value → Shared → Prop}
    (hx : X.xe = fun e s2 => wpAny (model X.prog X.w) X.A (leaving X.env e) (fun _ s3 => CM X.prog X.w X.outer X.H_0 X.s_0 E e s3) E1 s2) : TakesM X (fun cls d _ G => E cls d G) := fun u s2 x => by
  rw [hx]
  exact XM.leave (W := fun cls d _ G => E cls d G) hs hf hex (fun _ _ _ _ h => h) x
theorem passM (tk : TakesM X W) (σ : L2.St) : PassesAt (CM X.prog X.w) X σ (L2.WE W σ) := fun _ _ _ e s2 I c => tk e s2 (XM.called I (fun _ _ _ h => h) c)
end
/-- raise C(..) from None in a suite -/
theorem ps_raiseM {X : Cx} {W : WX} {e : Expr} {t : L2.St → Hp → XK → Prop} {j : Nat} {cpos pos : Pos} (hot : L2H.HotC X) (tk : TakesM X W) (he : L2H.PMk5 X e t) :
    PS X (.Raise (some e) (some (.Constant .none j cpos)) pos) (fun _ σ H => t σ H fun cls d G => d = none ∧ ∀ b, W cls (some b) σ G) := by
  refine ⟨fun pins s σ H D I h => ?_⟩
  obtain ⟨p, ⟨hh, w1, e1, c1⟩, hp⟩ := hot
  have eq : exec (.Raise (some e) (some (.Constant .none j cpos)) pos) X.env = (do standAt pos; raiseStmt X.env (some (do let v ← eval e X.env; standAt pos; pure v)) (some (do let v ← eval (.Constant .none j cpos) X.env; standAt pos; pure v))) := rfl
  rw [eq]
  refine wpAny_bind (wpAny_standAt (HotX.raise_made_hotN (x1 := p.1) (fun s2 Q2 q2 => wpAny_bind (Constant_none (wpAny_bind (wpAny_standAt (wpAny_pure q2))))) (wpAny_bind (wpAny_mono (he pins s σ H _ I h) (fun u s1 hu => wpAny_bind (wpAny_standAt (wpAny_pure ?_))) fun _ _ z => z))))
  obtain ⟨⟨a, oe, vs, sI, H1, cls, d, rfl, J, k, hne, ha, hz, hd, h1, na, os, ag, r, ed, q⟩, h5⟩ := hu
  subst ed
  have six : 4 < vs.size := h5 a oe vs rfl ha hd
  have other : ∀ q u, sI.heap.get? q = some u → a ≠ q := fun q u z y => by rw [← y, hne] at z; cases z
  have k4 : ∀ q u, sI.heap.get? q = some u → (HotX.noneFrom s1.heap a).get? q = some u := fun q u z => by
    rw [HotX.noneFrom_other (other q u z)]
    exact k q u z
  have r1 := (r (model X.prog X.w) s1.heap (J.kIn.keeps k)).1
  have r2 := (r (model X.prog X.w) (HotX.noneFrom s1.heap a) (J.kIn.keeps k4)).2
  have pinned := J.pin p (List.mem_append_left _ hp)
  have away : p.1 ≠ a := fun z => other _ _ pinned.1 z.symm
  obtain ⟨ha4, hd4⟩ := HotX.noneFrom_at ha hd
  have h12 : (((vs.setIfInBounds 3 Value.none).setIfInBounds 4 (Value.bool true)).setIfInBounds 2 (Value.ref p.1))[1]? = some Value.none := HotX.set_other (by decide) (HotX.set_other (by decide) (HotX.set_other (by decide) h1))
  have hnew := Obj.data_mapFields hd4 (·.setIfInBounds 2 (.ref p.1))
  have nostk : p.1 ∉ frs X.stack := fun m => (List.mem_cons.mp (J.stkSub p.1 m)).elim pinned.2.2.1 pinned.2.2.2.1
  refine ⟨a, oe, vs, cls, rfl, ha, hz.1, hd, h1, six, away, ⟨hh, p.2, w1, k _ _ pinned.1, e1, c1⟩, r1, r2, tk _ _ (XM.made (d := some p.1) J (fun q u z => ?_) hne (Heap.get?_update_self _ ha4 (Obj.isFreed_of_fields hnew))
    ⟨by rw [Obj.cls_mapFields, Obj.cls_mapFields, Obj.cls_mapFields]; exact hz.1, by rw [HandSPX.dict_mapFields, HandSPX.dict_mapFields, HandSPX.dict_mapFields]; exact hz.2.1, fun ws e => ?_⟩ hnew h12 na os ag ⟨p.2, w1, PySem.W.hideAll_get _ pinned.1 nostk, pinned.2.1, e1, c1⟩ (q _))⟩
  · show ((HotX.noneFrom s1.heap a).update a (Obj.mapFields (·.setIfInBounds 2 (.ref p.1)))).get? q = some u
    rw [Heap.get?_update_other _ _ (other q u z)]
    exact k4 q u z
  · have e9 : ((vs.setIfInBounds 3 Value.none).setIfInBounds 4 (Value.bool true)).setIfInBounds 2 (Value.ref p.1) = ws := Data.fields.inj (hnew.symm.trans e)
    rw [← e9]
    have s2 : 2 < ((vs.setIfInBounds 3 Value.none).setIfInBounds 4 (Value.bool true)).size := by rw [HotX.set_size, HotX.set_size]; omega
    simp [Array.getElem?_setIfInBounds, s2, ctxV]
    omega
end PD

set_option maxHeartbeats 4000000
/-! try: .. except (A, B): a suite that raises -/
namespace PD
open PySem PySem.Spec PyProof.Rows L2
theorem fly_push {B h : Heap} {l : List PySem.Env} {a : Addr} {Z : Obj → Prop} (x : HandSPX.FlyingZ B l a Z h) (o : Obj) : HandSPX.FlyingZ B l a Z (h.push o) := by
  obtain ⟨k1, k2, k3, oe, vs, T, oT, ts, g1, g2, g3, g4, g5, g6, g7, g8⟩ := x
  exact ⟨fun q u e => Heap.get?_push_of_some _ (k1 q u e), k2, k3.of_keeps fun q u e _ => ⟨u, Heap.get?_push_of_some _ e, rfl⟩, oe, vs, T, oT, ts, Heap.get?_push_of_some _ g1, g2, g3, g4, g5, g6, Heap.get?_push_of_some _ g7, g8⟩
theorem off_frames {B h : Heap} {l : List PySem.Env} {a : Addr} {o : Obj} {vs : Array Value} (ff : h.FunFrames B l) (e : h.get? a = some o) (hd : o.data = .fields vs) : a ∉ frs l := fun m => by
  obtain ⟨_, o2, e2, nf⟩ := ff.mem m
  rw [e] at e2; cases e2
  exact nf _ hd
section
variable {X : Cx} {x1 x2 : Str} {c1 c2 : Value} {body suite : List Stmt} {b0 : Stmt} {np1 np2 tpos pos pos' : Pos} {kk : Nat} {tb : WX → TS} {ts : Addr → Value → Option Addr → TS} {Wout : WX}
theorem ps_tryTup (hs : X.stack = X.env :: X.outer) (hf : X.env.frame = some X.env.locals) (n1 : Names X x1 c1) (n2 : Names X x2 c2) (pas : ∀ hd : Option Value, PassesOwnAt (model X.prog X.w) (X.A.mark hd) X.A X.env X.xe) (tk : TakesM X Wout)
    (hb : ∀ (W0 : WX) (pn : List (Addr × Obj)) (xe : Value → Shared → Prop), L2N.Takes (X.tr pn xe) W0 → PassesOwn (model X.prog X.w) X.A X.env xe → PSs (X.tr pn xe) body (tb W0))
    (hsu : ∀ (a : Addr) (oe : Obj) (cls : Value) (d : Option Addr) (pn : List (Addr × Obj)), L2N.Zn cls d oe → (∃ vs, oe.data = .fields vs) → TakesM (L2H.suiteX X a ((a, oe) :: pn)) Wout → L2H.HotC (L2H.suiteX X a ((a, oe) :: pn)) → PSs (L2H.suiteX X a ((a, oe) :: pn)) (b0 :: suite) (ts a cls d)) :
    PS X (.Try body [.ExceptHandler (some (.Tuple [.Name x1 np1, .Name x2 np2] kk tpos)) none (b0 :: suite) pos'] [] [] pos)
      (fun D σ H => tb (fun cls d σ1 H1 => PySem.W.exmAny X.K cls [c1, c2] = some true ∧ ∀ a, H1 a = none → ts a cls d D σ1 H1) D σ H) := by
  refine ⟨fun pins s σ H D I q0 => ?_⟩
  have ok := I.ok
  have frames : X.A.frames = some (X.env :: X.outer) := by rw [ok.frames, hs]
  refine wpAny_Try_except ?_
  let caught : Value → Shared → Prop := fun e t1 => wpAny (model X.prog X.w) X.A (noteFrame e X.env) (fun _ t2 => wpAny (model X.prog X.w) X.A (setFlight e none) (fun _ t3 => wpAny (model X.prog X.w) X.A (handleBy e X.env [.ExceptHandler (some (.Tuple [.Name x1 np1, .Name x2 np2] kk tpos)) none (b0 :: suite) pos']) (SP X pins D) X.xe t3) X.xe t2) X.xe t1
  refine wpAny_mono ((hb (fun cls d σ1 H1 => PySem.W.exmAny X.K cls [c1, c2] = some true ∧ ∀ a, H1 a = none → ts a cls d D σ1 H1) (X.pn ++ pins) caught (fun u t xx => ?_) PassesOwn.looking).run [] s σ H D (I.toTry _) q0) (fun f t hsp => ?_) (fun e t he => he)
  · obtain ⟨a, B, sI, pins2, σ1, H1, cls, d, rfl, J0, nb, up, sky, na, os, ag, hm, hgo⟩ := xx
    have J : Inv X pins σ1 H1 sI := J0.ofTry ok
    have sky2 : Sky B (X.env :: X.outer) a (L2N.Zn cls d) X.env.locals t.heap := by rw [← hs]; exact sky
    show wpAny (model X.prog X.w) X.A (noteFrame (.ref a) X.env) _ _ _
    refine L2N.Sky.land L2N.Zn.steady frames hf sky2 fun h3 fl3 up3 => ?_
    have J3 : Inv X pins σ1 H1 { t with heap := h3 } := J.landed nb fl3.1 (up.trans up3) os ag
    obtain ⟨oe3, vs3, he3, hz3, hd3⟩ := fl3.there
    have off := off_frames fl3.2.2.1 he3 hd3
    have nL : a ≠ X.env.locals := fun z => off (List.mem_filterMap.mpr ⟨X.env, List.mem_cons_self, by rw [hf, z]⟩)
    have nF : a ∉ X.fs := fun m => let ⟨e, he, q⟩ := List.mem_filterMap.mp m; off (List.mem_filterMap.mpr ⟨e, List.mem_cons_of_mem _ he, q⟩)
    have S3 := J3.suite he3 hd3 na nL nF
    refine wpAny_handleBy_cons (codeAny_handlers_test ?_) (by intro q; cases q)
    have LT : PySem.W.Looks (model X.prog X.w) h3 (typeOf (.ref a)) cls := fun A Q E s k q => wpAny_typeOf_ref (k _ _ he3) (by rw [hz3.1]; exact q)
    have named : ∀ {x : Str} {c : Value} {np : Pos} {Q : Value → Shared → Prop} {E : Value → Shared → Prop}, Names X x c → Q c { t with heap := h3 } → wpAny (model X.prog X.w) (X.A.mark (some (.ref a))) (eval (.Name x np) X.env) Q E { t with heap := h3 } := fun {x c np Q E} hc q => by
      obtain ⟨hg, hdbg, hm | ⟨hm, hv, hnn⟩⟩ := hc
      · exact ld_glob (X := X.suite a ((a, oe3) :: (X.pn ++ pins))) S3 hg hm q hdbg
      · exact ld_blt (X := X.suite a ((a, oe3) :: (X.pn ++ pins))) S3 hg hm hv q hnn hdbg
    refine wpAny_Tuple (wpAny_items_cons (named n1 (wpAny_items_cons (named n2 (wpAny_items_nil ⟨by size_fits, ?_⟩)))))
    have kp : ∀ q u, h3.get? q = some u → (h3.push { cls := .type "tuple", data := .seq [c1, c2].toArray }).get? q = some u := fun _ _ z => Heap.get?_push_of_some _ z
    have LM := PySem.W.exm_tup2 (M := model X.prog X.w) (J3.kIn.keeps kp) (LT.keeps kp) (Heap.get?_push_size h3 rfl) hm
    refine LM.here ?_
    refine codeAny_handlers_suite ?_
    refine HandSPX.lands_againZ (s := { t with heap := h3.push { cls := .type "tuple", data := .seq [c1, c2].toArray } }) (fly_push fl3 _) fun h4 fl4 up4 => ?_
    have J4 : Inv X pins σ1 H1 { t with heap := h4 } := J.landed nb fl4.1 (((up.trans up3).trans (Heap.UpToSlots.of_keeps kp)).trans up4) os ag
    obtain ⟨oe4, vs4, he4, hz4, hd4⟩ := fl4.there
    have S4 := J4.suite he4 hd4 na nL nF
    have tkS : TakesM (L2H.suiteX X a ((a, oe4) :: (X.pn ++ pins))) Wout := fun u2 t2 x2 => by
      obtain ⟨a2, B2, sI2, pn2, σ2, H2, cls2, d2, e2, y⟩ := x2
      exact tk u2 t2 ⟨a2, B2, sI2, pins, σ2, H2, cls2, d2, e2, L2H.unsuiteX y.inv ok, y.gr, y.up, y.sky, y.fr, y.os, y.ag, y.cq, y.w⟩
    have hot : L2H.HotC (L2H.suiteX X a ((a, oe4) :: (X.pn ++ pins))) := ⟨(a, oe4), ⟨rfl, vs4, hd4, hz4.2.2 vs4 hd4⟩, List.mem_cons_self⟩
    refine wpAny_mono ((hsu a oe4 cls d (X.pn ++ pins) hz4 ⟨_, hd4⟩ tkS hot).run [] _ _ H1 _ (L2H.suiteX_of S4) (hgo a na)) (fun f s6 hsp => ?_) (fun e6 s6 z => pas (some (.ref a)) e6 s6 z)
    cases f with
    | next => obtain ⟨σ6, H6, S6, q6⟩ := hsp; exact ⟨_, _, L2H.unsuiteX S6 ok, q6⟩
    | brk => obtain ⟨σ6, H6, S6, q6⟩ := hsp; exact ⟨_, _, L2H.unsuiteX S6 ok, q6⟩
    | cont => obtain ⟨σ6, H6, S6, q6⟩ := hsp; exact ⟨_, _, L2H.unsuiteX S6 ok, q6⟩
    | ret u => obtain ⟨v6, σ6, H6, S6, r6, q6⟩ := hsp; exact ⟨_, _, _, L2H.unsuiteX S6 ok, r6, q6⟩
  · cases f with
    | next => obtain ⟨σ2, H2, J2, q⟩ := hsp; exact wpAny_execs_nil ⟨σ2, H2, J2.ofTry ok, q⟩
    | brk => obtain ⟨σ2, H2, J2, q⟩ := hsp; exact ⟨σ2, H2, J2.ofTry ok, q⟩
    | cont => obtain ⟨σ2, H2, J2, q⟩ := hsp; exact ⟨σ2, H2, J2.ofTry ok, q⟩
    | ret u => obtain ⟨v, σ2, H2, J2, r, q⟩ := hsp; exact ⟨v, σ2, H2, J2.ofTry ok, r, q⟩
end
-- try: f(..) except NoNote as n: what is raised is a known one; the suite has it and its context at hand
section
variable {X : Cx} {x n : Str} {c : Value} {i : Nat} {body suite : List Stmt} {b0 : Stmt} {np pos pos' : Pos} {tb : WX → TS} {ts : Addr → Value → Option Addr → TS}
/-- what is at hand in the suite: the error, and its context, if it has one -/
def AtHand (X : Cx) (a : Addr) (cls : Value) (d : Option Addr) : Prop := ∃ oe vs, (a, oe) ∈ X.pn ∧ Zm cls d oe ∧ oe.data = .fields vs ∧ X.A.handled = some (.ref a) ∧
  ∀ b, d = some b → b ≠ a ∧ ∃ ob vb, (b, ob) ∈ X.pn ∧ ob.data = .fields vb ∧ vb[2]? = some .none
theorem ps_tryM (hs : X.stack = X.env :: X.outer) (hf : X.env.frame = some X.env.locals) (hN : X.N.Nodup) (hi : X.N[i]? = some n) (hln : X.env.kindOf n = some .local) (hc : Names X x c)
    (hb : ∀ (W0 : WX) (pn : List (Addr × Obj)) (xe : Value → Shared → Prop), TakesM (X.tr pn xe) W0 → PassesOwn (model X.prog X.w) X.A X.env xe → PSs (X.tr pn xe) body (tb W0))
    (hsu : ∀ (a : Addr) (cls : Value) (d : Option Addr) (pn : List (Addr × Obj)), AtHand (X.suite a pn) a cls d → PSs (X.suite a pn) (b0 :: suite) (ts a cls d)) :
    PS X (.Try body [.ExceptHandler (some (.Name x np)) (some n) (b0 :: suite) pos'] [] [] pos) (fun D σ H => tb (fun cls d σ1 H1 => PySem.W.exmOne X.K cls c = some true ∧
      ∀ a, H1 a = none → ts a cls d ⟨fun σ2 H2 => D.nx (σ2.set i none) H2, D.rt, fun σ2 H2 => D.bk (σ2.set i none) H2, fun σ2 H2 => D.ct (σ2.set i none) H2⟩ (σ1.set i (some (.ref a))) H1) D σ H) := by
  refine ⟨fun pins s σ H D I q0 => ?_⟩
  have ok := I.ok
  have isloc : L2.Loc X.env.scope n := .inl hln
  have frames : X.A.frames = some (X.env :: X.outer) := by rw [ok.frames, hs]
  refine wpAny_Try_except ?_
  let caught : Value → Shared → Prop := fun e t1 => wpAny (model X.prog X.w) X.A (noteFrame e X.env) (fun _ t2 => wpAny (model X.prog X.w) X.A (setFlight e none) (fun _ t3 => wpAny (model X.prog X.w) X.A (handleBy e X.env [.ExceptHandler (some (.Name x np)) (some n) (b0 :: suite) pos']) (SP X pins D) X.xe t3) X.xe t2) X.xe t1
  refine wpAny_mono ((hb _ (X.pn ++ pins) caught (fun u t xx => ?_) PassesOwn.looking).run [] s σ H D (I.toTry _) q0) (fun f t hsp => ?_) (fun e t he => he)
  · obtain ⟨a, B, sI, pins2, σ1, H1, cls, d, rfl, y⟩ := xx
    obtain ⟨hm, hgo⟩ := y.w
    have J : Inv X pins σ1 H1 sI := y.inv.ofTry ok
    have nb := y.gr
    have sky2 : Sky B (X.env :: X.outer) a (Zm cls d) X.env.locals t.heap := by rw [← hs]; exact y.sky
    show wpAny (model X.prog X.w) X.A (noteFrame (.ref a) X.env) _ _ _
    refine L2N.Sky.land Zm.steady frames hf sky2 fun h3 fl3 up3 => ?_
    have J3 : Inv X pins σ1 H1 { t with heap := h3 } := J.landed nb fl3.1 (y.up.trans up3) y.os y.ag
    obtain ⟨oe3, vs3, he3, hz3, hd3⟩ := fl3.there
    have off := off_frames fl3.2.2.1 he3 hd3
    have noL : ∀ {q : Addr}, q ∉ frs (X.env :: X.outer) → q ≠ X.env.locals := fun off z => off (List.mem_filterMap.mpr ⟨X.env, List.mem_cons_self, by rw [hf, z]⟩)
    have noF : ∀ {q : Addr}, q ∉ frs (X.env :: X.outer) → q ∉ X.fs := fun off m => let ⟨e, he, q⟩ := List.mem_filterMap.mp m; off (List.mem_filterMap.mpr ⟨e, List.mem_cons_of_mem _ he, q⟩)
    have S3 := J3.suite he3 hd3 y.fr (noL off) (noF off)
    refine wpAny_handleBy_cons (codeAny_handlers_test ?_) (by intro q; cases q)
    have LT : PySem.W.Looks (model X.prog X.w) h3 (typeOf (.ref a)) cls := fun A Q E s k q => wpAny_typeOf_ref (k _ _ he3) (by rw [hz3.1]; exact q)
    have LM := PySem.W.exm_one (M := model X.prog X.w) (J3.kIn) LT hm
    have named : ∀ {Q : Value → Shared → Prop} {E : Value → Shared → Prop}, Q c { t with heap := h3 } → wpAny (model X.prog X.w) (X.A.mark (some (.ref a))) (eval (.Name x np) X.env) Q E { t with heap := h3 } := fun {Q E} q => by
      obtain ⟨hg, hdbg, hm | ⟨hm, hv, hnn⟩⟩ := hc
      · exact ld_glob (X := X.suite a ((a, oe3) :: (X.pn ++ pins))) S3 hg hm q hdbg
      · exact ld_blt (X := X.suite a ((a, oe3) :: (X.pn ++ pins))) S3 hg hm hv q hnn hdbg
    refine named (LM.here ?_)
    refine codeAny_handlers_suite_as (HandSPX.lands_againZ fl3 fun h4 fl4 up4 => ?_)
    have J4 : Inv X pins σ1 H1 { t with heap := h4 } := J.landed nb fl4.1 ((y.up.trans up3).trans up4) y.os y.ag
    obtain ⟨oe4, vs4, he4, hz4, hd4⟩ := fl4.there
    -- the context is pinned too
    obtain ⟨more, J5, hmore⟩ : ∃ more : List (Addr × Obj), Inv X (more ++ pins) σ1 H1 { t with heap := h4 } ∧ ∀ b, d = some b → b ≠ a ∧ ∃ ob vb, (b, ob) ∈ more ∧ ob.data = .fields vb ∧ vb[2]? = some .none := by
      cases d with
      | none => exact ⟨[], J4, fun b e => nomatch e⟩
      | some b =>
        obtain ⟨ob, vb, gB, gH, gd, g2⟩ := y.cq
        have gt : h4.get? b = some ob := fl4.1 b ob gB
        have offb := off_frames fl4.2.2.1 gt gd
        refine ⟨[(b, ob)], ⟨J4.ok, J4.os, J4.bare, J4.base, J4.loc, J4.cell, J4.free, J4.freeC, fun p hp => ?_, J4.hok, J4.len⟩, fun b2 e => ?_⟩
        · rcases List.mem_append.mp hp with z | z
          · exact J4.pin p (List.mem_append_left _ z)
          · rcases List.mem_append.mp z with z | z
            · have ep : p = (b, ob) := by simpa using z
              rw [ep]
              exact ⟨gt, gH, noL offb, noF offb, fun v z => by have z : ob.data = .cell v := z; rw [gd] at z; cases z⟩
            · exact J4.pin p (List.mem_append_right _ z)
        · cases e
          refine ⟨fun z => ?_, ob, vb, List.mem_singleton_self _, gd, g2⟩
          rw [z, fl4.2.1] at gB; cases gB
    have S5 := J5.suite he4 hd4 y.fr (noL off) (noF off)
    have hand : AtHand (X.suite a ((a, oe4) :: (X.pn ++ (more ++ pins)))) a cls d := ⟨oe4, vs4, List.mem_cons_self, hz4, hd4, rfl, fun b e => by
      obtain ⟨h1, ob, vb, h2, h3, h4⟩ := hmore b e
      exact ⟨h1, ob, vb, List.mem_cons_of_mem _ (List.mem_append_right _ (List.mem_append_left _ h2)), h3, h4⟩⟩
    refine store_ok (X := X.suite a ((a, oe4) :: (X.pn ++ (more ++ pins)))) (v := .ref a) S5 hN hi isloc rfl (fun s5 S5 => ?_) (.inr hln)
    refine wpAny_mono ((hsu a cls d _ hand).run [] s5 _ H1 _ S5 (hgo a y.fr)) (fun f s6 hsp => ?_) (fun _ _ z => False.elim z)
    have drop : ∀ {σ6 : L2.St} {H6 : Hp} {s7 : Shared}, Inv X (more ++ pins) σ6 H6 s7 → Inv X pins σ6 H6 s7 := fun K => ⟨K.ok, K.os, K.bare, K.base, K.loc, K.cell, K.free, K.freeC, fun p hp => K.pin p (by
      rcases List.mem_append.mp hp with z | z
      · exact List.mem_append_left _ z
      · exact List.mem_append_right _ (List.mem_append_right _ z)), K.hok, K.len⟩
    have over : ∀ {σ6 : L2.St} {H6 : Hp} {Q : Shared → Prop}, Inv (X.suite a ((a, oe4) :: (X.pn ++ (more ++ pins)))) [] σ6 H6 s6 → (∀ s7, Inv X pins (σ6.set i none) H6 s7 → Q s7) →
        wpAny (model X.prog X.w) X.A (do bindName X.env n .none; unbindBehindTheSuite X.env n pos') (fun _ s7 => Q s7) X.xe s6 := fun {σ6 H6 Q} S6 hq => gone_ok (S6.unsuite ok) hN hi hln fun s7 K => hq s7 (drop K)
    cases f with
    | next => obtain ⟨σ6, H6, S6, q6⟩ := hsp; exact over S6 fun s7 J7 => ⟨_, _, J7, q6⟩
    | brk => obtain ⟨σ6, H6, S6, q6⟩ := hsp; exact over S6 fun s7 J7 => ⟨_, _, J7, q6⟩
    | cont => obtain ⟨σ6, H6, S6, q6⟩ := hsp; exact over S6 fun s7 J7 => ⟨_, _, J7, q6⟩
    | ret u => obtain ⟨v6, σ6, H6, S6, r6, q6⟩ := hsp; exact over S6 fun s7 J7 => ⟨_, _, _, J7, r6, q6⟩
  · cases f with
    | next => obtain ⟨σ2, H2, J2, q⟩ := hsp; exact wpAny_execs_nil ⟨σ2, H2, J2.ofTry ok, q⟩
    | brk => obtain ⟨σ2, H2, J2, q⟩ := hsp; exact ⟨σ2, H2, J2.ofTry ok, q⟩
    | cont => obtain ⟨σ2, H2, J2, q⟩ := hsp; exact ⟨σ2, H2, J2.ofTry ok, q⟩
    | ret u => obtain ⟨v, σ2, H2, J2, r, q⟩ := hsp; exact ⟨v, σ2, H2, J2.ofTry ok, r, q⟩
end
end PD

set_option maxHeartbeats 4000000
/-! while an error is handled whose context is known: a list's end, a comprehension over truths, a call -/
namespace PD
open PySem PySem.Spec PyProof.Rows L2
/-- x1 is handled; its context is None or x2, whose context is None -/
def Hot2 (A : Around) (x1 x2 : Addr) (h : Heap) : Prop := A.handled = some (.ref x1) ∧ ∃ o vs, h.get? x1 = some o ∧ o.data = .fields vs ∧
  (vs[2]? = some .none ∨ (x2 ≠ x1 ∧ vs[2]? = some (.ref x2) ∧ ∃ ob vb, h.get? x2 = some ob ∧ ob.data = .fields vb ∧ vb[2]? = some .none))
theorem Hot2.kept {A : Around} {x1 x2 : Addr} {h h' : Heap} (t : Hot2 A x1 x2 h) (k1 : ∀ o, h.get? x1 = some o → h'.get? x1 = some o) (k2 : ∀ o, h.get? x2 = some o → h'.get? x2 = some o) : Hot2 A x1 x2 h' := by
  obtain ⟨hh, o, vs, e, d, c⟩ := t
  refine ⟨hh, o, vs, k1 o e, d, ?_⟩
  rcases c with c | ⟨n, c, ob, vb, e2, d2, c2⟩
  · exact .inl c
  · exact .inr ⟨n, c, ob, vb, k2 ob e2, d2, c2⟩
section
variable {prog : Program} {w : World} {A : Around} {E : Value → Shared → Prop} {s : Shared}
theorem unchained_one {x0 x1 a : Addr} {o1 : Obj} {vs1 : Array Value} {t : Bool} {Q : Value → Shared → Prop} (h1 : s.heap.get? x1 = some o1) (d1 : o1.data = .fields vs1) (c1 : vs1[2]? = some .none) (q : Q .none s) :
    codeAny (model prog w) A (.builtin "proto.unchain" ⟨[.ref a, .ref x1, .ref x0, .bool t], []⟩) (fun r s' => match r with | .ok (.ret v) => Q v s' | _ => False) s := by
  refine codeAny_builtin HotX.entry_unchain ?_
  show wpAny _ _ (field (.ref x1) 2 >>= _) _ _ s
  refine wpAny_bind (wpAny_field h1 d1 c1 ?_)
  rw [if_pos (show (Value.none == Value.none) = true from rfl)]
  first
  | exact wpAny_bind (wpAny_pure (wpAny_pure q))
  | exact wpAny_pure q
theorem unchained2 {x1 x2 a : Addr} {Q : Value → Shared → Prop} (t : Hot2 A x1 x2 s.heap) (na : x2 ≠ a) (q : Q .none s) :
    wpAny (model prog w) A (holding [Value.ref a] (runValue (.builtin "proto.unchain" ⟨[.ref a, .ref x1, .ref x1, .bool false], []⟩))) Q E s := by
  obtain ⟨hh, o, vs, e, d, c⟩ := t
  rcases c with c | ⟨n, c, ob, vb, e2, d2, c2⟩
  · exact HotX.unchained e d c q
  refine wpAny_holding (wpAny_runValue (codeAny_builtin HotX.entry_unchain ?_))
  show wpAny _ _ (field (.ref x1) 2 >>= _) _ _ s
  refine wpAny_bind (wpAny_field e d c ?_)
  have b1 : (Value.ref x2 == Value.none) = false := rfl
  have b2 : (Value.ref x2 == Value.ref a) = false := by simp [na]
  have b3 : (Value.ref x2 == Value.ref x1) = false := by simp [n]
  simp only [b1, b2, b3, Bool.false_eq_true, if_false, pure_bind]
  refine wpAny_pure ⟨Code.quiet_builtin _ (by decide +kernel), codeAny_mono (unchained_one (x0 := x1) (t := !false) e2 d2 c2 q) fun r s' h => ?_⟩
  cases r with
  | error z => exact h.elim
  | ok f =>
    cases f with
    | ret v => exact h
    | next => exact h.elim
    | brk => exact h.elim
    | cont => exact h.elim
theorem raiseNew2 {α : Type} {a x1 x2 : Addr} {oe : Obj} {vs : Array Value} {Q : α → Shared → Prop} (t : Hot2 A x1 x2 s.heap) (n1 : x1 ≠ a) (n2 : x2 ≠ a) (ha : s.heap.get? a = some oe) (da : oe.data = .fields vs) (hi : 2 < vs.size)
    (hE : E (.ref a) { s with heap := s.heap.update a (Obj.mapFields (·.setIfInBounds 2 (.ref x1))) }) : wpAny (model prog w) A (raiseNew (.ref a) : Sem α) Q E s := by
  unfold raiseNew
  refine wpAny_bind (wpAny_handled ?_)
  rw [t.1]
  have hb : (Value.ref x1 != Value.ref a) = true := HotX.ref_bne n1
  first
  | (show wpAny _ _ (if (Value.ref x1 != Value.ref a) = true then _ else _) _ _ _
     rw [if_pos hb]
     first
     | exact wpAny_bind (unchained2 t n2 (wpAny_bind (HotX.chained ha da hi (wpAny_throw hE))))
     | exact wpAny_bind (wpAny_bind (unchained2 t n2 (HotX.chained ha da hi (wpAny_throw hE)))))
  | (refine wpAny_bind ?_
     show wpAny _ _ (if (Value.ref x1 != Value.ref a) = true then _ else _) _ _ _
     rw [if_pos hb]
     exact wpAny_bind (unchained2 t n2 (HotX.chained ha da hi (wpAny_throw hE))))
theorem hot2_listEnd {it l x1 x2 : Addr} {i : Nat} {items : Array Value} {Q : Option Value → Shared → Prop} (hot : Hot2 A x1 x2 s.heap) (hit : s.heap.IsListIter it l i) (hl : s.heap.IsList l items) (hx : items[i]? = none) (hne : x1 ≠ it) (hne2 : x2 ≠ it) (l2 : x2 < s.heap.objs.size) (l1 : x1 < s.heap.objs.size)
    (hQ : ∀ h', Heap.ExtBut it s.heap h' → Q none { s with heap := h' }) : wpAny (model prog w) A (pyNext (.ref it)) Q E s := by
  obtain ⟨o, ho, hc, hd⟩ := id hit
  obtain ⟨ol, hol, hcl, nl, hdl⟩ := hl
  unfold pyNext
  refine wpAny_bind (wpAny_attempt (wpAny_callSpecial?_slot (name := Str.ofString "__next__") hit.typeIs slot_listiter_next (wpAny_call_entry slot_listiter_next hit.typeIs entry_listiter_next ?_ (args_listiter_next _))))
  show wpAny _ _ (field (.ref it) 0 >>= _) _ _ s
  refine wpAny_bind (wpAny_field ho hd (x := .ref l) rfl ?_)
  show wpAny _ _ (if (Value.ref l == Value.none) = true then _ else _) _ _ s
  rw [if_neg (show ¬ ((Value.ref l == Value.none) = true) from Bool.false_ne_true)]
  show wpAny _ _ (field (.ref it) 1 >>= _) _ _ s
  refine wpAny_bind (wpAny_field ho hd (x := .int i 0) rfl ?_)
  show wpAny _ _ (seqItems? (.ref l) >>= _) _ _ s
  refine wpAny_bind (wpAny_seqItems hol hdl ?_)
  simp only [Int.toNat_natCast, hx]
  refine wpAny_bind (wpAny_rule (wpAny_bind (wpAny_setField ho hd (by simp) ?_)))
  show wpAny _ _ (newExc (.type "StopIteration") [] >>= _) _ _ _
  refine wpAny_bind ?_
  simp only [newExc, newTuple]
  refine wpAny_bind (wpAny_newObj_type ?_ (by size_fits))
  refine wpAny_bind (m := firstArgMember _ _) (wpAny_of_eq (a := Value.none) (by first | rfl | (simp only [firstArgMember]; rfl)) ?_)
  refine wpAny_newObj_type ?_ (by size_fits)
  have keep : ∀ {x : Addr}, x ≠ it → ∀ o, s.heap.get? x = some o → (s.heap.update it (Obj.mapFields (·.setIfInBounds 0 Value.none))).get? x = some o := fun n o e => (Heap.get?_update_other _ _ (Ne.symm n)).trans e
  have k2 : ∀ {x : Addr}, x ≠ it → ∀ o, s.heap.get? x = some o → ((s.heap.update it (Obj.mapFields (·.setIfInBounds 0 Value.none))).push { cls := .type "tuple", data := .seq ([] : List Value).toArray }).get? x = some o := fun n o e => Heap.get?_push_of_some _ (keep n o e)
  have sz : ∀ {x : Addr}, x < s.heap.objs.size → x ≠ ((s.heap.update it (Obj.mapFields (·.setIfInBounds 0 Value.none))).push { cls := .type "tuple", data := .seq ([] : List Value).toArray }).objs.size := fun {x} l z => by
    have z2 : x = _ := z
    rw [Heap.size_push, Heap.size_update] at z2
    have l : x < s.heap.objs.size := l
    rw [z2] at l
    exact absurd l (Nat.not_lt.mpr (Nat.le_succ _))
  refine raiseNew2 (x1 := x1) (x2 := x2) (hot.kept (fun o e => Heap.get?_push_of_some _ (k2 hne o e)) (fun o e => Heap.get?_push_of_some _ (k2 hne2 o e))) (sz l1) (sz l2) (Heap.get?_push_size _ rfl) rfl (by first | (simp; done) | (simp; omega)) ?_
  refine wpAny_bind (wpAny_isInstance (T := "StopIteration") (b := true) ⟨_, Heap.get?_update_self _ (Heap.get?_push_size _ rfl) rfl, rfl⟩ isSubtype_stop ?_)
  refine wpAny_pure (hQ _ fun b u hb e => ?_)
  have e1 : (s.heap.update it (Obj.mapFields (·.setIfInBounds 0 Value.none))).get? b = some u := (Heap.get?_update_other _ _ (Ne.symm hb)).trans e
  have e2 := Heap.get?_push_of_some { cls := .type "tuple", data := .seq ([] : List Value).toArray } e1
  rw [Heap.get?_update_other _ _ (Nat.ne_of_gt (Heap.lt_size e2))]
  exact Heap.get?_push_of_some _ e2
theorem hot2_walks (x1 x2 I ax : Addr) (hne : ax ≠ I) (hx : x1 ≠ I) (hx2 : x2 ≠ I) (items : Array Value) :
    Walks prog w A I [I, ax, x1, x2] [I] items.size (fun i v => items[i]? = some v) (fun i h => h.IsListIter I ax i ∧ h.IsList ax items ∧ Hot2 A x1 x2 h ∧ x2 < h.objs.size ∧ x1 < h.objs.size ∧ ∃ o2, h.get? x2 = some o2) where
  sub := fun b hb => by simp at hb; simp [hb]
  frame := fun i h h' st hk => ⟨st.1.at fun o e => hk I (by simp) o e, st.2.1.at fun o e => hk ax (by simp) o e, by
    obtain ⟨t, l2, l1, o2, g2⟩ := st.2.2
    obtain ⟨o1, _, g1, _⟩ := t.2
    exact ⟨t.kept (fun o e => hk x1 (by simp) o e) (fun o e => hk x2 (by simp) o e), Heap.lt_size (hk x2 (by simp) _ g2), Heap.lt_size (hk x1 (by simp) _ g1), o2, hk x2 (by simp) _ g2⟩⟩
  item := fun i s Q E hi st hQ => by
    refine wpAny_pyNext_list_item st.1 st.2.1 (x := items[i]) (by simp [hi]) fun h' hit' hs' => ?_
    refine hQ _ h' s.toks (by simp [hi]) ⟨hit', st.2.1.extBut hs'.extBut hne, ?_⟩ fun b o hb e => hs'.extBut b o (fun h => hb (by simp [h])) e
    obtain ⟨t, l2, l1, o2, g2⟩ := st.2.2
    obtain ⟨o1, _, g1, _⟩ := t.2
    exact ⟨t.kept (fun o e => hs'.extBut x1 o hx e) (fun o e => hs'.extBut x2 o hx2 e), Heap.lt_size (hs'.extBut x2 _ hx2 g2), Heap.lt_size (hs'.extBut x1 _ hx g1), o2, hs'.extBut x2 _ hx2 g2⟩
  done := fun s Q E st hQ => hot2_listEnd st.2.2.1 st.1 st.2.1 (by simp) hx hx2 st.2.2.2.1 st.2.2.2.2.1 fun h' he' => hQ h' s.toks fun b o hb e => he' b o (fun h => hb (by simp [h])) e
  self := fun _ _ _ _ st hQ => wpAny_pyIter_listiter st.1 hQ
end
/-- in X the handled error and its context are pinned -/
def HotD (X : Cx) : Prop := ∃ (a : Addr) (d : Option Addr) (oe : Obj) (vs : Array Value), X.A.handled = some (.ref a) ∧ (a, oe) ∈ X.pn ∧ oe.data = .fields vs ∧ vs[2]? = some (ctxV d) ∧ ∀ b, d = some b → b ≠ a ∧ ∃ ob vb, (b, ob) ∈ X.pn ∧ ob.data = .fields vb ∧ vb[2]? = some .none
theorem HotD.at {X : Cx} {pins : List (Addr × Obj)} {σ : L2.St} {H : Hp} {s : Shared} (c : HotD X) (I : Inv X pins σ H s) : ∃ x1 x2, Hot2 X.A x1 x2 s.heap ∧ ∃ o2, s.heap.get? x2 = some o2 := by
  obtain ⟨a, d, oe, vs, hh, pa, da, ca, hd⟩ := c
  have ga := (I.pin (a, oe) (List.mem_append_left _ pa)).1
  cases d with
  | none => exact ⟨a, a, ⟨hh, oe, vs, ga, da, .inl ca⟩, oe, ga⟩
  | some b =>
    obtain ⟨n, ob, vb, pb, db, cb⟩ := hd b rfl
    have gb := (I.pin (b, ob) (List.mem_append_left _ pb)).1
    exact ⟨a, b, ⟨hh, oe, vs, ga, da, .inr ⟨n, ca, ob, vb, gb, db, cb⟩⟩, ob, gb⟩
/-- [n for n in .. if n] over truths, while an exception is handled -/
theorem pe_hot2Lc {X : Cx} {n : Str} {pe px pc pos : Pos} {iter : Expr} {scope : Scope} {ti : TE} (hot : HotD X) (hi : PE X iter ti) (hcell : ∀ y ∈ scope.names, y.2 ≠ .cell) (hfree : ∀ y ∈ scope.names, y.2 ≠ .free) (hkind : scope.kind = .function)
    (hnames : ∀ y ∈ scope.names, y.2 = .local → scope.names.lookup y.1 = some .local) (hx : scope.names.lookup n = some .local) (hdb : (n == ("__debug__" : Str)) = false := by decide) (hs : ∀ x, foldedSetIterable iter X.env x = pure x := by intro _; rfl) :
    PE X (.ListComp (.Name n pe) [⟨.Name n px, iter, [.Name n pc], 0⟩] scope pos) (fun σ H Q => ti σ H fun v H1 => ∃ (a : Addr) (bs : List Bool), v = .ref a ∧ SqL X.K H1 a (bs.map V.bl) ∧ bs.length ≤ 1000 ∧ ∀ D, H1 D = none → Q (.ref D) (upd H1 D (.lst ((bs.filter id).map V.bl)))) := by
  refine ⟨fun pins s σ H Q I h => ?_⟩
  refine wpAny_ListComp_free (cl := []) isT (fun v y => v = y) ?_ hcell hkind hnames hx (wpAny_mono (hi.run pins s σ H _ I h) (fun v s1 hv => ?_) fun _ _ z => z) hs
  · rw [closure_ok fun y hy e => absurd e (hfree y hy)]
    have : ∀ (names : List (Str × NameKind)) acc, (∀ y ∈ names, y.2 ≠ .free) → cloFrom X.env.cells names acc = acc := by
      intro names
      induction names with
      | nil => intro acc _; rfl
      | cons y r ih =>
        obtain ⟨m, k⟩ := y
        intro acc hy
        unfold cloFrom
        have hk : ¬ (k == NameKind.free) = true := fun q => hy (m, k) List.mem_cons_self (eq_of_beq q)
        rw [if_neg hk]
        exact ih acc fun y hm => hy y (List.mem_cons_of_mem _ hm)
    rw [this _ _ hfree]
  · obtain ⟨v0, H1, I1, rv, a, bs, rfl, hsq, hz, q⟩ := hv
    cases rv
    obtain ⟨its, rl, pl, hl⟩ := I1.list hsq
    have eits : its = bs.map Value.bool := vals_bl rl
    obtain ⟨x1, x2, ht, ⟨o2, e2⟩⟩ := hot.at I1
    subst eits
    refine wpAny_pyIter_list pl.isList ?_
    have la : a < s1.heap.objs.size := let ⟨_, e, _⟩ := pl.isList; Heap.lt_size e
    obtain ⟨hh, o1, vs1, e1, d1, c1⟩ := id ht
    have lx2 : x2 < s1.heap.objs.size := Heap.lt_size e2
    have lx : x1 < s1.heap.objs.size := Heap.lt_size e1
    have kp : ∀ b o, s1.heap.get? b = some o → (s1.heap.push { cls := .type "list_iterator", data := .fields #[.ref a, .int 0 0] }).get? b = some o := fun b o e => Heap.get?_push_of_some _ e
    have hsz : (bs.map Value.bool).toArray.size = bs.length := by simp
    refine ⟨s1.heap.objs.size, _, _, _, _, _, rfl, hot2_walks x1 x2 s1.heap.objs.size a (Nat.ne_of_lt la) (Nat.ne_of_lt lx) (Nat.ne_of_lt lx2) (bs.map Value.bool).toArray, by rw [hsz]; exact Nat.le_trans hz (by decide), ⟨⟨_, Heap.get?_push_size _ rfl, rfl, rfl⟩, pl.isList.at fun o e => kp a o e, ht.kept (fun o e => kp x1 o e) (fun o e => kp x2 o e), Heap.lt_size (kp x2 _ e2), Heap.lt_size (kp x1 _ e1), o2, kp x2 _ e2⟩, fun b hb => ?_, ⟨fun C i v s3 m3 E' hC hP hn hm hk ht => ?_, fun C i v s3 m3 E' hC hP hp hn hm hk ht => ?_⟩, fun D h' tk ys vs hD hl2 hpl hlen hP hF hk => ?_⟩
    · have : b = s1.heap.objs.size ∨ b = a ∨ b = x1 ∨ b = x2 := by simpa using hb
      have h9 : b < s1.heap.objs.size + 1 := by
        rcases this with e | e | e | e
        · rw [e]; exact Nat.lt_succ_self _
        · rw [e]; exact Nat.lt_succ_of_lt la
        · rw [e]; exact Nat.lt_succ_of_lt lx
        · rw [e]; exact Nat.lt_succ_of_lt lx2
      show b < (s1.heap.push { cls := .type "list_iterator", data := .fields #[.ref a, .int 0 0] }).objs.size
      rw [Heap.size_push]
      exact h9
    · have hkn : (compEnvC scope [] C X.env).kindOf n = some .local := lookup_relabel_local (env := X.env) hx
      obtain ⟨b, rfl⟩ : ∃ b, v = Value.bool b := by
        have : v ∈ (bs.map Value.bool).toArray.toList := List.mem_of_getElem? (by rw [Array.getElem?_toList]; exact hP)
        obtain ⟨b, _, e⟩ := List.mem_map.mp (by simpa using this : v ∈ bs.map Value.bool)
        exact ⟨b, e.symm⟩
      refine wpAny_tests_one ?_
      show wpAny _ _ (do let v ← eval (.Name n pc) (compEnvC scope [] C X.env); standAt pc; holding [v] (truthy v)) _ _ _
      refine wpAny_bind (wpAny_Name (wpAny_loadName_local (show (relabel scope X.env).kind = .function from hkind) hkn hn hm (wpAny_bind (wpAny_standAt (wpAny_holding (wpAny_truthy_bool ?_))))) hdb)
      exact ⟨rfl, _, _, rfl, fun _ _ e => e⟩
    · have hkn : (compEnvC scope [] C X.env).kindOf n = some .local := lookup_relabel_local (env := X.env) hx
      exact wpAny_Name (wpAny_loadName_local (show (relabel scope X.env).kind = .function from hkind) hkn hn hm ⟨rfl, _, _, rfl, fun _ _ e => e⟩) hdb
    · have evs : vs = bs.map Value.bool := by
        refine List.ext_getElem (by rw [hlen, hsz, List.length_map]) fun j h1 h2 => ?_
        have := hP j vs[j] (List.getElem?_eq_getElem h1)
        rw [List.getElem?_toArray, List.getElem?_eq_getElem h2] at this
        exact (Option.some.inj this).symm
      subst evs
      rw [filt_isT] at hF
      have ey := paired_eq hF
      have hD1 : s1.heap.get? D = none := by
        cases z : s1.heap.get? D with
        | none => rfl
        | some u => rw [kp D u z] at hD; cases hD
      have k2 : ∀ b u, s1.heap.get? b = some u → h'.get? b = some u := fun b u e => hk b u (by
        have : b ≠ s1.heap.objs.size := Nat.ne_of_lt (Heap.lt_size e)
        simpa using this) (kp b u e)
      refine ⟨.ref D, _, inv_laid0 (s := s1) (t' := tk) (o := .lst ((bs.filter id).map V.bl)) I1 k2 hD1 ⟨?_, (bs.filter id).map Value.bool, ?_⟩, rfl, q D (I1.hok.gone hD1)⟩
      · rw [List.length_map]
        have := List.length_filter_le id bs
        exact Nat.le_trans (Nat.le_trans this hz) (by decide)
      · have e2 : ys = ((bs.filter id).map Value.bool).toArray := by rw [ey]
        obtain ⟨m, hm⟩ := hpl
        rw [e2] at hm
        exact ⟨m, vals_of_bl _, hm⟩
end PD

set_option maxHeartbeats 4000000
namespace PD
open PySem PySem.Spec PyProof.Rows L2
/-! ### a def that is called in a suite; pl: the error that is handled, and its context -/
def AtL (pl : List (Addr × Obj)) (a : Addr) (cls : Value) (d : Option Addr) : Prop := ∃ oe vs, (a, oe) ∈ pl ∧ Zm cls d oe ∧ oe.data = .fields vs ∧ ∀ b, d = some b → b ≠ a ∧ ∃ ob vb, (b, ob) ∈ pl ∧ ob.data = .fields vb ∧ vb[2]? = some .none
structure FnE2 (P : Program) (w : World) (K : PySem.W.Frag) (mg : Str → Option Value) (base : Heap) (k : Nat) (f : Addr) (fd : FuncData) (ps : List Str) (sp : List (Addr × Obj) → Addr → Sp) : Prop where
  len : ∀ pl a vs H Q E, sp pl a vs H Q E → vs.length = ps.length
  run : ∀ (A : Around) (outer : List PySem.Env) (s : Shared) (H : Hp) (args : Args) (us : List Value) (vs : List V) (Q : VK) (pl : List (Addr × Obj)) (a : Addr), L2H.RoomH k A → A.handled = some (.ref a) → pl ≠ [] → (∀ p ∈ pl, L2H.PinOk outer H s p) → Env0 P w K mg base A outer s H → BindsTo s fd args (ps.zip us) → Vals vs us →
    sp pl a vs H Q E0 → codeAny (model P w) A (.call (.ref f) args) (CR CX0 outer P w H s Q E0) s
/-- the context of its body -/
def cxL (P : Program) (w : World) (K : PySem.W.Frag) (mg : Str → Option Value) (base : Heap) (N : List Str) (qual : Str) (scope : Scope) (f : Addr) (cd : Value) (A : Around) (outer : List PySem.Env) (s : Shared) (H : Hp) (pl : List (Addr × Obj)) : Cx :=
  { cxOf CX0 P w K mg base N qual scope f cd A outer s H E0 with calm := false, pn := pl }
section
variable {P : Program} {w : World} {K : PySem.W.Frag} {mg : Str → Option Value} {base : Heap}
theorem fnE2 {x qual : Str} {st : Stmt} {f : Addr} {fd : FuncData} {N ps : List Str} {k : Nat} {sp : List (Addr × Obj) → Addr → Sp} (F : Fun K x qual st f fd) (S : FnScope N ps (defScope st)) (len : ∀ pl a vs H Q E, sp pl a vs H Q E → vs.length = ps.length)
    (hbody : ∀ (cdv : Value) (A : Around) (outer : List PySem.Env) (s : Shared) (H : Hp) (vs : List V) (Q : VK) (pl : List (Addr × Obj)) (a : Addr), A.handled = some (.ref a) → L2H.RoomH k (A.deeper (envOfC qual (defScope st) s.heap.objs.size f cdv)) → sp pl a vs H Q E0 →
      WSs (cxL P w K mg base N qual (defScope st) f cdv A outer s H pl) (defBody st) { nx := fun _ H' => Q .non H', rt := Q } (L2.start N vs) H) : FnE2 P w K mg base (k + 1) f fd ps sp := by
  obtain ⟨oc, od, kV, doc, pm, an, cdv, ct, osl, rfl, lk, hcd⟩ := F.ex
  refine ⟨len, fun A outer s H args us vs Q pl a hr hot hne hpin e0 hb r hsp => ?_⟩
  have hl := len _ _ _ _ _ _ hsp
  have KX : K.In s.heap := e0.mod.kin.keeps fun b o e => (e0.bs b o e).1
  have lim : s.heap.NoLimit := e0.mod.nolimit.keeps fun b o e => (e0.bs b o e).1
  have kinds : ∀ y ∈ ps.zip us, (defScope st).names.lookup y.1 = some .local ∨ ((defScope st).names.lookup y.1 = some .cell ∧ ((cellsFrom (s.heap.objs.size + 1) (defScope st).names []).lookup y.1).isSome = true) := fun ⟨n, v⟩ hy => by
    rcases S.par n (List.of_mem_zip hy).1 with q | q
    · exact .inl q
    · exact .inr ⟨q, PySem.W.cellsFrom_some _ _ _ (.inl q)⟩
  refine codeAny_call_function hr.depth (KX _ _ lk) rfl S.co S.gen rfl (PySem.W.codeRec_of KX hcd) (hb _ _ _ _ (wpAny_newFunctionEnv_cells S.kind kinds fun env he s1 x => ?_))
  subst he
  refine ⟨lim.keeps x.toInCall.keep, codeAny_func ?_⟩
  obtain ⟨p0, rest, rfl⟩ : ∃ p0 rest, pl = p0 :: rest := by
    cases pl with
    | nil => exact absurd rfl hne
    | cons p0 rest => exact ⟨p0, rest, rfl⟩
  have J := L2H.inv_startH (CX := CX0) (cd := cdv) (E := E0) S (hpin p0 List.mem_cons_self) e0 hl r x
  have I : Inv (cxL P w K mg base N qual (defScope st) f cdv A outer s H (p0 :: rest)) [] (L2.start N vs) H s1 := by
    obtain ⟨h1, tk, es, hk⟩ := x.done
    have ok := J.ok
    refine ⟨⟨ok.mod, ok.kind, ok.glob, ok.blt, ok.above, ok.inj, ok.has, ok.cab, (fun z => Bool.noConfusion (show false = true from z)), ok.frames, ok.stk, ok.exf, ok.bs, ok.bsz, ok.noex, ok.exfs, ok.funs, ok.frf⟩, J.os, J.bare, J.base, J.loc, J.cell, J.free, J.freeC, fun p hp => ?_, J.hok, J.len⟩
    have hp : p ∈ p0 :: rest := by rw [List.append_nil] at hp; exact hp
    have pk := hpin p hp
    subst es
    exact ⟨hk p.1 p.2 pk.get, pk.free, Nat.ne_of_lt (Heap.lt_size pk.get), pk.nofs, pk.nocell⟩
  refine wpAny_mono (hbody cdv A outer s H vs Q (p0 :: rest) a hot (hr.deeper _) hsp [] s1 I) (fun fl s' hs => ?_) fun e s' hs => hs
  cases fl with
  | ret u => obtain ⟨v, σ', H', J, rv, q⟩ := hs; exact ⟨v, H', J.os, J.bare, J.base, J.hok, rv, q⟩
  | next => obtain ⟨σ', H', J, q⟩ := hs; exact ⟨.non, H', J.os, J.bare, J.base, J.hok, rfl, q⟩
  | brk => obtain ⟨_, _, _, q⟩ := hs; exact q.elim
  | cont => obtain ⟨_, _, _, q⟩ := hs; exact q.elim
end
section
variable {X : Cx} {k : Nat} {f : Addr} {fd : FuncData} {ps : List Str} {sp : List (Addr × Obj) → Addr → Sp} {x : Str} {q pos : Pos} {e : Expr} {es : List Expr} {t : TA} {a : Addr}
theorem pe_callE2 (F : FnE2 X.prog X.w X.K X.mg X.base k f fd ps sp) (hr : L2H.RoomH k X.A) (hot : X.A.handled = some (.ref a)) (hne : X.pn ≠ []) (hg : Gl X x) (hm : X.mg x = some (.ref f)) (hk : PySem.W.keepIn X.K (.ref f) = true) (hb : Binds X.K fd ps [])
    (ha : PA X (e :: es) t) (hdb : (x == ("__debug__" : Str)) = false := by decide) (he : starEach (e :: es) X.env = (false, eval e X.env) :: starEach es X.env := by rfl) (hpl : (backTo pos (starEach es X.env)).any (·.1) = false := by rfl) :
    PE X (.Call (.Name x q) (e :: es) [] pos) (fun σ H Q => t σ H fun vs H1 => sp X.pn a vs H1 Q E0) := by
  refine ⟨fun pins s σ H Q I h => wpAny_Call_Name_kw (ld_glob I hg hm (PySem.W.callWith_K (h₀ := X.base) I.ok.mod.kin hk (thn (ha.run pos pins s σ H _ I h) fun us s1 ⟨vs, H1, I1, r, q1⟩ => ⟨I1.kIn, ?_⟩) he hpl) hdb)⟩
  have hl : us.length = ps.length := by rw [← r.length]; exact F.len _ _ _ _ _ _ q1
  have b := hb s1 us I1.kIn (by rw [List.append_nil]; exact hl)
  rw [List.append_nil] at b
  have pins_ok : ∀ p ∈ X.pn, L2H.PinOk X.stack H1 s1 p := fun p hp => by
    have P1 := I1.pin p (List.mem_append_left _ hp)
    exact ⟨P1.1, P1.2.1, fun hm2 => (List.mem_cons.mp (I1.stkSub p.1 hm2)).elim P1.2.2.1 P1.2.2.2.1, P1.2.2.2.2⟩
  refine wpAny_call (codeAny_mono (F.run X.A X.stack s1 H1 ⟨us, []⟩ us vs Q X.pn a hr hot hne pins_ok I1.env0 b r q1) fun r2 s' hq => ?_)
  cases r2 with
  | error e => exact hq.elim
  | ok fl =>
    cases fl with
    | ret u => exact I1.after hq
    | next => exact hq.elim
    | brk => exact hq.elim
    | cont => exact hq.elim
end
section
variable {X : Cx} {W : WX} {ex : Addr → Prop} {ρ : List Sl} {pos pe px pc p p2 p3 q : Pos} {n c x : Str} {i k : Nat} {iter : Expr} {scope sc : Scope} {bs : List Bool} {f a D : Addr} {fd : FuncData} {ps ns gs : List Str} {d : Option Addr} {b1 b2 b3 b4 b5 b6 b7 b8 : Bool}
theorem el_hot2 (hot : HotD X) (h : EB X W ex iter ρ (bs.map .bool)) (hz : bs.length ≤ 1000) (hcell : ∀ y ∈ scope.names, y.2 ≠ .cell := by decide +kernel) (hfree : ∀ y ∈ scope.names, y.2 ≠ .free := by decide +kernel) (hkind : scope.kind = .function := by rfl)
    (hnames : ∀ y ∈ scope.names, y.2 = .local → scope.names.lookup y.1 = some .local := by decide +kernel) (hx : scope.names.lookup n = some .local := by rfl) (hdb : (n == ("__debug__" : Str)) = false := by decide) (hs : ∀ x, foldedSetIterable iter X.env x = pure x := by intro _; rfl) :
    EL X W ex (.ListComp (.Name n pe) [⟨.Name n px, iter, [.Name n pc], 0⟩] scope pos) ρ ((bs.filter id).map .bool) := fun B F H σ Q E xc q =>
  w_e (pe_hot2Lc hot pe_w hcell hfree hkind hnames hx hdb hs) (h B F H σ _ E xc fun r vs F1 H1 x1 hr i1 => by
    rw [i1.bools_eq] at hr
    refine ⟨r, bs, rfl, hr, hz, fun D hD => ?_⟩
    exact q D _ F1 _ (x1.trans (Ext.kept x1.i hD)) (x1.h.back hD) (x1.i.back hD) upd_same (IsAll.bools _))
def spAlone2 (K : PySem.W.Frag) (mg : Str → Option Value) : List (Addr × Obj) → Addr → Sp := fun pl a vs H Q _ => ∃ D d b1 b2 b3 b4 b5 b6 b7 b8, vs = [.ref a] ∧ AtL pl a (.ref D) d ∧ Kit8 K mg D b1 b2 b3 b4 b5 b6 b7 b8 ∧ ∀ H', Ex H H' → Q (.bl true) H'
theorem ed_alone2 (lo : ns.all (locB sc) = true) (gl : gs.all (glB sc) = true) (i j : Nat) (F : FnE2 X.prog X.w X.K X.mg X.base k f fd ps (spAlone2 X.K X.mg)) (hr : L2H.RoomH k X.A) (hh : X.A.handled = some (.ref a)) (at2 : AtL X.pn a (.ref D) d) (kit : Kit8 X.K X.mg D b1 b2 b3 b4 b5 b6 b7 b8)
    (hm : X.mg x = some (.ref f)) (hk : PySem.W.keepIn X.K (.ref f) = true) (hb : Binds X.K fd ps []) (hN : X.N[i]? = some n := by rfl) (hn : ns[i]? = some n := by rfl) (hs : ρ[i]? = some (.raw (.ref a)) := by rfl) (hj : gs[j]? = some x := by rfl) (hsc : X.env.scope = sc := by rfl)
    (hd : (n == ("__debug__" : Str)) = false := by decide) (hcd : (n == ("__classdict__" : Str)) = false := by decide) (hdb : (x == ("__debug__" : Str)) = false := by decide) : ED X W ex (.Call (.Name x q) [.Name n p] [] pos) ρ (.bool true) := fun B F0 H σ Q E xc k0 => by
  obtain ⟨o, e1, h1⟩ := E.s i _ hs
  cases o with
  | none => exact h1.elim
  | some v =>
  have h1 : v = .ref a := h1
  subst h1
  have g1 : Gl X x := by show X.env.scope.names.lookup x = _; rw [hsc]; exact gl_of gl j hj
  have hne : X.pn ≠ [] := fun z => by obtain ⟨oe, _, h, _⟩ := at2; rw [z] at h; cases h
  refine w_e (pe_callE2 (a := a) F hr hh hne g1 hm hk hb (pa_cons (pe_var hN (by rw [hsc]; exact vis_of (loc_of lo i hn)) hd hcd) pa_nil) hdb rfl (by rfl)) ⟨_, e1, D, d, b1, b2, b3, b4, b5, b6, b7, b8, rfl, at2, kit, fun H' x => ?_⟩
  exact k0 _ F0 H' ⟨Ex.refl F0, x, E.i.trans x, fun _ _ => rfl⟩ (.bl true)
end

/-! ### a def that may raise while another error is handled -/
def GotM (K : PySem.W.Frag) (F H : Hp) (Q : VK) (E : XK) : DOut → Prop
  | .exc C => ∀ d F' H', Ext F H F' H' → E (.ref C) d H'
  | o => Got K F H Q E o
def spM (K : PySem.W.Frag) (n : Nat) (R : List Sl → DOut → Prop) : Sp := fun vs H Q E => ∃ F as o, Ex F H ∧ AgsOk K F H vs as ∧ as.length = n ∧ R as o ∧ GotM K F H Q E o
structure CalM (P : Program) (w : World) (K : PySem.W.Frag) (mg : Str → Option Value) (base : Heap) (k : Nat) (x : Str) (n : Nat) (R : List Sl → DOut → Prop) : Prop where
  ex : ∃ (f : Addr) (fd : FuncData) (ps : List Str), FnOk P w K mg base (CM P w) k f fd ps (spM K n R) ∧ mg x = some (.ref f) ∧ PySem.W.keepIn K (.ref f) = true ∧ Binds K fd ps []
/-- what such a body may raise -/
def Wr (E : XK) : WX := fun c d _ H => d = none ∧ ∀ d2, E c d2 H
theorem lkM_of {K : PySem.W.Frag} {F H : Hp} {Q : VK} {E : XK} {N : List Str} : ∀ {o : DOut}, GotM K F H Q E o → Lk K (Wr E) F H (deOf o) { nx := fun _ H' => Q .non H', rt := Q }
  | .exc C, g => ⟨fun _ _ _ _ q => q.elim, fun _ _ _ _ q => q.elim, fun _ _ _ _ _ q => q.elim, fun _ _ _ _ q => q.elim, fun _ _ _ _ q => q.elim, fun C' ρ σ F1 H1 q s => by
      have q : C' = C := q
      subst q
      exact ⟨rfl, fun d => g d F1 H1 s.x⟩, fun _ _ _ _ q => q.elim⟩
  | .val d, g => by
      have l := lk_of (K := K) (N := N) (o := .val d) (E := E) g
      exact ⟨l.nx, l.rt, l.rl, l.bk, l.ct, fun _ _ _ _ _ q => q.elim, l.ro⟩
  | .new ds, g => by
      have l := lk_of (K := K) (N := N) (o := .new ds) (E := E) g
      exact ⟨l.nx, l.rt, l.rl, l.bk, l.ct, fun _ _ _ _ _ q => q.elim, l.ro⟩
  | .own P, g => by
      have l := lk_of (K := K) (N := N) (o := .own P) (E := E) g
      exact ⟨l.nx, l.rt, l.rl, l.bk, l.ct, fun _ _ _ _ _ q => q.elim, l.ro⟩
section
variable {P : Program} {w : World} {K : PySem.W.Frag} {mg : Str → Option Value} {base : Heap}
theorem fnM {x qual : Str} {st : Stmt} {f : Addr} {fd : FuncData} {N ps : List Str} {k : Nat} {R : List Sl → DOut → Prop} (F : Fun K x qual st f fd) (S : FnScope N ps (defScope st)) (hl : ps.length ≤ N.length)
    (hbody : ∀ (cdv : Value) (A : Around) (outer : List PySem.Env) (s : Shared) (H : Hp) (E : XK) (as : List Sl) (o : DOut), Room k (A.deeper (envOfC qual (defScope st) s.heap.objs.size f cdv)) → as.length = ps.length → R as o →
      SDs (cxOf (CM P w) P w K mg base N qual (defScope st) f cdv A outer s H E) (Wr E) (defBody st) (as ++ List.replicate (N.length - as.length) .un) (deOf o)) : FnOk P w K mg base (CM P w) (k + 1) f fd ps (spM K ps.length R) := by
  obtain ⟨oc, od, kV, doc, pm, an, cdv, ct, osl, rfl, lk, hcd⟩ := F.ex
  refine fn_of lk hcd S (fun vs H Q E ⟨F, as, o, _, h, hn, _⟩ => (paired_len h).trans hn) fun A outer s H vs Q E hr ⟨F0, as, o, i0, h, hn, hR, g⟩ => ?_
  have E0 := en_start N i0 h (by omega)
  exact ⟨WSs _ (defBody st), pss_w, hbody cdv A outer s H E as o hr hn hR F0 H F0 H (L2.start N vs) _ ⟨Ext.refl i0, E0⟩ (lkM_of (N := N) g)⟩
theorem calM_of {x : Str} {st : Stmt} {k n : Nat} {R : List Sl → DOut → Prop} {h : Heap} (X : K.In h) (G : h.Ns mainGlobals mg) (ps : List Str) (D : DefK K x st) (hb : BindK x st ps)
    (ok : ∀ (f : Addr) (fd : FuncData), Fun K x x st f fd → FnOk P w K mg base (CM P w) k f fd ps (spM K n R)) : CalM P w K mg base k x n R := by
  obtain ⟨f, oc, od, kV, doc, pm, an, cdv, ct, osl, a, l, c, kk⟩ := D
  have F := fun_mk l c kk
  exact ⟨f, _, ps, ok f _ F, PySem.W.mg_of X G a, kk, F.binds hb⟩
end
section
variable {X : Cx} {W Wo : WX} {ex : Addr → Prop} {e : Expr} {es : List Expr} {ρ as : List Sl} {d : PyData} {pos p p2 : Pos} {k n : Nat} {x : Str} {R : List Sl → DOut → Prop} {T : De} {C : Addr}
/-- what is taken of a known error's kind, by the judgement's own W -/
theorem takes_wr {X : Cx} {E : XK} (tk : TakesM X (fun c d _ H => E c d H)) : L2N.Takes X (Wr E) := tk.n.imp fun c d σ H h => ⟨h.1, h.2 none⟩
theorem callM_w (C : CalM X.prog X.w X.K X.mg X.base k x n R) (hr : Room k X.A) (hg : Gl X x) (tk : TakesM X Wo) (ha : EA X W ex (e :: es) ρ as) (hn : as.length = n) {o : DOut} (hR : R as o)
    {B F H : Hp} {σ : L2.St} {Q : VK} (E : En X.K B F H σ ρ) (c : Xc W ex F H σ) (q : ∀ F1 H1, Ext F H F1 H1 → GotM X.K F1 H1 Q (L2.WE Wo σ) o)
    (hdb : (x == ("__debug__" : Str)) = false := by decide) (he : starEach (e :: es) X.env = (false, eval e X.env) :: starEach es X.env := by rfl) (hpl : (backTo pos (starEach es X.env)).any (·.1) = false := by rfl) : PD.WE X (.Call (.Name x p) (e :: es) [] pos) σ H Q := by
  obtain ⟨f, fd, ps, Fn, hm, hk, hb⟩ := C.ex
  exact w_e (pe_callS Fn hr hg hm hk hb (fun σ => passM tk σ) pa_w hdb he hpl) (ha B F H σ _ E c fun vs F1 H1 x1 i1 => ⟨F1, as, o, x1.i, i1, hn, hR, q F1 H1 x1⟩)
/-- f(..), a value: nothing is raised -/
theorem ed_callM (C : CalM X.prog X.w X.K X.mg X.base k x n R) (hr : Room k X.A) (hg : Gl X x) (ha : EA X W ex (e :: es) ρ as) (hn : as.length = n) (hR : R as (.val d))
    (hdb : (x == ("__debug__" : Str)) = false := by decide) (he : starEach (e :: es) X.env = (false, eval e X.env) :: starEach es X.env := by rfl) (hpl : (backTo pos (starEach es X.env)).any (·.1) = false := by rfl) : ED X W ex (.Call (.Name x p) (e :: es) [] pos) ρ d := fun B F H σ Q E c q =>
  callM_w C hr hg takesM0 ha hn hR E c (fun F1 H1 x1 v F2 H2 x2 i2 => q v F2 H2 (x1.trans x2) i2) hdb he hpl
/-- try: f(..) except C as n: suite; f may raise or not -/
theorem sd_tryM {i : Nat} {c : Value} {y n1 : Str} {suite : List Stmt} {b0 : Stmt} {np pos' pos2 : Pos} {o : DOut} (hst : X.stack = X.env :: X.outer) (hf : X.env.frame = some X.env.locals) (hN : X.N.Nodup) (hi : X.N[i]? = some n1) (hln : X.env.kindOf n1 = some .local) (hc : Names X y c)
    (Cl : CalM X.prog X.w X.K X.mg X.base k x n R) (hr : Room k X.A) (hg : Gl X x) (ha : ∀ (W0 : WX) (pn : List (Addr × Obj)) (xe : Value → Shared → Prop), EA (X.tr pn xe) W0 noX (e :: es) ρ as) (hn : as.length = n) (hR : R as o)
    (hy : ∀ D, o = .exc D → PySem.W.exmOne X.K (.ref D) c = some true ∧ ∀ (a : Addr) (d : Option Addr) (pn : List (Addr × Obj)), AtHand (X.suite a pn) a (.ref D) d → SDs (X.suite a pn) noW (b0 :: suite) (ρ.set i (.raw (.ref a))) (T.gone i))
    (hv : ∀ d, o = .val d → T.nx ρ) (hno : ∀ P, o ≠ .own P) (hnn : ∀ ds, o ≠ .new ds)
    (hdb : (x == ("__debug__" : Str)) = false := by decide) (he : starEach (e :: es) X.env = (false, eval e X.env) :: starEach es X.env := by rfl) (hpl : (backTo p2 (starEach es X.env)).any (·.1) = false := by rfl)
    (hw : swapsWith (.Call (.Name x p) (e :: es) [] p2) none pos2.line X.env = pure false := by rfl) :
    SD X W (.Try [.Expr (.Call (.Name x p) (e :: es) [] p2) pos2] [.ExceptHandler (some (.Name y np)) (some n1) (b0 :: suite) pos'] [] [] pos) ρ T := fun F0 H0 F H σ D s l =>
  w_s (ps_tryM (tb := fun W0 D σ H => ∀ pn xe, TakesM (X.tr pn xe) W0 → WSs (X.tr pn xe) [.Expr (.Call (.Name x p) (e :: es) [] p2) pos2] D σ H)
      (ts := fun a cls d D σ H => ∀ pn, AtHand (X.suite a pn) a cls d → WSs (X.suite a pn) (b0 :: suite) D σ H) hst hf hN hi hln hc (fun W0 pn xe tk po => ⟨fun pins s1 σ1 H1 D1 I1 q => q pn xe tk pins s1 I1⟩) fun a cls d pn hand => ⟨fun pins s1 σ1 H1 D1 I1 q => q pn hand pins s1 I1⟩)
    fun pn xe tk => by
      refine w_ss (pss_one (ps_expr pe_w hw)) ?_
      refine callM_w (X := X.tr pn xe) (W := noW) (ex := noX) Cl hr hg tk (ha noW pn xe) hn hR s.e xc0 (fun F1 H1 x1 => ?_) hdb he hpl
      cases o with
      | val d => exact fun v F2 H2 x2 i2 => l.nx ρ σ F2 H2 (hv d rfl) ((s.go x1).go x2)
      | new ds => exact absurd rfl (hnn ds)
      | own P => exact absurd rfl (hno P)
      | exc C =>
        intro d F2 H2 x2
        obtain ⟨h1, h2⟩ := hy C rfl
        refine ⟨h1, fun a na pn2 hand => ?_⟩
        have s2 := (s.go x1).go x2
        have s3 : S2 X.K F0 H0 F2 H2 (σ.set i (some (.ref a))) (ρ.set i (.raw (.ref a))) := ⟨s2.x, s2.e.set (s := .raw (.ref a)) rfl rfl⟩
        have drop : ∀ ρ2 σ2 F2 H2, S2 X.K F0 H0 F2 H2 σ2 ρ2 → S2 X.K F0 H0 F2 H2 (σ2.set i none) (ρ2.set i .un) := fun ρ2 σ2 F2 H2 s2 => ⟨s2.x, s2.e.set_ (o := none) (s := .un) trivial fun _ _ _ _ h _ => nomatch h⟩
        exact h2 a d pn2 hand F0 H0 F2 H2 _ _ s3 ⟨fun ρ2 σ2 F2 H2 z s2 => l.nx _ _ F2 H2 z (drop _ _ _ _ s2), l.rt, l.rl, fun ρ2 σ2 F2 H2 z s2 => l.bk _ _ F2 H2 z (drop _ _ _ _ s2), fun ρ2 σ2 F2 H2 z s2 => l.ct _ _ F2 H2 z (drop _ _ _ _ s2), fun _ _ _ _ _ z => z.elim, l.ro⟩
/-- raise C(..) from None -/
theorem pmk5 {bmB : List Value} {B0 newId initId : String} {y : Str} {te : TE} (F : ExcBaseFacts B0 newId initId bmB) (q : PySem.W.excIn X.K C bmB newId = true) (gC : X.mg y = some (.ref C)) (kC : PySem.W.keepIn X.K (.ref C) = true) (r : Raises X (.ref C)) (hg : Gl X y)
    (h : PE X e te) (hs : starEach [e] X.env = (false, eval e X.env) :: starEach [] X.env := by rfl) (hdb : (y == ("__debug__" : Str)) = false := by decide) : L2H.PMk5 X (.Call (.Name y p) [e] [] pos) (fun σ H Q => te σ H fun _ H1 => Q (.ref C) none H1) := fun pins s σ H Q I hq => by
  refine wpAny_Call_Name_kw (ld_glob I hg gC (PySem.W.callWith_K (h₀ := X.base) I.ok.mod.kin kC ?_ hs (by rfl)) hdb)
  rw [hs]
  refine Calls.spliced_cons (thn (h.run pins s σ H _ I hq) fun u s1 ⟨v, H1, I1, _, q1⟩ => Calls.spliced_nil ⟨I1.kIn, ?_⟩)
  obtain ⟨_, _, _, _, _, _, _, _, _, _, _, _, _, _, _, _, _, hC, hN, hni, T⟩ := exc_obj I1.kIn q
  exact wpAny_call_exc_subT F T hC hN hni (fun h' e' hm => L2H.mk_of5 I1 hm r q1 (I1.hok.gone hm.new)) (by show 1 ≤ sizeLine; decide)
theorem sd_rzM {j : Nat} {cpos : Pos} {y : Str} {E : XK} (Ey : Er X.K X.mg y C) (hot : L2H.HotC X) (tk : TakesM X (fun c d _ H => E c d H)) (hg : Gl X y) (h : ED X (Wr E) (fun C => T.ex C ρ) e ρ d) (hx : T.ex C ρ)
    (hs : starEach [e] X.env = (false, eval e X.env) :: starEach [] X.env := by rfl) (hdb : (y == ("__debug__" : Str)) = false := by decide) : SD X (Wr E) (.Raise (some (.Call (.Name y p) [e] [] p2)) (some (.Constant .none j cpos)) pos) ρ T := fun F0 H0 F1 H1 σ D s l =>
  w_s (ps_raiseM hot tk (pmk5 PySem.F.excBase_ValueError Ey.q Ey.g Ey.k (raises_own Ey.b Ey.t) hg pe_w hs hdb)) (h H0 F1 H1 σ _ s.e (l.xc s) fun v F2 H2 x2 i2 => ⟨rfl, fun b => (l.ex C ρ σ F2 H2 hx (s.go x2)).2 (some b)⟩)
/-- try: .. except (A, B): a suite that raises -/
theorem sd_tryTup {x1 x2 : Str} {c1 c2 : Value} {body suite : List Stmt} {b0 : Stmt} {np1 np2 tpos pos' : Pos} {kk : Nat} {E : XK} (ex0 : Addr → List Sl → Prop) (hst : X.stack = X.env :: X.outer) (hf : X.env.frame = some X.env.locals) (n1 : Names X x1 c1) (n2 : Names X x2 c2)
    (pas : ∀ hd : Option Value, PassesOwnAt (model X.prog X.w) (X.A.mark hd) X.A X.env X.xe) (tk : TakesM X (fun c d _ H => E c d H))
    (hb : ∀ (W0 : WX) (pn : List (Addr × Obj)) (xe : Value → Shared → Prop), L2N.Takes (X.tr pn xe) W0 → PassesOwn (model X.prog X.w) X.A X.env xe → SDs (X.tr pn xe) W0 body ρ { T with ex := ex0 })
    (hh : ∀ C ρ1, ex0 C ρ1 → PySem.W.exmAny X.K (.ref C) [c1, c2] = some true ∧ ∀ (a : Addr) (pn : List (Addr × Obj)), L2H.HotC (L2H.suiteX X a pn) → TakesM (L2H.suiteX X a pn) (fun c d _ H => E c d H) → SDs (L2H.suiteX X a pn) (Wr E) (b0 :: suite) ρ1 T) :
    SD X (Wr E) (.Try body [.ExceptHandler (some (.Tuple [.Name x1 np1, .Name x2 np2] kk tpos)) none (b0 :: suite) pos'] [] [] pos) ρ T := fun F0 H0 F H σ D s l =>
  w_s (ps_tryTup (tb := fun W0 D σ H => ∀ pn xe, L2N.Takes (X.tr pn xe) W0 → PassesOwn (model X.prog X.w) X.A X.env xe → WSs (X.tr pn xe) body D σ H)
      (ts := fun a cls d D σ H => ∀ pn, L2H.HotC (L2H.suiteX X a pn) → TakesM (L2H.suiteX X a pn) (fun c d _ H => E c d H) → WSs (L2H.suiteX X a pn) (b0 :: suite) D σ H) hst hf n1 n2 pas tk
      (fun W0 pn xe tk po => ⟨fun pins s1 σ1 H1 D1 I1 q => q pn xe tk po pins s1 I1⟩) fun a oe cls d pn hz hd tk2 hot => ⟨fun pins s1 σ1 H1 D1 I1 q => q _ hot tk2 pins s1 I1⟩)
    fun pn xe tk2 po => hb _ pn xe tk2 po F0 H0 F H σ D s ⟨l.nx, l.rt, l.rl, l.bk, l.ct, fun C ρ1 σ1 F1 H1 z s1 => ⟨(hh C ρ1 z).1, fun a na pn2 hot tk3 => (hh C ρ1 z).2 a pn2 hot tk3 F0 H0 F1 H1 σ1 D s1 l⟩, l.ro⟩
end
end PD

set_option maxHeartbeats 4000000
namespace PD
open PySem PySem.Spec PyProof.Rows L2
/-! ### a comprehension one of whose items raises -/
/-- in the block, where what is raised is taken -/
abbrev BlkT (X : Cx) (scope : Scope) (P : Cx → WX → Prop) : Prop := ∀ (Wb : WX) (s : Shared) (H : Hp) (C : Addr) (cl : List (Str × Addr)) (fp : List Addr) (pn : List (Addr × Obj)) (xe : Value → Shared → Prop),
  L2N.Takes ((X.blk s H scope (compEnvC scope cl C X.env) fp).tr pn xe) Wb → P ((X.blk s H scope (compEnvC scope cl C X.env) fp).tr pn xe) Wb
def WEBT (X : Cx) (scope : Scope) (e : Expr) (Wb : WX) : TE := fun σ H Q => ∀ (s : Shared) (H0 : Hp) (C : Addr) (cl : List (Str × Addr)) (fp : List Addr) (pn : List (Addr × Obj)) (xe : Value → Shared → Prop),
  L2N.Takes ((X.blk s H0 scope (compEnvC scope cl C X.env) fp).tr pn xe) Wb → WE ((X.blk s H0 scope (compEnvC scope cl C X.env) fp).tr pn xe) e σ H Q
section
variable {X : Cx} {W : WX} {ex : Addr → Prop} {e a b c elt iter : Expr} {es ifs : List Expr} {ρ as : List Sl} {d : PyData} {ds : List PyData} {pos tpos : Pos} {scope : Scope} {n : Str} {j k : Nat}
theorem w_tImp {X : Cx} {ifs : List Expr} {σ : L2.St} {H : Hp} {Q Q2 : Bool → Hp → Prop} (k : ∀ b H, Q b H → Q2 b H) (h : ptsT X ifs σ H Q) : ptsT X ifs σ H Q2 := match ifs, h with
  | [], h => k _ _ h
  | [c], h => fun pins s I => wpAny_mono (h pins s I) (fun _ _ ⟨H1, I1, q⟩ => ⟨H1, I1, k _ _ q⟩) fun _ _ x => x
theorem ex_lcX {α : Type} (L : LcOk X scope ifs n j iter) (hst : X.stack = X.env :: X.outer) (hf : X.env.frame = some X.env.locals) (tk : L2N.Takes X W) (xs : List α) (q : α → PyData) (bt : α → Bool) (g : α → PyData) (h : EP' X W ex iter ρ (xs.map q)) (hz : xs.length ≤ 50000)
    (kx : Nat) (x0 : α) (hx0 : xs[kx]? = some x0) (h0 : bt x0 = true) {C : Addr} (hC : ex C)
    (hT : ∀ x ∈ xs, Blk X scope fun Y => TsD Y ifs ((ρ.set j .un).set j (.sh (q x))) (bt x))
    (hG : ∀ i x, i < kx → xs[i]? = some x → bt x = true → BlkT X scope fun Y Wb => ED Y Wb noX elt ((ρ.set j .un).set j (.sh (q x))) (g x))
    (hR : BlkT X scope fun Y Wb => EX Y Wb (fun D => D = C) elt ((ρ.set j .un).set j (.sh (q x0)))) : EX X W ex (.ListComp elt [⟨.Name n tpos, iter, ifs, 0⟩] scope pos) ρ := fun B F H σ Q E xc =>
  w_e (pe_lcX (own := [(n, j)]) (te := fun Wb => WEBT X scope elt Wb) L.calm L.nd hst hf tk (pi_list pe_w) L.blk (lc_tgt L) (fun _ _ _ _ _ => pts_wb L.one) (fun Wb s H C cl fp pn xe tkb => ⟨fun pins s1 σ H1 Q I h => h s H C cl fp pn xe tkb pins s1 I⟩) L.fset) (by
    refine h B F H σ _ E xc fun r vs F1 H1 x1 hr i1 => ?_
    have E1 := E.ext x1
    have hsq : ∀ H', Ex H1 H' → SqL X.K H' r vs := fun H' y => by
      rcases hr with hr | hr
      · exact (E1.b.trans y).sql hr
      · exact (x1.i.trans y).sql hr
    have lt : kx < xs.length := (List.getElem?_eq_some_iff.mp hx0).1
    refine ⟨r, rfl, ⟨vs, hsq H1 (Ex.refl H1)⟩, fun D hD => lc_list (xs := vs) (fun i H' => i ≤ kx ∧ Cm X.K F1 H1 D (((xs.take i).filter bt).map g) H') ⟨Nat.zero_le _, F1, [], Ext.kept x1.i hD, x1.i.back hD, upd_same, .nil⟩ (fun i H' _ ⟨_, F', acc, y, _⟩ => hsq H' y.h) ?_ ?_⟩
    · intro i v H' hi ⟨hik, hc⟩
      obtain ⟨d', hd, id'⟩ := i1.get' hi
      rw [List.getElem?_map] at hd
      cases hx : xs[i]? with
      | none => rw [hx] at hd; cases hd
      | some x =>
        rw [hx] at hd
        cases hd
        have hm : x ∈ xs := List.mem_of_getElem? hx
        refine ⟨wipe1, ?_⟩
        have enter : ∀ F H, Ext F1 H1 F H → En X.K B F H (((L2.wipe σ [j]).set j (some v))) ((ρ.set j .un).set j (.sh (q x))) := fun F H x1 => ((E1.ext x1).wipe j).set (s := .sh (q x)) (id'.mono x1.f) rfl
        by_cases hk : i = kx
        · subst hk
          rw [hx0] at hx; cases hx
          obtain ⟨F2, acc, y, f0, hh, ia⟩ := hc
          exact fun s H0 C1 cl fp => pts_run (hT x0 (List.mem_of_getElem? hx0) s H0 C1 cl fp) (enter F2 H' y) fun F3 H3 x3 => by
            rw [if_pos h0]
            intro s2 H2 C2 cl2 fp2 pn xe tkb
            exact hR _ s2 H2 C2 cl2 fp2 pn xe tkb B F3 H3 _ _ ((enter F2 H' y).ext x3) fun D2 F4 H4 e4 x4 => by
              subst e4
              exact xc _ F4 H4 hC ((x1.trans y).trans (x3.trans x4))
        · have lk : i < kx := Nat.lt_of_le_of_ne hik hk
          have z := cm_turn (α := α) (X := X) (σ := σ) (t := WTB X scope ifs) (te := WEBT X scope elt fun cls d _ H' => W cls d σ H') (B := B) (F1 := F1) (H1 := H1) (σ2 := (L2.wipe σ [j]).set j (some v)) (ρ2 := (ρ.set j .un).set j (.sh (q x))) (k := bt x) (r := g x) (fun F H Q E2 k2 s H0 C cl fp => pts_run (hT x hm s H0 C cl fp) E2 k2)
            (fun hk F H Q E2 k2 s H0 C cl fp pn xe tkb => hG i x lk hx hk _ s H0 C cl fp pn xe tkb B F H _ Q E2 xcN k2) enter hD (by
              rw [List.length_map]
              have l1 := List.length_filter_le bt (xs.take i)
              have l3 : (xs.take i).length ≤ xs.length := by rw [List.length_take]; exact Nat.min_le_right _ _
              omega) hc
          rw [← filt_snoc xs bt g hx] at z
          intro s H0 C cl fp
          refine w_tImp (fun b H3 hb => ?_) (z s H0 C cl fp)
          cases hbb : b with
          | false => rw [hbb] at hb; exact ⟨Nat.succ_le_of_lt lk, by simpa using hb⟩
          | true =>
            rw [hbb] at hb
            have hb := (show WEBT X scope elt (fun cls d _ H' => W cls d σ H') _ H3 _ from by simpa using hb)
            intro s2 H2 C2 cl2 fp2 pn xe tkb
            exact (hb s2 H2 C2 cl2 fp2 pn xe tkb).imp fun y H4 ⟨acc, a1, a2, a3⟩ => ⟨acc, a1, a2, Nat.succ_le_of_lt lk, a3⟩
    · rintro H' ⟨hle, _⟩
      rw [i1.len, List.length_map] at hle
      omega)
/-- arguments, one of which raises -/
def EAX (X : Cx) (W : WX) (ex : Addr → Prop) (es : List Expr) (ρ : List Sl) : Prop := ∀ B F H σ (Q : List V → Hp → Prop), En X.K B F H σ ρ → Xc W ex F H σ → WA X es σ H Q
theorem eax_here (h : EX X W ex e ρ) (hs : starEach (e :: es) X.env = (false, eval e X.env) :: starEach es X.env := by rfl) : EAX X W ex (e :: es) ρ := fun B F H σ Q E c => w_a (pa_cons pe_w pa_w hs) (h B F H σ _ E c)
theorem eax_next (h : ED X W ex e ρ d) (r : EAX X W ex es ρ) (hs : starEach (e :: es) X.env = (false, eval e X.env) :: starEach es X.env := by rfl) : EAX X W ex (e :: es) ρ := fun B F H σ Q E c =>
  w_a (pa_cons pe_w pa_w hs) (h B F H σ _ E c fun v F1 H1 x1 i1 => r B F1 H1 σ _ (E.ext x1) (c.ext x1))
theorem ex_tup {m : Nat} (h : EAX X W ex es ρ) : EX X W ex (.Tuple es m pos) ρ := fun B F H σ Q E c => w_e (pe_tup pa_w) (h B F H σ _ E c)
end
section
variable {X : Cx} {W : WX} {ex : Addr → Prop} {ρ : List Sl} {d : PyData} {pos : Pos} {n : Str} {scope : Scope} {s : Shared} {H : Hp} {C : Addr} {cl : List (Str × Addr)} {fp : List Addr} {pn : List (Addr × Obj)} {xe : Value → Shared → Prop}
theorem ed_bt (i : Nat) (hN : X.N[i]? = some n := by rfl) (hv : scope.names.lookup n = some .local ∨ scope.names.lookup n = some .cell ∨ scope.names.lookup n = some .free := by first | exact .inl rfl | exact .inr (.inr rfl) | exact .inr (.inl rfl)) (hs : ρ[i]? = some (.sh d) := by rfl)
    (hd : (n == ("__debug__" : Str)) = false := by decide) (hcd : (n == ("__classdict__" : Str)) = false := by decide) : ED ((X.blk s H scope (compEnvC scope cl C X.env) fp).tr pn xe) W ex (.Name n pos) ρ d := ed_at hN (vis_rel (env := X.env) hv) hs hd hcd
theorem gl_bt (h : scope.names.lookup n = some .globalImplicit := by rfl) : Gl ((X.blk s H scope (compEnvC scope cl C X.env) fp).tr pn xe) n := gl_rel (env := X.env) h
end
end PD

set_option maxHeartbeats 4000000
/-! sets of texts: made of a list, sorted -/
namespace PD
open PySem PySem.Spec PyProof.Rows L2
def keyS (e : Int × Value) : Str := match e.2 with
  | .str k _ => k
  | _ => Str.empty
def EntS (w : World) (e : Int × Value) : Prop := ∃ k tk, e = (hashStr w k, Value.str k tk)
/-- the table's side of a set of texts: the texts l, each once -/
structure TabS' (w : World) (es : Array (Int × Value)) (t : SetTable) (l : List Str) : Prop where
  ent : ∀ e ∈ es.toList, EntS w e
  pm : (es.toList.map keyS).Perm l
  nd : l.Nodup
  room : es.size < scanBound
  fit : t.fits es.size = true
  ris : Ris t.place.toList
  led : w.params.followText "set-order" = true ∨ t.led = true
def SetS (w : World) (h : Heap) (a : Addr) (l : List Str) : Prop := ∃ o es ep t, h.get? a = some o ∧ o.ExactSet ∧ o.data = .set es ep t ∧ TabS' w es t l
theorem SetS.at {w : World} {h h' : Heap} {a : Addr} {l : List Str} (R : SetS w h a l) (k : ∀ o, h.get? a = some o → h'.get? a = some o) : SetS w h' a l :=
  let ⟨o, es, ep, t, e, r⟩ := R
  ⟨o, es, ep, t, k o e, r⟩
section
variable {P : Program} {w : World} {A : Around} {E : Value → Shared → Prop} {s : Shared} {a : Addr} {l : List Str} {k : Str} {tk : Tok}
theorem entS_elems {m : List (Int × Value)} (g : ∀ e ∈ m, EntS w e) : ElemsOf (PySem.strKind P w) m := fun e he => by
  obtain ⟨x, t, rfl⟩ := g e he
  exact ⟨⟨x, by exact strKind_is P w x t, rfl⟩, rfl⟩
theorem entS_is {e : Int × Value} (g : EntS w e) (y : Str) : (PySem.strKind P w).is y e.2 = true ↔ keyS e = y := by
  obtain ⟨x, t, rfl⟩ := g
  constructor
  · intro h
    exact (PySem.strKind P w).inj (.str x t) x y (strKind_is P w x t) h
  · rintro rfl
    exact strKind_is P w x t
/-- the table behind an addition: written down, laid anew where it is too full -/
theorem tailS {g : Bool → Sem Unit} (hg : ∀ (b : Bool) (s1 : Shared) (Q' : Unit → Shared → Prop), Q' () s1 → wpAny (model P w) A (g b) Q' E s1)
    {o : Obj} {es es1 : Array (Int × Value)} {ep : Nat} {t t2 : SetTable} (ho : s.heap.get? a = some o) (hex : o.ExactSet) (hd : o.data = .set es ep t) (T : TabS' w es1 t2 l) {wasDummy : Bool} {R : Option Bool → Shared → Prop}
    (hR : ∀ h', Heap.SameBut a s.heap h' → SetS w h' a l → R (some true) { s with heap := h' }) :
    wpAny (model P w) A (do
        storeSet a es1 t2
        if (!wasDummy && t2.tooFull) = true then do
            g (relayAll t2 es1 (SetTable.grown es1.size)).2.2
            storeSet a (relayAll t2 es1 (SetTable.grown es1.size)).1 (relayAll t2 es1 (SetTable.grown es1.size)).2.1
            pure (some true)
          else pure (some true)) R E s := by
  refine wpAny_bind (wpAny_storeSet_of ho hd ?_ (fits_of_scanBound T.room))
  have first := store_at (es' := es1) (t' := t2) ho hd
  have same := Heap.SameBut.update s.heap a (Obj.putSet es1 t2)
  by_cases full : (!wasDummy && t2.tooFull) = true
  · rw [if_pos full]
    have z1 := relayAll_perm t2 es1 (SetTable.grown es1.size)
    have z2 := relayAll_fits t2 es1 (SetTable.grown es1.size)
    have z3 := relayAll_ris t2 es1 (SetTable.grown es1.size)
    have z4 := relayAll_led t2 es1 (SetTable.grown es1.size)
    revert z1 z2 z3 z4
    generalize relayAll t2 es1 (SetTable.grown es1.size) = anew
    obtain ⟨es2, t3, gave⟩ := anew
    intro z1 z2 z3 z4
    have many : es2.size = es1.size := by rw [← Array.length_toList, z1.length_eq, Array.length_toList]
    have T2 : TabS' w es2 t3 l := ⟨fun e he => T.ent e (z1.mem_iff.mp he), (z1.map keyS).trans T.pm, T.nd, many ▸ T.room, z2, z3, T.led.imp id fun z => z4.trans z⟩
    refine wpAny_bind (hg _ _ _ (wpAny_bind (wpAny_storeSet_of first rfl ?_ (fits_of_scanBound T2.room))))
    exact wpAny_pure (hR _ (same.trans (Heap.SameBut.update _ a _)) ⟨_, es2, _, t3, store_at (es' := es2) (t' := t3) first rfl, hex, rfl, T2⟩)
  · rw [if_neg full]
    exact wpAny_pure (hR _ same ⟨_, es1, _, t2, first, hex, rfl, T⟩)
theorem setS_add {Q : Bool → Shared → Prop} (R : SetS w s.heap a l) (room : l.length + 1 < scanBound) (hQ : ∀ h' b, Heap.SameBut a s.heap h' → SetS w h' a (if k ∈ l then l else k :: l) → Q b { s with heap := h' }) :
    wpAny (model P w) A (setAddHashed a (.str k tk) ((PySem.strKind P w).hash k)) Q E s := by
  obtain ⟨o, es, ep, t, ho, hex, hd, T⟩ := R
  have own : (PySem.strKind P w).is k (.str k tk) = true := strKind_is P w k tk
  have plain : (Value.str k tk).scannable = true := rfl
  have els : ElemsOf (PySem.strKind P w) es.toList := entS_elems T.ent
  unfold setAddHashed setAddHashedIn
  refine wpAny_holding (wpAny_bind (wpAny_setState_of ho hd T.fit ?_))
  dsimp only
  rw [byScan_of plain T.room els]
  simp only [↓reduceIte]
  unfold setAddByScan
  refine wpAny_bind (wpAny_bind (wpAny_rule (wpAny_bind (wpAny_setScan_of own ho hd T.fit els ?_))))
  cases found : List.findIdx? (fun e => (PySem.strKind P w).is k e.2) es.toList with
  | some j =>
    obtain ⟨hj, pj, _⟩ := List.findIdx?_eq_some_iff_getElem.mp found
    have there : k ∈ l := T.pm.mem_iff.mp (List.mem_map.mpr ⟨_, List.getElem_mem hj, (entS_is (T.ent _ (List.getElem_mem hj)) k).mp pj⟩)
    refine wpAny_pure (wpAny_pure ?_)
    exact hQ s.heap _ (Heap.SameBut.refl a s.heap) (by rw [if_pos there]; exact ⟨o, es, ep, t, ho, hex, hd, T⟩)
  | none =>
    have not : k ∉ l := fun z => by
      obtain ⟨e, he, q⟩ := List.mem_map.mp (T.pm.mem_iff.mpr z)
      have c := List.findIdx?_eq_none_iff.mp found e he
      rw [(entS_is (T.ent e he) k).mpr q] at c
      cases c
    have rules : ∀ (b : Bool) {s1 : Shared} {Q' : Unit → Shared → Prop}, Q' () s1 → wpAny (model P w) A (match b with | true => rule "set.scan.the-table-gave-way" | false => pure ()) Q' E s1 :=
      fun b s1 Q' q => by cases b <;> first | exact wpAny_pure q | exact wpAny_rule q
    have z1 := layNew_perm t es ((PySem.strKind P w).hash k) (.str k tk)
    have z2 := layNew_fits t es ((PySem.strKind P w).hash k) (.str k tk)
    have z3 := layNew_ris t es ((PySem.strKind P w).hash k) (.str k tk) T.ris
    have z4 := layNew_led t es ((PySem.strKind P w).hash k) (.str k tk)
    revert z1 z2 z3 z4
    generalize layNew t es ((PySem.strKind P w).hash k) (.str k tk) = laid
    obtain ⟨es1, t1, wasDummy, gave⟩ := laid
    intro z1 z2 z3 z4
    dsimp only at z1 z2 z3 z4 ⊢
    rw [Array.toList_push] at z1
    have z5 : es1.toList.Perm (((PySem.strKind P w).hash k, Value.str k tk) :: es.toList) := z1.trans (List.perm_append_singleton _ _)
    have many : es1.size = l.length + 1 := by
      have e1 : (es.toList.map keyS).length = l.length := T.pm.length_eq
      rw [List.length_map, Array.length_toList] at e1
      rw [← Array.length_toList, z5.length_eq, List.length_cons, Array.length_toList, e1]
    have T1 : TabS' w es1 t1 (k :: l) := ⟨fun e he => by
        rcases List.mem_cons.mp (z5.mem_iff.mp he) with z | z
        · exact ⟨k, tk, z⟩
        · exact T.ent e z, (z5.map keyS).trans (T.pm.cons k), List.nodup_cons.mpr ⟨not, T.nd⟩, by rw [many]; exact room, z2, z3, T.led.imp id fun z => z4.trans z⟩
    have last : ∀ h', Heap.SameBut a s.heap h' → SetS w h' a (k :: l) → Q true { s with heap := h' } := fun h' sb r => hQ h' true sb (by rw [if_neg not]; exact r)
    refine wpAny_bind (rules _ ?_)
    split
    · refine wpAny_bind ?_
      rw [hashByValue_scannable 8 plain]
      refine wpAny_pure ?_
      refine tailS ?_ ho hex hd (l := k :: l) (by first | exact ⟨T1.ent, T1.pm, T1.nd, T1.room, SetTable.fits_plain_off T1.fit, T1.ris, T1.led⟩ | exact T1 | (split <;> first | exact ⟨T1.ent, T1.pm, T1.nd, T1.room, SetTable.fits_plain_off T1.fit, T1.ris, T1.led⟩ | exact T1)) ?_
      · intro b s1 Q' q; cases b <;> first | exact wpAny_pure q | exact wpAny_rule q
      · intro h' sb r; dsimp only; exact wpAny_pure (last h' sb r)
    · refine wpAny_bind (wpAny_pure ?_)
      simp only [↓reduceIte]
      refine tailS ?_ ho hex hd T1 ?_
      · intro b s1 Q' q; cases b <;> first | exact wpAny_pure q | exact wpAny_rule q
      · intro h' sb r; dsimp only; exact wpAny_pure (last h' sb r)
end
/-- each text once, the last one first -/
def onceS : List Str → List Str → List Str
  | acc, [] => acc
  | acc, x :: r => onceS (if x ∈ acc then acc else x :: acc) r
theorem onceS_snoc (x : Str) : ∀ (xs acc : List Str), onceS acc (xs ++ [x]) = if x ∈ onceS acc xs then onceS acc xs else x :: onceS acc xs
  | [], acc => rfl
  | y :: ys, acc => by
    show onceS _ (ys ++ [x]) = _
    rw [onceS_snoc x ys]; rfl
theorem onceS_len : ∀ (xs acc : List Str), (onceS acc xs).length ≤ acc.length + xs.length
  | [], acc => by simp [onceS]
  | y :: ys, acc => by
    have h := onceS_len ys (if y ∈ acc then acc else y :: acc)
    have h2 : (if y ∈ acc then acc else y :: acc).length ≤ acc.length + 1 := by split <;> simp
    show (onceS _ ys).length ≤ _
    rw [List.length_cons]
    omega
theorem onceS_mem (z : Str) : ∀ (xs acc : List Str), z ∈ onceS acc xs ↔ z ∈ acc ∨ z ∈ xs
  | [], acc => by simp [onceS]
  | y :: ys, acc => by
    show z ∈ onceS _ ys ↔ _
    rw [onceS_mem z ys, List.mem_cons]
    by_cases h : y ∈ acc
    · rw [if_pos h]
      constructor
      · rintro (a | a)
        · exact .inl a
        · exact .inr (.inr a)
      · rintro (a | rfl | a)
        · exact .inl a
        · exact .inl h
        · exact .inr a
    · rw [if_neg h, List.mem_cons]
      constructor
      · rintro ((rfl | a) | a)
        · exact .inr (.inl rfl)
        · exact .inl a
        · exact .inr (.inr a)
      · rintro (a | rfl | a)
        · exact .inl (.inr a)
        · exact .inl (.inl rfl)
        · exact .inr a
theorem onceS_nd : ∀ (xs acc : List Str), acc.Nodup → (onceS acc xs).Nodup
  | [], acc, h => h
  | y :: ys, acc, h => onceS_nd ys _ (by
    by_cases q : y ∈ acc
    · rw [if_pos q]; exact h
    · rw [if_neg q]; exact List.nodup_cons.mpr ⟨q, h⟩)
section
variable {P : Program} {w : World} {A : Around} {E : Value → Shared → Prop} {s : Shared}
theorem updS {I : Addr} {fp wr : List Addr} {G : Array GenState → Array GenState → Prop} {n : Nat} {Pv : Nat → Value → Prop} {St : Nat → Shared → Prop} {R : Result → Shared → Prop}
    (W : WalksS P w A.in1 I fp wr G n Pv St) (S : Addr) (hSf : S ∉ fp) (xs : List Str) (hn : n = xs.length) (hb : xs.length + 1 < scanBound) (hval : ∀ i v, Pv i v → ∃ k t, xs[i]? = some k ∧ v = .str k t) :
    ∀ (k i : Nat) (s : Shared), n - i = k → i ≤ n → St i s → SetS w s.heap S (onceS [] (xs.take i)) →
      (∀ s', Moved (S :: wr) G s s' → SetS w s'.heap S (onceS [] xs) → R (.ok (.ret .none)) s') → codeAny (model P w) A (.builtin "set.update.loop" ⟨[.ref S, .ref I], []⟩) R s := by
  have away : S ∉ wr := fun h => hSf (W.sub _ h)
  have more : ∀ b ∈ wr, b ∈ S :: wr := fun b hb => List.mem_cons_of_mem _ hb
  intro k
  induction k with
  | zero =>
    intro i s hk hi st hS hR
    obtain rfl : i = n := by omega
    refine codeAny_builtin F.entry_set_update_loop ?_
    rw [Around.under_plainId F.plain_set_update_loop _]
    refine wpAny_bind (m := pyNext (.ref I)) (W.done s _ _ st fun s' hm => ?_)
    rw [List.take_of_length_le (by omega)] at hS
    exact wpAny_pure (hR s' (hm.mono more) (hS.at fun o e => hm.heap S o away e))
  | succ k ih =>
    intro i s hk hi st hS hR
    have lt : i < n := by omega
    refine codeAny_builtin F.entry_set_update_loop ?_
    rw [Around.under_plainId F.plain_set_update_loop _]
    refine wpAny_bind (m := pyNext (.ref I)) (W.item i s _ _ lt st fun v s' hP st' hm => ?_)
    obtain ⟨z, t, hz, rfl⟩ := hval i v hP
    have hS1 : SetS w s'.heap S (onceS [] (xs.take i)) := hS.at fun o e => hm.heap S o away e
    refine wpAny_bind (m := holding [Value.str z t] (setAdd S (.str z t))) (wpAny_holding ?_)
    unfold setAdd
    refine wpAny_holding (wpAny_bind ((PySem.strKind P w).pyHash (k := z) (strKind_is _ _ _ _) ?_))
    have lim : (onceS [] (xs.take i)).length + 1 < scanBound := by
      have h1 := onceS_len (xs.take i) []
      have h2 : (xs.take i).length ≤ xs.length := by rw [List.length_take]; exact Nat.min_le_right _ _
      simp only [List.length_nil, Nat.zero_add] at h1
      omega
    refine setS_add (s := { s' with toks := s'.toks + 1 }) hS1 lim fun h' b sb hS2 => ?_
    have hS3 : SetS w h' S (onceS [] (xs.take (i + 1))) := by
      rw [List.take_add_one, hz]
      show SetS w h' S (onceS [] (xs.take i ++ [z]))
      rw [onceS_snoc]; exact hS2
    refine wpAny_pure ⟨plainId_quiet F.plain_set_update_loop _, ih (i + 1) _ (by omega) lt (W.frame _ s' _ _ st' (Nat.le_succ _) fun b hb o e => ?_) hS3 fun s2 hm2 hS4 => ?_⟩
    · exact (sb.2 b fun q : b = S => hSf (q ▸ hb)).trans e
    · refine hR s2 (Moved.trans W.gtrans ((hm.mono more).then_heap (Nat.le_succ _) fun b o hb e => ?_) hm2) hS4
      exact (sb.2 b fun q : b = S => hb (by rw [q]; exact List.mem_cons_self)).trans e
end
end PD

set_option maxHeartbeats 4000000
namespace PD
open PySem PySem.Spec PyProof.Rows L2
section
variable {P : Program} {w : World} {A : Around} {E : Value → Shared → Prop} {s : Shared}
/-- a set that has just been made -/
abbrev bareSet (w : World) : Obj := { cls := .type "set", dict := none, data := .set #[] 0 (.fresh 0 0 (!w.params.followText "set-order")) }
theorem setS_bare {h : Heap} {a : Addr} (ho : h.get? a = some (bareSet w)) : SetS w h a [] :=
  ⟨_, #[], 0, _, ho, ⟨rfl, rfl, rfl⟩, rfl, ⟨fun e he => by simp at he, by simp, List.nodup_nil, by decide, rfl, List.Pairwise.nil, by
    show _ ∨ (!w.params.followText "set-order") = true
    cases w.params.followText "set-order" <;> first | exact .inl rfl | exact .inr rfl⟩⟩
set_option maxHeartbeats 6400000 in
theorem call_setS {l : Addr} {items : Array Value} {xs : List Str} {Q : Value → Shared → Prop} (hh : A.handled = none) (hl : s.heap.IsList l items) (hi : PyProof.Rows.StrsAre items.toList xs) (hb : xs.length + 1 < scanBound)
    (q : ∀ (h' : Heap) (tk : Nat), SetS w h' s.heap.objs.size (onceS [] xs) → (∀ b o, s.heap.get? b = some o → h'.get? b = some o) → Q (.ref s.heap.objs.size) { s with heap := h', toks := tk }) :
    wpAny (model P w) A (call (.type "set") [.ref l]) Q E s := by
  have many : items.size = xs.length := by rw [← Array.length_toList]; exact StrsAre.len_eq hi
  obtain ⟨c, tl, hmro⟩ := F.called_set.mro
  have madeF := F.called_set.made
  have subF := F.called_set.sub
  refine wpAny_call (codeAny_of_tree ?_)
  show wpAny _ _ (callAny (.type "set") ⟨[.ref l], []⟩) _ _ s
  refine wpAny_pure ⟨Code.quiet_builtin _ (by decide +kernel), codeAny_builtin PySem.F.entry_type_call ?_⟩
  rw [Around.under_plain (weight_type_call_type "set" [Value.ref l] []) rfl]
  have f1 := F.called_set.notType
  have f2 := F.called_set.canCreate
  have f3 := F.typeCall_set_1 (.ref l)
  repeat (any_goals (first | assumption | wp_step))

  refine codeAny_mono (code_set_led1 (.ref l) (E := E) (Q₁ := fun ob t => ob = .ref s.heap.objs.size ∧ t = { s with heap := s.heap.push (bareSet w) }) ⟨rfl, rfl⟩) fun r t hr => ?_
  cases r with
  | error e => exact hr
  | ok fl =>
    cases fl with
    | ret ob =>
      obtain ⟨rfl, rfl⟩ := hr
      have there : (s.heap.push (bareSet w)).get? s.heap.objs.size = some (bareSet w) := Heap.get?_push_size _ rfl
      have hT : Shared.TypeIs { s with heap := s.heap.push (bareSet w) } (.ref s.heap.objs.size) "set" := ⟨_, there, rfl⟩
      have f4 := F.called_set.init.lookup
      have f5 := F.called_set.init.bind (.ref s.heap.objs.size)
      repeat (any_goals (first | assumption | wp_step))

      refine codeAny_mono (codeAny_call_builtin (R := wants (fun r t2 => r = .none ∧ ∃ h' tk, t2 = { s with heap := h', toks := tk } ∧ SetS w h' s.heap.objs.size (onceS [] xs) ∧ ∀ b o, s.heap.get? b = some o → h'.get? b = some o) E)
        F.called_set.init.plain F.entry_set_init (check_set_init_1 hT ?_)) fun r2 t2 hr2 => ?_
      · obtain ⟨ol, hol, hcl, nl, hdl⟩ := hl
        obtain ⟨ocls, odict, odata, oslots⟩ := ol
        simp only at hcl hdl
        subst hcl; subst hdl
        have atL : (s.heap.push (bareSet w)).get? l = some { cls := .type "list", dict := odict, data := .seq items nl, slots := oslots } := Heap.get?_push_of_some _ hol
        have g1 := F.sub_list_set
        have g2 := F.sub_list_frozenset
        have g3 : (Value.type "list" == Value.type "dict") = false := by decide
        have isL : (s.heap.push (bareSet w)).IsList l items := ⟨_, atL, rfl, nl, rfl⟩
        unfold Builtin.«set.__init__» noKeywords Builtin.Frozenset.updateFrom
        generalize hPI : pyIter = PI
        wp_walk
        subst hPI

        refine wpAny_pyIter_list isL (wpAny_bind (wpAny_runValue ?_))
        have ltL : l < s.heap.objs.size := Heap.lt_size hol
        have calm3 : A.in1.in1.in1.handled = none := by simp [hh]
        have apart : l ≠ (s.heap.push (bareSet w)).objs.size := by rw [Heap.size_push]; exact Nat.ne_of_lt (Nat.lt_succ_of_lt ltL)
        have off : s.heap.objs.size ∉ [(s.heap.push (bareSet w)).objs.size, l] := by
          rw [Heap.size_push]
          intro m
          rcases List.mem_cons.mp m with z | z
          · exact absurd z (Nat.ne_of_lt (Nat.lt_succ_self _))
          · have z := List.mem_singleton.mp z
            rw [z] at ltL
            exact Nat.lt_irrefl _ ltL
        have vals : ∀ (i : Nat) (v : Value), items[i]? = some v → ∃ k t, xs[i]? = some k ∧ v = .str k t := fun i v hv => by
          have li : i < xs.length := by rw [← many]; exact (Array.getElem?_eq_some_iff.mp hv).1
          obtain ⟨t, e⟩ := SS.strs_at hi i v (by rw [Array.getElem?_toList]; exact hv)
          exact ⟨xs[i], t, List.getElem?_eq_getElem li, by rw [e, List.getD_eq_getElem?_getD, List.getElem?_eq_getElem li] <;> rfl⟩
        refine updS ((Walks.list calm3 _ l apart items).toS) s.heap.objs.size off xs many hb vals (items.size - 0) 0 _ (by omega) (Nat.zero_le _) ⟨⟨_, Heap.get?_push_size _ rfl, rfl, rfl⟩, (isL.push _)⟩ ?old ?out
        case old => exact setS_bare (Heap.get?_push_of_some _ there)
        case out =>
          intro t3 hm hS
          obtain ⟨h', g4, d4, tk4, os4⟩ := t3
          obtain rfl : g4 = s.gens := hm.gens
          obtain rfl : d4 = s.drawn := hm.drawn
          obtain rfl : os4 = s.os := hm.os
          refine wpAny_pure (wpAny_pure ⟨rfl, h', tk4, rfl, hS, fun b o e => ?_⟩)
          have lb : b < s.heap.objs.size := Heap.lt_size e
          refine hm.heap b o (fun m => ?_) (Heap.get?_push_of_some _ (Heap.get?_push_of_some _ e))
          rcases List.mem_cons.mp m with z | z
          · exact absurd z (Nat.ne_of_lt lb)
          · have z := List.mem_singleton.mp z
            rw [Heap.size_push] at z
            exact absurd z (Nat.ne_of_lt (Nat.lt_succ_of_lt lb))
      · cases r2 with
        | error e => exact hr2
        | ok fl2 =>
          cases fl2 with
          | ret r =>
            obtain ⟨rfl, h', tk, rfl, hS, hk⟩ := hr2
            repeat (any_goals (first | assumption | wp_step))
            exact q _ _ hS hk
          | _ => exact hr2.elim
    | _ => exact hr.elim
theorem strs_of : ∀ (l : List Value), (∀ v ∈ l, ∃ k tk, v = Value.str k tk) → StrsAre l (l.map fun v => keyS (0, v))
  | [], _ => .nil
  | v :: l, h => by
    obtain ⟨k, tk, rfl⟩ := h v List.mem_cons_self
    exact .cons k tk (strs_of l fun u hu => h u (List.mem_cons_of_mem _ hu))
theorem sorted_setS {a : Addr} {l : List Str} {Q : Value → Shared → Prop} (R : SetS w s.heap a l) (hh : A.handled = none)
    (q : ∀ t p (out : Array Value) (c : Nat) (ys : List Str), (∀ b o, s.heap.get? b = some o → t.heap.get? b = some o) → t.gens = s.gens → t.os = s.os → s.heap.objs.size ≤ p →
      t.heap.get? p = some (seqObj "list" out c) → StrsAre out.toList ys → ys.Perm l → sortedS ys = true → Q (.ref p) t) : wpAny (model P w) A (call (.builtin "sorted") [.ref a]) Q E s := by
  obtain ⟨o, es, ep, t, ho, hex, hd, T⟩ := R
  refine Calls.call_function_entry kind_sorted plain_sorted entry_sorted (args_sorted1 _) ?_
  unfold Builtin.«sorted»
  refine wpAny_bind (m := checkCount "sorted" 1 1 _) (wpAny_pure ?_)
  refine wpAny_bind (collect_set (A := A.in1) hh ⟨o, ho, hex.1, hd⟩ T.fit T.room T.ris T.led fun s1 vs k1 hz g1 o1 pm => ?_)
  have len : vs.length = es.size := by rw [pm.length_eq, List.length_map, Array.length_toList]
  have fits := fits_of_scanBound T.room
  have texts : StrsAre vs (vs.map fun v => keyS (0, v)) := strs_of vs fun v hv => by
    obtain ⟨e, he, z⟩ := List.mem_map.mp (pm.mem_iff.mp hv)
    obtain ⟨k, tk, rfl⟩ := T.ent e he
    exact ⟨k, tk, z.symm⟩
  have pk : (vs.map fun v => keyS (0, v)).Perm l := by
    have z := pm.map fun v => keyS (0, v)
    rw [List.map_map] at z
    exact z.trans T.pm
  refine wpAny_bind (wpAny_newList ?_ (by rw [len]; exact fits))
  have made : (s1.heap.push (seqObj "list" vs.toArray 0)).get? s1.heap.objs.size = some (seqObj "list" vs.toArray 0) := Heap.get?_push_size _ rfl
  refine wpAny_bind (wpAny_holding (wpAny_call_entry slot_list_sort ⟨_, made, rfl⟩ entry_list_sort (list_sort_treeKAny strKind_oneLt made texts.keysOf (fun a b r e => keyKind_strs (by rw [← e]; exact texts)) (by rw [len]; exact fits) fun st hp hs => ⟨_, rfl, ?_⟩) (args_list_sort _)))
  obtain ⟨ys, y1, y2, y3⟩ := sorted_out_str texts hp hs
  obtain ⟨c, hc⟩ := sortedHeap_at (vs := vs) (out := (arrOf st).map (·.2)) made
  refine wpAny_pure ⟨_, rfl, q _ s1.heap.objs.size _ c ys (fun b u e => ?_) g1 o1 hz hc y1 (y2.trans pk) y3⟩
  have old := k1 b u e
  have lt := Heap.lt_size old
  exact (sortedHeap_old (Nat.ne_of_lt lt) (by rw [size_push']; exact Nat.lt_succ_of_lt lt)).trans (Heap.get?_push_of_some _ old)
end
/-- the set of texts at a -/
def SetH (w : World) (a : Addr) (l : List Str) : HO := .ext fun h => SetS w h a l
section
variable {X : Cx} {W : WX} {ex : Addr → Prop} {a : Expr} {ρ : List Sl} {ds : List PyData} {p p2 q pos : Pos} {zs : List Str}
theorem setH_new {w : World} {P : Program} {H : Hp} {h : Heap} {a : Addr} {l : List Str} (R : SetS w h a l) : ObjOk P w H h a (SetH w a l) :=
  ⟨R, let ⟨o, _, _, _, e, _⟩ := R; ⟨o, e⟩, fun _ _ p k => SetS.at p k⟩
theorem cr_setH (hc : X.calm = true) : CallR X (.type "set") (fun vs H Q => ∃ (l : Addr) (xs : List Str), vs = [.ref l] ∧ SqL X.K H l (xs.map V.str) ∧ xs.length + 1 < scanBound ∧ ∀ p, H p = none → Q (.ref p) (upd H p (SetH X.w p (onceS [] xs)))) := by
  intro pins s σ H vs us Q I r h
  obtain ⟨l, xs, rfl, hs, hb, k⟩ := h
  obtain ⟨its, rv, hl, _⟩ := I.list hs
  rw [Vals.ref1 r]
  exact call_setS (I.ok.hd hc) hl.isList rv.strs hb fun h' tk hS hk => ⟨.ref _, _, I.laid (t' := tk) hk (Nat.le_refl _) (setH_new hS), rfl, k _ (I.hok.fresh (Nat.le_refl _))⟩
theorem cr_sortedH (hc : X.calm = true) : CallR X (.builtin "sorted") (fun vs H Q => ∃ (a : Addr) (l : List Str), vs = [.ref a] ∧ H a = some (SetH X.w a l) ∧ l.length ≤ 100000 ∧ ∀ ys p, ys.Perm l → sortedS ys = true → H p = none → Q (.ref p) (upd H p (.lst (ys.map V.str)))) := by
  intro pins s σ H vs us Q I r h
  obtain ⟨a, l, rfl, ha, hz, k⟩ := h
  have R : SetS X.w s.heap a l := (I.hok a _ ha).1
  rw [Vals.ref1 r]
  refine sorted_setS R (I.ok.hd hc) fun t p out c ys kp g o hp hg hi pm hs => ?_
  have new : H p = none := I.hok.fresh hp
  have len : (ys.map V.str).length ≤ sizeLine := by rw [List.length_map, pm.length_eq]; exact sz_le hz
  have J : Inv X pins σ (upd H p (.lst (ys.map V.str))) { s with heap := t.heap, gens := t.gens, drawn := t.drawn, toks := t.toks } :=
    I.call (ch := []) (Un.laid kp hp new) (I.hok.laid kp hp ⟨len, out.toList, c, vals_of_strs hi, hg⟩) (by rw [g]; exact I.bare) (fun _ z => nomatch z)
  have e : t = { s with heap := t.heap, gens := t.gens, drawn := t.drawn, toks := t.toks } := by
    cases t
    cases s
    cases o
    rfl
  rw [e]
  exact ⟨.ref p, _, J, rfl, k ys p pm hs new⟩
/-- sorted(set(xs)), texts -/
theorem el_sortSet (hc : X.calm = true) (ha : EB X W ex a ρ (zs.map .str)) (hz : zs.length ≤ 4000) (hg : Gl X ("sorted" : Str)) (hm : X.mg ("sorted" : Str) = none) (hg2 : Gl X ("set" : Str)) (hm2 : X.mg ("set" : Str) = none)
    (u : ∀ ys : List Str, ys.Nodup → (∀ z, z ∈ ys ↔ z ∈ zs) → PyProof.Rows.sortedS ys = true → ds = ys.map .str)
    (hs : starEach [a] X.env = [(false, eval a X.env)] := by rfl) : EL X W ex (.Call (.Name "sorted" p) [.Call (.Name "set" p2) [a] [] q] [] pos) ρ ds := fun B F H σ Q E c k =>
  w_e (pe_callB (cr_sortedH hc) hg hm (by decide +kernel) (pa_cons (pe_callTy (cr_setH hc) hg2 hm2 (by decide +kernel) (pa_cons pe_w pa_nil hs) (by decide) (by decide) hs (by rfl)) pa_nil) (by decide) (by decide) rfl (by rfl)) (ha B F H σ _ E c fun l vs F1 H1 x1 h1 i1 => by
    rw [i1.strs_eq] at h1
    refine ⟨l, zs, rfl, h1, by unfold scanBound; omega, fun r hr => ⟨r, onceS [] zs, rfl, upd_same, ?_, fun ys r2 hp hsrt hr2 => ?_⟩⟩
    · have h := onceS_len zs []
      simp only [List.length_nil, Nat.zero_add] at h
      omega
    · have x2 := Ext.kept (o := SetH X.w r (onceS [] zs)) x1.i hr
      have x3 := Ext.kept (o := .lst (ys.map V.str)) x2.i hr2
      have e := u ys (hp.nodup_iff.mpr (onceS_nd zs [] List.nodup_nil)) (fun z => by rw [hp.mem_iff, onceS_mem]; simp) hsrt
      rw [e] at k
      exact k r2 _ F1 _ (x1.trans (x2.trans x3)) (x1.h.back (x2.h.back hr2)) (x1.i.back (x2.h.back hr2)) upd_same (IsAll.strs ys))
end
end PD

set_option maxHeartbeats 4000000
/-! the numbers, names and lines that the laws draw, as plain functions -/
namespace LW
open PySem L2 PD
def cell (ns : List Int) (k : Nat) : Int := ns.getD k 0
def mixed (c k : Int) : Int := (c + 7919 * k) * 48271 % 2147483647
theorem mixed_nn (c k : Int) : 0 ≤ mixed c k := Int.emod_nonneg _ (by decide)
theorem mixed_lt (c k : Int) : mixed c k < 2147483647 := Int.emod_lt_of_pos _ (by decide)
def sgn : Str := "abcdefghijklmnopqrstuvwxyz0123456789"
abbrev cs (z : Str) : List Nat := z.cps.toList
def chS (c : Nat) : Str := ⟨#[c]⟩
def sgnC (i : Int) : Nat := (cs sgn).getD i.toNat 0
def numS (n : Int) : Str := Str.ofString (toString n)
theorem cs_ext {x y : Str} (h : cs x = cs y) : x = y := TL.ext_tl h
theorem cs_app (x y : Str) : cs (x ++ y) = cs x ++ cs y := TL.tl_append x y
theorem cs_ch (c : Nat) : cs (chS c) = [c] := rfl
theorem len_cs (x : Str) : x.length = (cs x).length := TL.len_tl x
theorem len_app (x y : Str) : (x ++ y).length = x.length + y.length := by rw [len_cs, cs_app, List.length_append, ← len_cs, ← len_cs]
/-- singles joined -/
theorem cs_join {α : Type} (xs : List α) (g : α → Nat) : cs (Str.join "" (xs.map fun x => chS (g x))) = xs.map g := by
  show TL.tl _ = _
  rw [TL.tl_join]
  show TL.joinL [] _ = _
  have go : ∀ l : List (List Nat), TL.joinL [] l = l.flatten := by
    intro l
    induction l with
    | nil => rfl
    | cons p r ih =>
      cases r with
      | nil => simp [TL.joinL]
      | cons q r => rw [TL.joinL, ih]; simp
  rw [go, List.map_map]
  induction xs with
  | nil => rfl
  | cons x r ih =>
    rw [List.map_cons, List.flatten_cons, ih]; rfl
theorem cs_take (z : Str) (k : Nat) : cs (cutS z none (some (k : Int))) = (cs z).take k := by
  unfold cutS cs
  rw [HT.sIx_none, HT.sIx_nat, List.drop_zero, Nat.sub_zero]
  show List.take (min k z.length) z.cps.toList = _
  rw [TL.len_tl]
  rcases Nat.le_total k (TL.tl z).length with h | h
  · rw [Nat.min_eq_left h]
  · rw [Nat.min_eq_right h, List.take_of_length_le (Nat.le_refl _), List.take_of_length_le h]
theorem cs_drop (z : Str) (k : Nat) : cs (cutS z (some (k : Int)) none) = (cs z).drop k := by
  unfold cutS cs
  rw [HT.sIx_none, HT.sIx_nat]
  show List.take (z.length - min k z.length) (List.drop (min k z.length) z.cps.toList) = _
  rw [TL.len_tl]
  rcases Nat.le_total k (TL.tl z).length with h | h
  · rw [Nat.min_eq_left h, List.take_of_length_le (by rw [List.length_drop]; exact Nat.le_refl _)]
  · rw [Nat.min_eq_right h, Nat.sub_self, List.take_zero, List.drop_eq_nil_of_le h]
/-! names -/
def NameOk (z : Str) : Prop := 1 ≤ z.length ∧ z.length ≤ 12 ∧ ∀ c ∈ cs z, c ∈ cs sgn
instance (z : Str) : Decidable (NameOk z) := by unfold NameOk; exact inferInstance
theorem sgn_len : (cs sgn).length = 36 := by decide +kernel
theorem sgnC_mem {i : Int} (h0 : 0 ≤ i) (h : i < 36) : sgnC i ∈ cs sgn := by
  have hi : i.toNat < (cs sgn).length := by rw [sgn_len]; omega
  unfold sgnC
  rw [List.getD_eq_getElem?_getD, List.getElem?_eq_getElem hi]
  exact List.getElem_mem hi
theorem sgn_at {i : Int} (h0 : 0 ≤ i) (h : i < 36) : atI (cs sgn) i = some (sgnC i) := by
  have hi : i.toNat < (cs sgn).length := by rw [sgn_len]; omega
  have e : ((i.toNat : Nat) : Int) = i := by omega
  have h2 : (cs sgn)[i.toNat]? = some (sgnC i) := by
    unfold sgnC
    rw [List.getD_eq_getElem?_getD, List.getElem?_eq_getElem hi]; rfl
  have h3 := atI_nat h2
  rw [e] at h3
  exact h3
theorem numOk {n : Nat} (h : n ≤ 1000) : NameOk (numS (n : Int)) := by
  have a : ((List.range 1001).all fun n => decide (NameOk (numS (n : Int)))) = true := by decide +kernel
  exact of_decide_eq_true (List.all_eq_true.mp a n (List.mem_range.mpr (by omega)))
theorem numInj {n m : Nat} (hn : n < 80) (hm : m < 80) (h : numS (n : Int) = numS (m : Int)) : n = m := by
  have a : ((List.range 80).all fun n => (List.range 80).all fun m => decide (numS (n : Int) = numS (m : Int) → n = m)) = true := by decide +kernel
  exact of_decide_eq_true (List.all_eq_true.mp (List.all_eq_true.mp a n (List.mem_range.mpr hn)) m (List.mem_range.mpr hm)) h
def nm0 (c : Int) : Str := Str.join "" ((List.range (1 + mixed c 5 % 12).toNat).map fun (j : Nat) => chS (sgnC (mixed c j % 36)))
def nm1 (c : Int) : Str := if decide (c % 8 = 1) = true then numS (mixed c 5 % 130) else nm0 c
def nm2 (c : Int) (taken : List Str) : Str := if (decide (c % 8 = 2) && !taken.isEmpty) = true then cutS (taken.getLastD "") none (some 11) ++ chS (sgnC (mixed c 5 % 36)) else nm1 c
def nmT (c : Int) (taken : List Str) : Str := taken.getD (mixed c 5 % (taken.length : Int)).toNat ""
def nmA (c : Int) (taken : List Str) : Int := mixed c 5 / 60 % ((nmT c taken).length : Int)
def nm3 (c : Int) (taken : List Str) : Str := if (decide (4 < c % 8) && !taken.isEmpty) = true then cutS (nmT c taken) none (some (nmA c taken)) ++ chS (sgnC (mixed c 5 / 720 % 36)) ++ cutS (nmT c taken) (some (nmA c taken + 1)) none else nm2 c taken
def frees (taken : List Str) : List Str := ((List.range (taken.length + 1)).map fun (j : Nat) => numS (j : Int)).filter fun z => !decide (z ∈ taken)
def nameOf (c : Int) (taken : List Str) : Str := if (!decide (nm3 c taken ∈ taken)) = true then nm3 c taken else (frees taken).headD ""
theorem nm0_ok (c : Int) : NameOk (nm0 c) := by
  have h0 := Int.emod_nonneg (mixed c 5) (show (12 : Int) ≠ 0 by decide)
  have h1 := Int.emod_lt_of_pos (mixed c 5) (show (0 : Int) < 12 by decide)
  have e : cs (nm0 c) = (List.range (1 + mixed c 5 % 12).toNat).map fun (j : Nat) => sgnC (mixed c j % 36) := cs_join _ _
  refine ⟨?_, ?_, fun x hx => ?_⟩
  · rw [len_cs, e, List.length_map, List.length_range]; omega
  · rw [len_cs, e, List.length_map, List.length_range]; omega
  · rw [e] at hx
    obtain ⟨j, _, rfl⟩ := List.mem_map.mp hx
    exact sgnC_mem (Int.emod_nonneg _ (by decide)) (Int.emod_lt_of_pos _ (by decide))
theorem nm1_ok (c : Int) : NameOk (nm1 c) := by
  unfold nm1
  split
  · have h0 := Int.emod_nonneg (mixed c 5) (show (130 : Int) ≠ 0 by decide)
    have h1 := Int.emod_lt_of_pos (mixed c 5) (show (0 : Int) < 130 by decide)
    have e : mixed c 5 % 130 = ((mixed c 5 % 130).toNat : Int) := by omega
    rw [e]
    exact numOk (by omega)
  · exact nm0_ok c
theorem getLastD_mem {taken : List Str} (h : taken.isEmpty = false) : taken.getLastD "" ∈ taken := by
  cases taken with
  | nil => cases h
  | cons a r => rw [List.getLastD_eq_getLast?, List.getLast?_eq_getLast (List.cons_ne_nil a r)]; exact List.getLast_mem _
theorem nm2_ok (c : Int) {taken : List Str} (ht : ∀ z ∈ taken, NameOk z) : NameOk (nm2 c taken) := by
  unfold nm2
  split
  · rename_i h
    rw [Bool.and_eq_true] at h
    obtain ⟨l1, l2, l3⟩ := ht _ (getLastD_mem (by simpa using h.2))
    have e : cs (cutS (taken.getLastD "") none (some 11) ++ chS (sgnC (mixed c 5 % 36))) = (cs (taken.getLastD "")).take 11 ++ [sgnC (mixed c 5 % 36)] := by rw [cs_app, cs_ch]; exact congrArg (· ++ _) (cs_take _ 11)
    refine ⟨?_, ?_, fun x hx => ?_⟩
    · rw [len_cs, e, List.length_append, List.length_singleton]; omega
    · rw [len_cs, e, List.length_append, List.length_singleton, List.length_take]; omega
    · rw [e] at hx
      rcases List.mem_append.mp hx with hx | hx
      · exact l3 x (List.mem_of_mem_take hx)
      · rw [List.mem_singleton.mp hx]
        exact sgnC_mem (Int.emod_nonneg _ (by decide)) (Int.emod_lt_of_pos _ (by decide))
  · exact nm1_ok c
theorem nmT_mem (c : Int) {taken : List Str} (h : taken.isEmpty = false) : nmT c taken ∈ taken ∧ taken[(mixed c 5 % (taken.length : Int)).toNat]? = some (nmT c taken) := by
  have hl : 0 < taken.length := by cases taken with | nil => cases h | cons => simp
  have h0 := Int.emod_nonneg (mixed c 5) (show (taken.length : Int) ≠ 0 by omega)
  have h1 := Int.emod_lt_of_pos (mixed c 5) (show (0 : Int) < (taken.length : Int) by omega)
  have hi : (mixed c 5 % (taken.length : Int)).toNat < taken.length := by omega
  unfold nmT
  rw [List.getD_eq_getElem?_getD, List.getElem?_eq_getElem hi]
  exact ⟨List.getElem_mem hi, rfl⟩
theorem nmA_bd (c : Int) {taken : List Str} (h : taken.isEmpty = false) (ht : ∀ z ∈ taken, NameOk z) : 0 ≤ nmA c taken ∧ nmA c taken < (nmT c taken).length := by
  have h1 := (ht _ (nmT_mem c h).1).1
  exact ⟨Int.emod_nonneg _ (by omega), Int.emod_lt_of_pos _ (by omega)⟩
theorem nm3_ok (c : Int) {taken : List Str} (ht : ∀ z ∈ taken, NameOk z) : NameOk (nm3 c taken) := by
  unfold nm3
  split
  · rename_i h
    rw [Bool.and_eq_true] at h
    have he : taken.isEmpty = false := by simpa using h.2
    obtain ⟨l1, l2, l3⟩ := ht _ (nmT_mem c he).1
    obtain ⟨a0, a1⟩ := nmA_bd c he ht
    have ea : nmA c taken = ((nmA c taken).toNat : Int) := by omega
    have eb : nmA c taken + 1 = (((nmA c taken).toNat + 1 : Nat) : Int) := by omega
    have e : cs (cutS (nmT c taken) none (some (nmA c taken)) ++ chS (sgnC (mixed c 5 / 720 % 36)) ++ cutS (nmT c taken) (some (nmA c taken + 1)) none) = ((cs (nmT c taken)).take (nmA c taken).toNat ++ [sgnC (mixed c 5 / 720 % 36)]) ++ (cs (nmT c taken)).drop ((nmA c taken).toNat + 1) := by
      rw [cs_app, cs_app, cs_ch, eb, cs_drop]
      have : cs (cutS (nmT c taken) none (some (nmA c taken))) = (cs (nmT c taken)).take (nmA c taken).toNat := by
        have := cs_take (nmT c taken) (nmA c taken).toNat
        rw [← ea] at this; exact this
      rw [this]
    have lz := len_cs (nmT c taken)
    refine ⟨?_, ?_, fun x hx => ?_⟩
    · rw [len_cs, e, List.length_append, List.length_append, List.length_singleton]; omega
    · rw [len_cs, e, List.length_append, List.length_append, List.length_singleton, List.length_take, List.length_drop]; omega
    · rw [e] at hx
      rcases List.mem_append.mp hx with hx | hx
      · rcases List.mem_append.mp hx with hx | hx
        · exact l3 x (List.mem_of_mem_take hx)
        · rw [List.mem_singleton.mp hx]
          exact sgnC_mem (Int.emod_nonneg _ (by decide)) (Int.emod_lt_of_pos _ (by decide))
      · exact l3 x (List.mem_of_mem_drop hx)
  · exact nm2_ok c ht
theorem nodup_le {α : Type} [DecidableEq α] : ∀ {l m : List α}, l.Nodup → (∀ x ∈ l, x ∈ m) → l.length ≤ m.length
  | [], m, _, _ => Nat.zero_le _
  | x :: r, m, hn, hs => by
    rw [List.nodup_cons] at hn
    have hx : x ∈ m := hs x List.mem_cons_self
    have ih := nodup_le (l := r) (m := m.erase x) hn.2 fun y hy => (List.mem_erase_of_ne (fun e => hn.1 (by rw [← e]; exact hy))).mpr (hs y (List.mem_cons_of_mem _ hy))
    rw [List.length_erase_of_mem hx] at ih
    have : 0 < m.length := List.length_pos_of_mem hx
    rw [List.length_cons]; omega
theorem frees_ne {taken : List Str} (h : taken.length ≤ 70) : frees taken ≠ [] := by
  intro e
  have hall : ∀ z ∈ (List.range (taken.length + 1)).map (fun (j : Nat) => numS (j : Int)), z ∈ taken := fun z hz => by
    unfold frees at e
    have := List.filter_eq_nil_iff.mp e z hz
    simpa using this
  have hn : ((List.range (taken.length + 1)).map (fun (j : Nat) => numS (j : Int))).Nodup := by
    refine List.pairwise_map.mpr (List.Pairwise.imp_of_mem (R := (· ≠ ·)) (fun {a b} ha hb hne q => hne (numInj ?_ ?_ q)) List.nodup_range)
    · have := List.mem_range.mp ha; omega
    · have := List.mem_range.mp hb; omega
  have := nodup_le hn hall
  rw [List.length_map, List.length_range] at this
  omega
theorem frees_head {taken : List Str} (h : taken.length ≤ 70) : (frees taken).headD "" ∈ frees taken := by
  cases e : frees taken with
  | nil => exact absurd e (frees_ne h)
  | cons a r => exact List.mem_cons_self
theorem nameOf_new (c : Int) {taken : List Str} (h : taken.length ≤ 70) : nameOf c taken ∉ taken := by
  unfold nameOf
  split
  · rename_i h1; simpa using h1
  · have := List.mem_filter.mp (frees_head h)
    simpa using this.2
theorem nameOf_ok (c : Int) {taken : List Str} (h : taken.length ≤ 70) (ht : ∀ z ∈ taken, NameOk z) : NameOk (nameOf c taken) := by
  unfold nameOf
  split
  · exact nm3_ok c ht
  · have := (List.mem_filter.mp (frees_head h)).1
    obtain ⟨j, hj, e⟩ := List.mem_map.mp this
    rw [← e]
    exact numOk (by have := List.mem_range.mp hj; omega)
end LW

set_option maxHeartbeats 4000000
/-! lines, and strings in order -/
namespace LW
open PySem L2 PD PyProof.Rows
/-! lines -/
def some1 : Str := " !\"#$&'()*+,-./0123456789:;<=>?@ABCDEFGHIJKLMNOPQRSTUVWXYZ[\\]^_`"
def some2 : Str := "abcdefghijklmnopqrstuvwxyz{|}~"
abbrev somes : Str := some1 ++ some2
def someC (i : Int) : Nat := (cs some1 ++ cs some2).getD i.toNat 0
def lsize (c : Int) : Int := if decide (c / 4 % 9 = 1) = true then c / 36 % 201 else c % 4
def ln0 (c : Int) : Str := Str.join "" ((List.range (lsize c).toNat).map fun (j : Nat) => chS (someC ((c / 7 + (j : Int) * (1 + c % 5)) % 94)))
def lineOf (c : Int) : Str := if (decide (c / 3 % 8 = 1) && decide (lsize c < 199)) = true then cutS (ln0 c) none (some 1) ++ ": " ++ cutS (ln0 c) (some 1) none else ln0 c
def LineOk (z : Str) : Prop := z.length ≤ 200 ∧ ∀ c ∈ cs z, 32 ≤ c ∧ c ≤ 126
theorem cs_somes : cs somes = cs some1 ++ cs some2 := cs_app _ _
theorem somes_len : (cs some1 ++ cs some2).length = 94 := by decide +kernel
theorem len_somes : somes.length = 94 := by rw [len_cs, cs_somes, somes_len]
theorem len_some1 : some1.length = 64 := by decide +kernel
theorem len_some2 : some2.length = 30 := by decide +kernel
theorem somes_ok : ∀ c ∈ cs some1 ++ cs some2, 32 ≤ c ∧ c ≤ 126 := by
  have a : ((cs some1 ++ cs some2).all fun c => decide (32 ≤ c ∧ c ≤ 126)) = true := by decide +kernel
  exact fun c hc => of_decide_eq_true (List.all_eq_true.mp a c hc)
theorem some_at {i : Int} (h0 : 0 ≤ i) (h : i < 94) : atI (cs somes) i = some (someC i) := by
  have hi : i.toNat < (cs some1 ++ cs some2).length := by rw [somes_len]; omega
  have e : ((i.toNat : Nat) : Int) = i := by omega
  have h2 : (cs some1 ++ cs some2)[i.toNat]? = some (someC i) := by
    unfold someC
    rw [List.getD_eq_getElem?_getD, List.getElem?_eq_getElem hi]; rfl
  have h3 := atI_nat h2
  rw [e] at h3
  rw [cs_somes]
  exact h3
theorem someC_mem {i : Int} (h0 : 0 ≤ i) (h : i < 94) : 32 ≤ someC i ∧ someC i ≤ 126 := by
  have hi : i.toNat < (cs some1 ++ cs some2).length := by rw [somes_len]; omega
  refine somes_ok _ ?_
  unfold someC
  rw [List.getD_eq_getElem?_getD, List.getElem?_eq_getElem hi]
  exact List.getElem_mem hi
theorem lsize_bd (c : Int) : 0 ≤ lsize c ∧ lsize c ≤ 200 := by
  unfold lsize
  split
  · exact ⟨Int.emod_nonneg _ (by decide), Int.le_of_lt_add_one (Int.emod_lt_of_pos _ (by decide))⟩
  · have := Int.emod_lt_of_pos c (show (0 : Int) < 4 by decide)
    exact ⟨Int.emod_nonneg _ (by decide), by omega⟩
theorem cs_ln0 (c : Int) : cs (ln0 c) = (List.range (lsize c).toNat).map fun (j : Nat) => someC ((c / 7 + (j : Int) * (1 + c % 5)) % 94) := cs_join _ _
theorem ln0_len (c : Int) : ((ln0 c).length : Int) = lsize c := by
  have := lsize_bd c
  rw [len_cs, cs_ln0, List.length_map, List.length_range]; omega
theorem ln0_ok (c : Int) : LineOk (ln0 c) := by
  have h1 := lsize_bd c
  have h2 := ln0_len c
  refine ⟨by omega, fun x hx => ?_⟩
  rw [cs_ln0] at hx
  obtain ⟨j, _, rfl⟩ := List.mem_map.mp hx
  exact someC_mem (Int.emod_nonneg _ (by decide)) (Int.emod_lt_of_pos _ (by decide))
theorem cs_take1 (z : Str) : cs (cutS z none (some 1)) = (cs z).take 1 := cs_take z 1
theorem cs_drop1 (z : Str) : cs (cutS z (some 1) none) = (cs z).drop 1 := cs_drop z 1
theorem line_ok (c : Int) : LineOk (lineOf c) := by
  unfold lineOf
  split
  · rename_i h
    rw [Bool.and_eq_true] at h
    have h2 : lsize c < 199 := by simpa using h.2
    have h3 := ln0_len c
    have h4 := len_cs (ln0 c)
    have e : cs (cutS (ln0 c) none (some 1) ++ ": " ++ cutS (ln0 c) (some 1) none) = (cs (ln0 c)).take 1 ++ cs ": " ++ (cs (ln0 c)).drop 1 := by rw [cs_app, cs_app, cs_take1, cs_drop1]
    have h5 : (cs ": ").length = 2 := by decide +kernel
    have h6 : ∀ x ∈ cs ": ", 32 ≤ x ∧ x ≤ 126 := by decide +kernel
    refine ⟨?_, fun x hx => ?_⟩
    · rw [len_cs, e, List.length_append, List.length_append, List.length_take, List.length_drop, h5]; omega
    · rw [e] at hx
      rcases List.mem_append.mp hx with hx | hx
      · rcases List.mem_append.mp hx with hx | hx
        · exact (ln0_ok c).2 x (List.mem_of_mem_take hx)
        · exact h6 x hx
      · exact (ln0_ok c).2 x (List.mem_of_mem_drop hx)
  · exact ln0_ok c
theorem name_tx {z : Str} (h : NameOk z) : Tx0 z := by
  obtain ⟨h1, h2, h3⟩ := h
  refine ⟨by omega, fun c hc => ?_⟩
  have a : ((cs sgn).all fun c => decide (c < 256)) = true := by decide +kernel
  exact of_decide_eq_true (List.all_eq_true.mp a c (h3 c hc))
theorem line_tx {z : Str} (h : LineOk z) : Tx0 z := ⟨Nat.le_trans h.1 (by decide), fun c hc => by have := h.2 c hc; omega⟩
/-! strings in order -/
theorem lt_irr (a : List Nat) : ¬ a < a := List.lt_irrefl a
theorem le_tr {a b c : List Nat} (h : ¬ b < a) (k : ¬ c < b) : ¬ c < a := List.le_trans (l₁ := a) (l₂ := b) (l₃ := c) h k
theorem le_as {a b : List Nat} (h : ¬ b < a) (k : ¬ a < b) : a = b := List.le_antisymm (as := a) (bs := b) h k
theorem le_tot (a b : List Nat) : ¬ b < a ∨ ¬ a < b := List.le_total a b
theorem lt_as {a b : List Nat} (h : a < b) : ¬ b < a := List.lt_asymm h
abbrev leS (a b : Str) : Bool := !decide (cs b < cs a)
def sortS (zs : List Str) : List Str := zs.mergeSort leS
theorem sortS_perm (zs : List Str) : (sortS zs).Perm zs := List.mergeSort_perm zs _
theorem sortS_pw (zs : List Str) : (sortS zs).Pairwise fun a b => ¬ cs b < cs a := by
  have h := List.pairwise_mergeSort (le := leS) (fun a b c h k => by
    have h1 : ¬ cs b < cs a := by simpa [leS] using h
    have h2 : ¬ cs c < cs b := by simpa [leS] using k
    have := le_tr h1 h2
    simp [leS, this]) (fun a b => by
    rcases le_tot (cs a) (cs b) with h | h
    · simp [leS, h]
    · simp [leS, h]) zs
  exact h.imp fun {a b} q => by simpa [leS] using q
theorem risingS_pw : ∀ {l : List Str} {x : Str}, risingS x l = true → (x :: l).Pairwise fun a b => ¬ cs b < cs a
  | [], x, _ => List.pairwise_singleton _ _
  | a :: r, x, h => by
    have h0 : (!Spec.ltCps (cs a) (cs x) && risingS a r) = true := h
    rw [Bool.and_eq_true, ltCps_eq] at h0
    have h1 : ¬ cs a < cs x := by simpa using h0.1
    have ih := risingS_pw h0.2
    refine List.pairwise_cons.mpr ⟨fun y hy => ?_, ih⟩
    rcases List.mem_cons.mp hy with rfl | hy
    · exact h1
    · exact le_tr h1 (List.rel_of_pairwise_cons ih hy)
theorem sorted_pw {l : List Str} (h : sortedS l = true) : l.Pairwise fun a b => ¬ cs b < cs a := by
  cases l with
  | nil => exact List.Pairwise.nil
  | cons x r => exact risingS_pw h
theorem sortS_uniq {ys zs : List Str} (p : ys.Perm zs) (h : sortedS ys = true) : ys = sortS zs :=
  List.Perm.eq_of_pairwise (fun a b _ _ h k => cs_ext (le_as h k)) (sorted_pw h) (sortS_pw zs) (p.trans (sortS_perm zs).symm)
theorem sortS_mem {zs : List Str} {x : Str} : x ∈ sortS zs ↔ x ∈ zs := (sortS_perm zs).mem_iff
theorem sortS_len (zs : List Str) : (sortS zs).length = zs.length := (sortS_perm zs).length_eq
/-- without one twice it rises -/
theorem sortS_rise {zs : List Str} (h : zs.Nodup) : (sortS zs).Pairwise fun a b => cs a < cs b := by
  have h1 := sortS_pw zs
  have h2 : (sortS zs).Nodup := (sortS_perm zs).nodup_iff.mpr h
  refine (h1.and h2).imp fun {a b} q => ?_
  exact Decidable.byContradiction fun k => q.2 (cs_ext (le_as q.1 k))
end LW

set_option maxHeartbeats 4000000
/-! the changes that the laws draw -/
namespace LW
open PySem L2 PD PyProof.Rows
/-- names of the language that the laws' own parts call: the top binds none of them -/
structure Blt (mg : Str → Option Value) : Prop where
  len : mg "len" = none
  str : mg "str" = none
  min : mg "min" = none
  range : mg "range" = none
  sorted : mg "sorted" = none
  list : mg "list" = none
  enumerate : mg "enumerate" = none
/-! data -/
structure Deed where
  w : Str
  m : Option (Str × Int)
  l : Option Str
structure Change where
  n : Str
  ls : List Str
  ds : List Deed
def qMk : Str × Int → PyData := fun p => .tuple [.str p.1, .int p.2]
def qM : Option (Str × Int) → PyData
  | none => .none
  | some p => qMk p
def qD (d : Deed) : PyData := match d.l with
  | none => .tuple [.str d.w, qM d.m]
  | some l => .tuple [.str d.w, qM d.m, .str l]
def qC (c : Change) : PyData := .tuple [.str c.n, .list (c.ls.map .str), .list (c.ds.map qD)]
theorem qD_fst (d : Deed) : ∃ r, qD d = .tuple (.str d.w :: r) := by
  unfold qD
  cases d.l with
  | none => exact ⟨_, rfl⟩
  | some l => exact ⟨_, rfl⟩
/-! leans -/
def lnTake (c : Int) (len k : Nat) (left : Int) : Bool := (decide ((k : Int) = (len : Int) - 1) && decide (c % 7 = 3)) || (decide (left % (2 + c % 3) = 0) && (decide ((len : Int) < 20) || decide ((k : Int) % 7 = left / 4 % 7)))
def lnNext (c : Int) (k : Nat) (left : Int) : Int := if decide (left / 3 < 100) = true then mixed c ((k : Int) + 2) else left / 3
def lnLeft (c : Int) : Nat → Int
  | 0 => mixed c 1
  | k + 1 => lnNext c k (lnLeft c k)
def lnAt (c : Int) (ah : List Change) : Nat → List Str
  | 0 => []
  | k + 1 => if lnTake c ah.length k (lnLeft c k) = true then lnAt c ah k ++ [((ah[k]?).map Change.n).getD ("" : Str)] else lnAt c ah k
def leansOf (c : Int) (ah : List Change) : List Str := sortS (lnAt c ah ah.length)
theorem lnAt_len (c : Int) (ah : List Change) : ∀ k, (lnAt c ah k).length ≤ k
  | 0 => Nat.le_refl _
  | k + 1 => by
    have := lnAt_len c ah k
    rw [lnAt]
    split
    · rw [List.length_append, List.length_singleton]; omega
    · omega
/-! marks -/
def adds (ds : List Deed) : Nat := (ds.filter fun d => decide (d.w = ("add" : Str))).length
def marksOf (c : Change) : List (Str × Int) := (List.range (adds c.ds)).map fun (j : Nat) => (c.n, (j : Int))
/-! deeds -/
def knownOf (n : Str) (ms : List (Str × Int)) (own : Nat) : List (Str × Int) := ms ++ (List.range own).map fun (j : Nat) => (n, (j : Int))
def dAt (n : Str) (ms : List (Str × Int)) (own : Nat) (l : Int) : Int := l / 5 % (((knownOf n ms own).length : Int) + 1)
def isAdd (n : Str) (ms : List (Str × Int)) (own : Nat) (l : Int) : Bool := decide (l % 5 < 3) || !!(knownOf n ms own).isEmpty
def addMark (n : Str) (ms : List (Str × Int)) (own : Nat) (l : Int) : Option (Str × Int) := if decide (0 < dAt n ms own l) = true then (knownOf n ms own)[(dAt n ms own l).toNat - 1]? else none
def othMark (n : Str) (ms : List (Str × Int)) (own : Nat) (l : Int) : Option (Str × Int) := (knownOf n ms own)[(dAt n ms own l % ((knownOf n ms own).length : Int)).toNat]?
def deedOf (n : Str) (ms : List (Str × Int)) (own : Nat) (l : Int) : Deed :=
  if isAdd n ms own l = true then ⟨"add", addMark n ms own l, some (lineOf (l / 365))⟩
  else if decide (l % 5 = 3) = true then ⟨"cut", othMark n ms own l, none⟩
  else ⟨"set", othMark n ms own l, some (lineOf (l / 365))⟩
def deedsAt (n : Str) (c : Int) (ms : List (Str × Int)) : Nat → List Deed × Nat
  | 0 => ([], 0)
  | k + 1 => ((deedsAt n c ms k).1 ++ [deedOf n ms (deedsAt n c ms k).2 (mixed c (k : Int))], if isAdd n ms (deedsAt n c ms k).2 (mixed c (k : Int)) = true then (deedsAt n c ms k).2 + 1 else (deedsAt n c ms k).2)
def deedsOf (n : Str) (c : Int) (m : Nat) (ms : List (Str × Int)) : List Deed := (deedsAt n c ms m).1
theorem deedsAt_len (n : Str) (c : Int) (ms : List (Str × Int)) : ∀ k, (deedsAt n c ms k).1.length = k ∧ (deedsAt n c ms k).2 ≤ k
  | 0 => ⟨rfl, Nat.le_refl _⟩
  | k + 1 => by
    obtain ⟨h1, h2⟩ := deedsAt_len n c ms k
    refine ⟨by rw [deedsAt, List.length_append, h1]; rfl, ?_⟩
    show (if isAdd n ms (deedsAt n c ms k).2 (mixed c (k : Int)) = true then (deedsAt n c ms k).2 + 1 else (deedsAt n c ms k).2) ≤ k + 1
    split <;> omega
theorem knownOf_len (n : Str) (ms : List (Str × Int)) (own : Nat) : (knownOf n ms own).length = ms.length + own := by
  unfold knownOf
  rw [List.length_append, List.length_map, List.length_range]
/-! changes -/
def leanMarks (fs : List Change) (ls : List Str) : List (Str × Int) := (fs.filter fun f => decide (f.n ∈ ls)).flatMap marksOf
def manyOf (c : Int) : Int := if decide (c / 5 % 16 = 1) = true then 20 - c / 80 % 16 else c % 5
def chAt (cells : List Int) (fs : List Change) (tk : List Str) (k : Nat) : Change :=
  let n := nameOf (cell cells (4 * k)) tk
  let ls := leansOf (cell cells (4 * k + 1)) fs
  ⟨n, ls, deedsOf n (cell cells (4 * k + 2)) (manyOf (cell cells (4 * k + 3))).toNat (leanMarks fs ls)⟩
def chsAt (cells : List Int) : Nat → List Change × List Str
  | 0 => ([], ["0"])
  | k + 1 => ((chsAt cells k).1 ++ [chAt cells (chsAt cells k).1 (chsAt cells k).2 k], (chsAt cells k).2 ++ [(chAt cells (chsAt cells k).1 (chsAt cells k).2 k).n])
def chCount (cells : List Int) (most : Int) : Nat := (if most < (cells.length : Int) / 4 then most else (cells.length : Int) / 4).toNat
def changesOf (cells : List Int) (most : Int) : List Change := (chsAt cells (chCount cells most)).1
theorem manyOf_bd (c : Int) : 0 ≤ manyOf c ∧ manyOf c ≤ 20 := by
  unfold manyOf
  split
  · have := Int.emod_nonneg (c / 80) (show (16 : Int) ≠ 0 by decide)
    have := Int.emod_lt_of_pos (c / 80) (show (0 : Int) < 16 by decide)
    omega
  · have := Int.emod_nonneg c (show (5 : Int) ≠ 0 by decide)
    have := Int.emod_lt_of_pos c (show (0 : Int) < 5 by decide)
    omega
theorem chsAt_len (cells : List Int) : ∀ k, (chsAt cells k).1.length = k ∧ (chsAt cells k).2.length = k + 1 ∧ (chsAt cells k).2 = ("0" : Str) :: (chsAt cells k).1.map Change.n
  | 0 => ⟨rfl, rfl, rfl⟩
  | k + 1 => by
    obtain ⟨h1, h2, h3⟩ := chsAt_len cells k
    refine ⟨by rw [chsAt, List.length_append, h1]; rfl, by rw [chsAt, List.length_append, h2]; rfl, ?_⟩
    rw [chsAt]
    show (chsAt cells k).2 ++ [_] = ("0" : Str) :: ((chsAt cells k).1 ++ [_]).map Change.n
    rw [List.map_append, h3]
    rfl
def Taken (taken : List Str) : Prop := (∀ z ∈ taken, NameOk z) ∧ taken.length ≤ 70
theorem zero_ok : NameOk "0" := by decide +kernel
theorem chsAt_taken (cells : List Int) : ∀ k, k ≤ 60 → Taken (chsAt cells k).2 ∧ (chsAt cells k).2.Nodup
  | 0, _ => ⟨⟨fun z hz => by rw [List.mem_singleton.mp hz]; exact zero_ok, show 1 ≤ 70 by decide⟩, List.pairwise_singleton _ _⟩
  | k + 1, hk => by
    obtain ⟨⟨h1, h2⟩, h3⟩ := chsAt_taken cells k (by omega)
    refine ⟨⟨fun z hz => ?_, by rw [(chsAt_len cells (k + 1)).2.1]; omega⟩, ?_⟩
    · rcases List.mem_append.mp hz with hz | hz
      · exact h1 z hz
      · rw [List.mem_singleton.mp hz]; exact nameOf_ok _ h2 h1
    · refine List.nodup_append.mpr ⟨h3, List.pairwise_singleton _ _, fun a ha b hb e => ?_⟩
      rw [List.mem_singleton.mp hb] at e
      rw [e] at ha
      exact nameOf_new _ h2 ha
theorem adds_le (ds : List Deed) : adds ds ≤ ds.length := List.length_filter_le _ _
end LW

set_option maxHeartbeats 4000000
namespace LW
open PySem L2 PD PyProof.Rows
theorem lg_ok {i : Int} (h0 : 0 ≤ i) (h : i ≤ 1000000) : i.natAbs.log2 < 1920 := by
  rcases Nat.eq_zero_or_pos i.natAbs with e | e
  · rw [e]; decide
  · rw [Nat.log2_lt (by omega)]
    exact Nat.lt_of_lt_of_le (show i.natAbs < 2 ^ 20 by omega) (Nat.pow_le_pow_right (by decide) (by decide))
theorem atI_int {α : Type} {xs : List α} {i : Int} {v : α} (h0 : 0 ≤ i) (h : xs[i.toNat]? = some v) : atI xs i = some v := by
  have e : ((i.toNat : Nat) : Int) = i := by omega
  have h3 := atI_nat h
  rw [e] at h3
  exact h3
theorem cs_take11 (z : Str) : cs (cutS z none (some 11)) = (cs z).take 11 := cs_take z 11
theorem atI_lastD {zs : List Str} (h : zs.isEmpty = false) : atI (zs.map PyData.str) (-1) = some (.str (zs.getLastD "")) := by
  cases zs with
  | nil => cases h
  | cons a r =>
    have e : a :: r = (a :: r).dropLast ++ [(a :: r).getLastD ""] := by
      rw [List.getLastD_eq_getLast?, List.getLast?_eq_getLast (List.cons_ne_nil a r)]
      exact (List.dropLast_concat_getLast (List.cons_ne_nil a r)).symm
    have e2 : (a :: r).map PyData.str = ((a :: r).dropLast).map PyData.str ++ [PyData.str ((a :: r).getLastD "")] := by
      conv => lhs; rw [e]
      rw [List.map_append]; rfl
    rw [e2]
    exact atI_last _ _
section
variable {X : Cx} {W : WX} {T : De} {c e : Expr} {n : Str} {p pos : Pos} {ρ : List Sl} {d : PyData}
theorem sd_ifsetD {i : Nat} {k : Bool} {d0 d1 : PyData} (nd : X.N.Nodup) (hN : X.N[i]? = some n) (hl : Loc X.env.scope n) (hfn : X.fn n = true ∨ X.env.scope.names.lookup n = some .local) {spos : Pos}
    (h : ET X W (fun C => T.ex C ρ) c ρ k) (h0 : ρ[i]? = some (.sh d0)) (h1 : k = true → ED X W (fun C => T.ex C ρ) e ρ d) (hz : (if k = true then d else d0) = d1) (q : T.nx (ρ.set i (.sh d1))) (hw : swapsWith e (some (.Name n p)) spos.line X.env = pure false := by rfl) : SD X W (.If c [.Assign [.Name n p] e spos] [] pos) ρ T :=
  sd_ifset nd hN hl hfn h h0 h1 (by rw [hz]; exact q) hw
end
theorem chs_sum {α : Type} (xs : List α) (g : α → Nat) : ((xs.map fun x => chS (g x)).map (·.length)).sum = xs.length := by
  rw [List.map_map]
  induction xs with
  | nil => rfl
  | cons x r ih => rw [List.map_cons, List.sum_cons, ih, List.length_cons]; show 1 + _ = _; omega
theorem len_sgn : LW.sgn.length = 36 := by rw [len_cs, sgn_len]
end LW

set_option maxHeartbeats 4000000
namespace LW
open PySem L2 PD PyProof.Rows
theorem deedsOf_len (n : Str) (c : Int) (m : Nat) (ms : List (Str × Int)) : (deedsOf n c m ms).length = m := (deedsAt_len n c ms m).1
theorem chsAt_ds (cells : List Int) : ∀ k, ∀ f ∈ (chsAt cells k).1, f.ds.length ≤ 20
  | 0, f, h => nomatch h
  | k + 1, f, h => by
    rcases List.mem_append.mp (show f ∈ (chsAt cells k).1 ++ [chAt cells (chsAt cells k).1 (chsAt cells k).2 k] from h) with h | h
    · exact chsAt_ds cells k f h
    · rw [List.mem_singleton.mp h]
      show (deedsOf _ _ _ _).length ≤ 20
      have := manyOf_bd (cell cells (4 * k + 3))
      rw [deedsOf_len]; omega
theorem leanMarks_nil (ls : List Str) : leanMarks [] ls = [] := rfl
theorem leanMarks_snoc (fs : List Change) (f : Change) (ls : List Str) : leanMarks (fs ++ [f]) ls = leanMarks fs ls ++ (if decide (f.n ∈ ls) = true then marksOf f else []) := by
  unfold leanMarks
  rw [List.filter_append, List.flatMap_append, List.filter_cons, List.filter_nil]
  split
  · rw [List.flatMap_cons, List.flatMap_nil, List.append_nil]
  · rfl
theorem leanMarks_take {fs : List Change} {f : Change} {i : Nat} (h : fs[i]? = some f) (ls : List Str) : leanMarks (fs.take (i + 1)) ls = leanMarks (fs.take i) ls ++ (if decide (f.n ∈ ls) = true then marksOf f else []) := by
  rw [List.take_add_one, h]
  exact leanMarks_snoc _ _ _
theorem marksOf_len (f : Change) : (marksOf f).length = adds f.ds := by unfold marksOf; rw [List.length_map, List.length_range]
theorem leanMarks_len {fs : List Change} (ls : List Str) (h : ∀ f ∈ fs, f.ds.length ≤ 20) : (leanMarks fs ls).length ≤ 20 * fs.length := by
  induction fs with
  | nil => exact Nat.le_refl _
  | cons f r ih =>
    have ih := ih fun g hg => h g (List.mem_cons_of_mem _ hg)
    have hf := h f List.mem_cons_self
    have ha := adds_le f.ds
    unfold leanMarks at ih ⊢
    rw [List.filter_cons, List.length_cons]
    split
    · rw [List.flatMap_cons, List.length_append, marksOf_len]; omega
    · omega
theorem cell_at {cells : List Int} {j : Nat} (h : j < cells.length) {i : Int} (e : i = (j : Int)) : atI (cells.map PyData.int) i = some (.int (cell cells j)) := by
  rw [e]
  refine atI_nat ?_
  unfold cell
  rw [List.getElem?_map, List.getD_eq_getElem?_getD, List.getElem?_eq_getElem h]; rfl
end LW

set_option maxHeartbeats 4000000
namespace LW
open PySem L2 PD PyProof.Rows
/-! many cells, mixed of few -/
def wideAt (cells : List Int) (flag : Int) (j : Nat) : Int :=
  if (decide ((j : Int) % 4 = 1) && decide (flag / 12 % 2 = 1)) = true then mixed (cell cells (j % cells.length)) (j : Int) / 7 * 7 + 3 else mixed (cell cells (j % cells.length)) (j : Int)
def isWide (cells : List Int) (flag : Int) : Bool := !(decide ((cells.length : Int) < 4) || !decide (flag % 12 = 5))
def wideN (flag most : Int) : Int := 4 * (most + flag / 12 % (61 - most))
def wideOf (cells : List Int) (flag most : Int) : List Int := if isWide cells flag = true then (List.range (wideN flag most).toNat).map (wideAt cells flag) else cells
theorem wideN_bd (flag : Int) {most : Int} (h0 : 0 ≤ most) (h : most ≤ 60) : 0 ≤ wideN flag most ∧ wideN flag most ≤ 240 := by
  have a := Int.emod_nonneg (flag / 12) (show (61 - most) ≠ 0 by omega)
  have b := Int.emod_lt_of_pos (flag / 12) (show (0 : Int) < 61 - most by omega)
  unfold wideN
  omega
end LW

set_option maxHeartbeats 4000000
namespace LW
open PySem L2 PD PyProof.Rows
/-! whether a list of changes keeps leanings -/
def keptBad (ahead : List Str) (c : Change) : Bool := decide (c.n ∈ ahead) || !(c.ls.all fun z => decide (z ∈ ahead))
def keptG (ahead : List Str) : List Change → Bool
  | [] => true
  | c :: r => if keptBad ahead c = true then false else keptG (ahead ++ [c.n]) r
def keptOf (chs : List Change) : Bool := keptG [] chs
end LW

set_option maxHeartbeats 4000000
namespace LW
open PySem L2 PD PyProof.Rows
/-! ### notes, written -/
def markT : Option (Str × Int) → Str
  | none => "-"
  | some p => p.1 ++ " " ++ numS p.2
def deedH (d : Deed) : Str := d.w ++ " " ++ markT d.m
def deedT (d : Deed) : Str := if decide (d.w = ("cut" : Str)) = true then deedH d else deedH d ++ ": " ++ d.l.getD ""
def headW (n : Str) (ls : List Str) : List Str := "change" :: n :: (if (!ls.isEmpty) = true then "on" :: ls else [])
def headT (n : Str) (ls : List Str) : Str := Str.join " " (headW n ls)
def rowsT (c : Change) : List Str := headT c.n c.ls :: c.ds.map deedT
def noteT (c : Change) : Str := Str.join "\n" (rowsT c)
/-! ### notes, read -/
def figs : Str := "0123456789"
def isNum (z : Str) : Bool := !(decide (z = "") || decide (9 < (z.length : Int))) && (!(decide (chS ((cs z).getD 0 0) = ("0" : Str)) && !decide (z = "0")) && (cs z).all fun c => decide (c ∈ cs figs))
def readMark (t : Str) : Option (Option (Str × Int)) := if decide (t = ("-" : Str)) = true then some none else
  match Txt.split t " " with
  | [a, b] => if isNum b = true then some (some (a, (PySem.intText? b).getD 0)) else none
  | _ => none
def readDeed (row : Str) : Option Deed := if decide ((Txt.partition row " ").1 = ("cut" : Str)) = true then (readMark (Txt.partition row " ").2.2).map fun m => ⟨(Txt.partition row " ").1, m, none⟩
  else if decide ((Txt.partition (Txt.partition row " ").2.2 ": ").2.1 = ("" : Str)) = true then none
  else (readMark (Txt.partition (Txt.partition row " ").2.2 ": ").1).map fun m => ⟨(Txt.partition row " ").1, m, some (Txt.partition (Txt.partition row " ").2.2 ": ").2.2⟩
def readHead (row : Str) : Option (Str × List Str) :=
  let w := Txt.split row " "
  if (!decide (w.headD "" = ("change" : Str))) = true then none else if decide ((w.length : Int) = 2) = true then some (w.getD 1 "", [])
  else if (decide ((w.length : Int) < 4) || !decide (w.getD 2 "" = ("on" : Str))) = true then none else some (w.getD 1 "", w.drop 3)
/-! ### what may be written -/
def MarkOk (m : Option (Str × Int)) : Prop := ∀ x k, m = some (x, k) → NameOk x ∧ 0 ≤ k ∧ k < 1000000000
structure DeedOk' (d : Deed) : Prop where
  w : d.w = "add" ∨ d.w = "cut" ∨ d.w = "set"
  c : d.w = "cut" → d.l = none
  l : d.w ≠ "cut" → ∃ l, d.l = some l ∧ LineOk l
  m : MarkOk d.m
structure ChOk (c : Change) : Prop where
  n : NameOk c.n
  ls : ∀ z ∈ c.ls, NameOk z
  ll : c.ls.length ≤ 62
  dl : c.ds.length ≤ 20
  ds : ∀ d ∈ c.ds, DeedOk' d
theorem name_sgn {z : Str} (h : NameOk z) : ∀ c ∈ cs z, (97 ≤ c ∧ c ≤ 122) ∨ (48 ≤ c ∧ c ≤ 57) := fun c hc => by
  have h2 := h.2.2 c hc
  have : ∀ c ∈ cs sgn, (97 ≤ c ∧ c ≤ 122) ∨ (48 ≤ c ∧ c ≤ 57) := by decide +kernel
  exact this c h2
theorem name_ne {z : Str} (h : NameOk z) {s : Nat} (hs : s < 48 ∨ (57 < s ∧ s < 97)) : s ∉ cs z := fun m => by
  have := name_sgn h s m
  omega
theorem cs_num {n : Nat} : cs (numS (n : Int)) = TL.numL n := TL.tl_num n
theorem num_ne {k : Int} (h0 : 0 ≤ k) {s : Nat} (hs : s < 48 ∨ 57 < s) : s ∉ cs (numS k) := by
  obtain ⟨n, rfl⟩ := Int.eq_ofNat_of_zero_le h0
  rw [cs_num]
  exact TL.numL_free hs
theorem num_len {k : Int} (h0 : 0 ≤ k) (h : k < 1000000000) : (numS k).length ≤ 9 := by
  obtain ⟨n, rfl⟩ := Int.eq_ofNat_of_zero_le h0
  rw [len_cs, cs_num]
  exact TL.numL_len (by decide) (by have : (n : Int) < 1000000000 := h; omega)
theorem cs_markT (x : Str) (k : Int) : cs (markT (some (x, k))) = cs x ++ (32 :: cs (numS k)) := by
  show cs (x ++ " " ++ numS k) = _
  rw [cs_app, cs_app, List.append_assoc]; rfl
theorem markT_ne {m : Option (Str × Int)} (h : MarkOk m) {s : Nat} (hs : s = 10 ∨ s = 58) : s ∉ cs (markT m) := by
  cases m with
  | none => rcases hs with rfl | rfl <;> decide +kernel
  | some p =>
    obtain ⟨x, k⟩ := p
    obtain ⟨hx, h0, h1⟩ := h x k rfl
    rw [cs_markT]
    intro q
    rcases List.mem_append.mp q with q | q
    · rcases hs with rfl | rfl
      · exact name_ne hx (by omega) q
      · exact name_ne hx (by omega) q
    · rcases List.mem_cons.mp q with q | q
      · omega
      · rcases hs with rfl | rfl
        · exact num_ne h0 (by omega) q
        · exact num_ne h0 (by omega) q
theorem markT_len {m : Option (Str × Int)} (h : MarkOk m) : (markT m).length ≤ 22 := by
  cases m with
  | none => decide +kernel
  | some p =>
    obtain ⟨x, k⟩ := p
    obtain ⟨hx, h0, h1⟩ := h x k rfl
    have a := num_len h0 h1
    have b := hx.2.1
    show (x ++ " " ++ numS k).length ≤ 22
    rw [len_app, len_app]
    have : (" " : Str).length = 1 := by decide +kernel
    omega
theorem word_ne {w : Str} (h : w = "add" ∨ w = "cut" ∨ w = "set") {s : Nat} (hs : s = 10 ∨ s = 58 ∨ s = 32) : s ∉ cs w := by
  rcases h with rfl | rfl | rfl <;> rcases hs with rfl | rfl | rfl <;> decide +kernel
theorem word_len {w : Str} (h : w = "add" ∨ w = "cut" ∨ w = "set") : w.length = 3 := by
  rcases h with rfl | rfl | rfl <;> decide +kernel
theorem deedH_len {d : Deed} (h : DeedOk' d) : (deedH d).length ≤ 26 := by
  have a := markT_len h.m
  have b := word_len h.w
  unfold deedH
  rw [len_app, len_app]
  have : (" " : Str).length = 1 := by decide +kernel
  omega
theorem deedT_len {d : Deed} (h : DeedOk' d) : (deedT d).length ≤ 228 := by
  have a := deedH_len h
  unfold deedT
  split
  · omega
  · rename_i hw
    obtain ⟨l, e, hl⟩ := h.l (by simpa using hw)
    rw [e, len_app, len_app]
    have : (": " : Str).length = 2 := by decide +kernel
    have := hl.1
    show _ + _ + l.length ≤ _
    omega
theorem line_ne {l : Str} (h : LineOk l) {s : Nat} (hs : s < 32) : s ∉ cs l := fun m => by
  have := h.2 s m
  omega
theorem deedH_ne {d : Deed} (h : DeedOk' d) : 10 ∉ cs (deedH d) := by
  unfold deedH
  rw [cs_app, cs_app]
  intro q
  rcases List.mem_append.mp q with q | q
  · rcases List.mem_append.mp q with q | q
    · exact word_ne h.w (.inl rfl) q
    · exact absurd q (by decide +kernel)
  · exact markT_ne h.m (.inl rfl) q
theorem deedT_ne {d : Deed} (h : DeedOk' d) : 10 ∉ cs (deedT d) := by
  unfold deedT
  split
  · exact deedH_ne h
  · rename_i hw
    obtain ⟨l, e, hl⟩ := h.l (by simpa using hw)
    rw [e, cs_app, cs_app]
    intro q
    rcases List.mem_append.mp q with q | q
    · rcases List.mem_append.mp q with q | q
      · exact deedH_ne h q
      · exact absurd q (by decide +kernel)
    · exact line_ne hl (by decide) q
theorem headW_mem {n : Str} {ls : List Str} (hn : NameOk n) (hl : ∀ z ∈ ls, NameOk z) : ∀ w ∈ headW n ls, w.length ≤ 12 ∧ 32 ∉ cs w ∧ 10 ∉ cs w ∧ ∀ c ∈ cs w, c < 256 := by
  have on : ∀ z, NameOk z → z.length ≤ 12 ∧ 32 ∉ cs z ∧ 10 ∉ cs z ∧ ∀ c ∈ cs z, c < 256 := fun z h => ⟨h.2.1, name_ne h (by omega), name_ne h (by omega), fun c hc => by have := name_sgn h c hc; omega⟩
  intro w hw
  unfold headW at hw
  rcases List.mem_cons.mp hw with rfl | hw
  · exact ⟨by decide +kernel, by decide +kernel, by decide +kernel, by decide +kernel⟩
  rcases List.mem_cons.mp hw with rfl | hw
  · exact on _ hn
  split at hw
  · rcases List.mem_cons.mp hw with rfl | hw
    · exact ⟨by decide +kernel, by decide +kernel, by decide +kernel, by decide +kernel⟩
    · exact on _ (hl _ hw)
  · exact nomatch hw
theorem headW_len (n : Str) (ls : List Str) : (headW n ls).length ≤ ls.length + 3 := by
  unfold headW
  split
  · simp
  · simp
theorem joinL_mem {S : List Nat} {c : Nat} : ∀ {ps : List (List Nat)}, c ∈ TL.joinL S ps → c ∈ S ∨ ∃ p ∈ ps, c ∈ p
  | [], h => nomatch h
  | [p], h => .inr ⟨p, List.mem_cons_self, h⟩
  | p :: q :: r, h => by
    rcases List.mem_append.mp (show c ∈ p ++ (S ++ TL.joinL S (q :: r)) from h) with h | h
    · exact .inr ⟨p, List.mem_cons_self, h⟩
    rcases List.mem_append.mp h with h | h
    · exact .inl h
    · rcases joinL_mem h with h | ⟨x, hx, h⟩
      · exact .inl h
      · exact .inr ⟨x, List.mem_cons_of_mem _ hx, h⟩
theorem joinL_len {S : List Nat} {k : Nat} : ∀ {ps : List (List Nat)}, (∀ p ∈ ps, p.length ≤ k) → (TL.joinL S ps).length ≤ ps.length * (k + S.length)
  | [], _ => Nat.zero_le _
  | [p], h => by
    have := h p List.mem_cons_self
    show p.length ≤ 1 * _
    omega
  | p :: q :: r, h => by
    have h1 := h p List.mem_cons_self
    have h2 := joinL_len (S := S) (ps := q :: r) fun x hx => h x (List.mem_cons_of_mem _ hx)
    show (p ++ (S ++ TL.joinL S (q :: r))).length ≤ (r.length + 1 + 1) * (k + S.length)
    rw [List.length_append, List.length_append, Nat.succ_mul]
    have : (q :: r).length = r.length + 1 := rfl
    rw [this] at h2
    omega
theorem join_len {w : Str} {k : Nat} {zs : List Str} (h : ∀ z ∈ zs, z.length ≤ k) : (Str.join w zs).length ≤ zs.length * (k + w.length) := by
  rw [len_cs, show cs (Str.join w zs) = TL.joinL (cs w) (zs.map cs) from TL.tl_join _ _]
  have := joinL_len (S := cs w) (k := k) (ps := zs.map cs) (fun p hp => by
    obtain ⟨z, hz, rfl⟩ := List.mem_map.mp hp
    rw [← len_cs]; exact h z hz)
  rw [List.length_map, ← len_cs] at this
  exact this
theorem headT_ne {n : Str} {ls : List Str} (hn : NameOk n) (hl : ∀ z ∈ ls, NameOk z) : 10 ∉ cs (headT n ls) := by
  unfold headT
  rw [show cs (Str.join " " (headW n ls)) = TL.joinL (cs " ") ((headW n ls).map cs) from TL.tl_join _ _]
  intro q
  rcases joinL_mem q with q | ⟨p, hp, q⟩
  · exact absurd q (by decide +kernel)
  · obtain ⟨z, hz, rfl⟩ := List.mem_map.mp hp
    exact (headW_mem hn hl z hz).2.2.1 q
theorem headT_tx {n : Str} {ls : List Str} (hn : NameOk n) (hl : ∀ z ∈ ls, NameOk z) (hk : ls.length ≤ 62) : Tx0 (headT n ls) := by
  refine ⟨?_, fun c hc => ?_⟩
  · have h1 := join_len (w := " ") (k := 12) (zs := headW n ls) fun z hz => (headW_mem hn hl z hz).1
    have h2 := headW_len n ls
    have e : (" " : Str).length = 1 := by decide +kernel
    rw [e] at h1
    have h3 : (headW n ls).length * (12 + 1) ≤ 65 * 13 := Nat.mul_le_mul_right _ (by omega)
    exact Nat.le_trans h1 (Nat.le_trans h3 (by decide))
  · rcases joinL_mem (show c ∈ TL.joinL (cs " ") ((headW n ls).map cs) from TL.tl_join _ _ ▸ hc) with q | ⟨p, hp, q⟩
    · have : ∀ c ∈ cs " ", c < 256 := by decide +kernel
      exact this c q
    · obtain ⟨z, hz, rfl⟩ := List.mem_map.mp hp
      exact (headW_mem hn hl z hz).2.2.2 c q
theorem rowsT_ne {c : Change} (h : ChOk c) : ∀ p ∈ rowsT c, 10 ∉ cs p := fun p hp => by
  rcases List.mem_cons.mp hp with rfl | hp
  · exact headT_ne h.n h.ls
  · obtain ⟨d, hd, rfl⟩ := List.mem_map.mp hp
    exact deedT_ne (h.ds d hd)
theorem rowsT_len {c : Change} (h : ChOk c) : ∀ p ∈ rowsT c, p.length ≤ 1000 := fun p hp => by
  rcases List.mem_cons.mp hp with rfl | hp
  · exact (headT_tx h.n h.ls h.ll).1
  · obtain ⟨d, hd, rfl⟩ := List.mem_map.mp hp
    have := deedT_len (h.ds d hd)
    omega
theorem noteT_len {c : Change} (h : ChOk c) : (noteT c).length ≤ 21021 := by
  have := join_len (w := "\n") (zs := rowsT c) (rowsT_len h)
  have e : ("\n" : Str).length = 1 := by decide +kernel
  have e2 : (rowsT c).length = c.ds.length + 1 := by unfold rowsT; rw [List.length_cons, List.length_map]
  have h1 := h.dl
  rw [e, e2] at this
  exact Nat.le_trans this (Nat.le_trans (Nat.mul_le_mul_right _ (show c.ds.length + 1 ≤ 21 by omega)) (by decide))
/-! ### read back -/
theorem split_note {c : Change} (h : ChOk c) : Txt.split (noteT c) "\n" = rowsT c := by
  have := TL.split_join (y := "\n") (s := 10) (S := []) (by decide +kernel) (by decide +kernel) (parts := rowsT c) (by unfold rowsT; exact List.cons_ne_nil _ _) (rowsT_ne h)
  rw [TL.join_eq] at this
  exact this
theorem split_head {n : Str} {ls : List Str} (hn : NameOk n) (hl : ∀ z ∈ ls, NameOk z) : Txt.split (headT n ls) " " = headW n ls := by
  have := TL.split_join (y := " ") (s := 32) (S := []) (by decide +kernel) (by decide +kernel) (parts := headW n ls) (by unfold headW; exact List.cons_ne_nil _ _) (fun p hp => (headW_mem hn hl p hp).2.1)
  rw [TL.join_eq] at this
  exact this
theorem readHead_back {n : Str} {ls : List Str} (hn : NameOk n) (hl : ∀ z ∈ ls, NameOk z) : readHead (headT n ls) = some (n, ls) := by
  unfold readHead
  rw [split_head hn hl]
  cases ls with
  | nil => rfl
  | cons a r =>
    show (if (!decide (("change" : Str) = ("change" : Str))) = true then none else _) = _
    rw [if_neg (by decide)]
    have e : (headW n (a :: r)).length = r.length + 4 := rfl
    rw [e, if_neg (by simp; omega), if_neg (by
      rw [Bool.or_eq_true]
      rintro (q | q)
      · have := of_decide_eq_true q
        omega
      · exact absurd q (by show ¬ (!decide (("on" : Str) = ("on" : Str))) = true; decide))]
    rfl
theorem num_ok {k : Int} (h0 : 0 ≤ k) (h : k < 1000000000) : isNum (numS k) = true ∧ PySem.intText? (numS k) = some k := by
  have hl := num_len h0 h
  obtain ⟨n, rfl⟩ := Int.eq_ofNat_of_zero_le h0
  have e : cs (numS ((n : Int))) = TL.numL n := cs_num
  have hne := TL.numL_ne n
  refine ⟨?_, TL.int_num (by rw [← e, ← len_cs]; omega)⟩
  have q1 : decide (numS ((n : Int)) = ("" : Str)) = false := decide_eq_false fun q => hne (by rw [← e, q]; decide +kernel)
  have q2 : decide (9 < ((numS ((n : Int))).length : Int)) = false := decide_eq_false (by omega)
  have q4 : ((cs (numS ((n : Int)))).all fun c => decide (c ∈ cs figs)) = true := by
    rw [List.all_eq_true]
    intro c hc
    rw [e] at hc
    have := TL.numL_digits n c hc
    refine decide_eq_true ?_
    have f : cs figs = [48, 49, 50, 51, 52, 53, 54, 55, 56, 57] := by decide +kernel
    rw [f]
    simp
    omega
  have q3 : (decide (chS ((cs (numS ((n : Int)))).getD 0 0) = ("0" : Str)) && !decide (numS ((n : Int)) = ("0" : Str))) = false := by
    by_cases z : n = 0
    · subst z; decide +kernel
    · have : decide (chS ((cs (numS ((n : Int)))).getD 0 0) = ("0" : Str)) = false := by
        refine decide_eq_false fun q => ?_
        have q := congrArg cs q
        rw [e, cs_ch] at q
        have q0 : (TL.numL n).getD 0 0 = 48 := by
          have : cs ("0" : Str) = [48] := by decide +kernel
          rw [this] at q
          exact (List.cons.inj q).1
        have lead : ∀ m : Nat, m ≠ 0 → (TL.numL m).getD 0 0 ≠ 48 := fun m => by
          induction m using Nat.strongRecOn with
          | _ m ih =>
            intro hm
            by_cases h10 : m < 10
            · rw [TL.numL_lt h10]; show 48 + m ≠ 48; omega
            · rw [TL.numL_step (by omega)]
              have hd := TL.numL_ne (m / 10)
              have : (TL.numL (m / 10) ++ [48 + m % 10]).getD 0 0 = (TL.numL (m / 10)).getD 0 0 := by
                cases ez : TL.numL (m / 10) with
                | nil => exact absurd ez hd
                | cons a r => rfl
              rw [this]
              exact ih (m / 10) (by omega) (by omega)
        exact lead n z q0
      rw [this]; rfl
  unfold isNum
  rw [q1, q2, q3, q4]; rfl
theorem readMark_back {m : Option (Str × Int)} (h : MarkOk m) : readMark (markT m) = some m := by
  unfold readMark
  cases m with
  | none => rfl
  | some p =>
    obtain ⟨x, k⟩ := p
    obtain ⟨hx, h0, h1⟩ := h x k rfl
    have hd : decide (markT (some (x, k)) = ("-" : Str)) = false := decide_eq_false fun q => by
      have q := congrArg List.length (congrArg cs q)
      rw [cs_markT, List.length_append, List.length_cons, ← len_cs] at q
      have := hx.1
      have e : (cs ("-" : Str)).length = 1 := by decide +kernel
      rw [e] at q
      omega
    rw [hd, if_neg Bool.false_ne_true]
    have sp : Txt.split (markT (some (x, k))) " " = [x, numS k] := by
      have := TL.split_join (y := " ") (s := 32) (S := []) (by decide +kernel) (by decide +kernel) (parts := [x, numS k]) (List.cons_ne_nil _ _) (fun p hp => by
        rcases List.mem_cons.mp hp with rfl | hp
        · exact name_ne hx (by omega)
        · rw [List.mem_singleton.mp hp]; exact num_ne h0 (by omega))
      rw [TL.join_eq] at this
      exact this
    rw [sp]
    obtain ⟨n1, n2⟩ := num_ok h0 h1
    show (if isNum (numS k) = true then some (some (x, (PySem.intText? (numS k)).getD 0)) else none) = _
    rw [if_pos n1, n2]; rfl
theorem readDeed_back {d : Deed} (h : DeedOk' d) : readDeed (deedT d) = some d := by
  have p1 : ∀ b : Str, Txt.partition (d.w ++ (" " : Str) ++ b) (" " : Str) = (d.w, (" " : Str), b) := fun b => TL.partition_app (s := 32) (S := []) (by decide +kernel) (word_ne h.w (.inr (.inr rfl)))
  unfold readDeed deedT deedH
  by_cases hw : d.w = "cut"
  · rw [decide_eq_true hw, if_pos rfl, p1]
    show (if decide (d.w = ("cut" : Str)) = true then (readMark (markT d.m)).map _ else _) = _
    rw [decide_eq_true hw, if_pos rfl, readMark_back h.m]
    obtain ⟨w, m, l⟩ := d
    have := h.c hw
    dsimp only at this
    subst this
    rfl
  · obtain ⟨l, el, hl⟩ := h.l hw
    rw [decide_eq_false hw, if_neg Bool.false_ne_true]
    have e : d.w ++ " " ++ markT d.m ++ ": " ++ d.l.getD "" = d.w ++ " " ++ (markT d.m ++ ": " ++ l) := by
      refine cs_ext ?_
      rw [el]
      show cs (d.w ++ " " ++ markT d.m ++ ": " ++ l) = _
      simp only [cs_app, List.append_assoc]
    rw [e, p1]
    have p2 : Txt.partition (markT d.m ++ (": " : Str) ++ l) (": " : Str) = (markT d.m, (": " : Str), l) := TL.partition_app (s := 58) (S := [32]) (by decide +kernel) (markT_ne h.m (.inr rfl))
    show (if decide (d.w = ("cut" : Str)) = true then _ else if decide ((Txt.partition (markT d.m ++ ": " ++ l) ": ").2.1 = ("" : Str)) = true then none else (readMark (Txt.partition (markT d.m ++ ": " ++ l) ": ").1).map fun m => (⟨d.w, m, some (Txt.partition (markT d.m ++ ": " ++ l) ": ").2.2⟩ : Deed)) = _
    rw [p2, decide_eq_false hw, if_neg Bool.false_ne_true]
    show (if decide ((": " : Str) = ("" : Str)) = true then none else (readMark (markT d.m)).map fun m => (⟨d.w, m, some l⟩ : Deed)) = _
    rw [if_neg (by decide +kernel), readMark_back h.m]
    obtain ⟨w, m, l'⟩ := d
    dsimp only at el
    subst el
    rfl
end LW
namespace LW
open PySem L2 PD PyProof.Rows
theorem sum_len {k : Nat} : ∀ {zs : List Str}, (∀ z ∈ zs, z.length ≤ k) → (zs.map (·.length)).sum ≤ zs.length * k
  | [], _ => Nat.zero_le _
  | z :: r, h => by
    have h1 := h z List.mem_cons_self
    have h2 := sum_len fun x hx => h x (List.mem_cons_of_mem _ hx)
    rw [List.map_cons, List.sum_cons, List.length_cons, Nat.succ_mul]
    omega
theorem lg_nat {k : Int} (h0 : 0 ≤ k) (h : k < 1000000000) : k.natAbs.log2 < 1920 := by
  rcases Nat.eq_zero_or_pos k.natAbs with e | e
  · rw [e]; decide
  · rw [Nat.log2_lt (by omega)]
    exact Nat.lt_of_lt_of_le (show k.natAbs < 2 ^ 30 by omega) (Nat.pow_le_pow_right (by decide) (by decide))
end LW
namespace PD
open PySem L2
theorem EA.to {X : Cx} {W : WX} {ex : Addr → Prop} {es : List Expr} {ρ as bs : List Sl} (h : EA X W ex es ρ as) (q : as = bs) : EA X W ex es ρ bs := q ▸ h
end PD
namespace LW
open PySem L2 PD PyProof.Rows
theorem fold3 (a b c : Str) : [a, b, c].foldl (· ++ ·) Str.empty = a ++ b ++ c := by
  show Str.empty ++ a ++ b ++ c = _
  refine cs_ext ?_
  simp only [cs_app]
  rfl
end LW

set_option maxHeartbeats 4000000
namespace LW
open PySem L2 PD PyProof.Rows
/-! ### parts of a text -/
def Sub (y x : Str) : Prop := y.length ≤ x.length ∧ ∀ c ∈ cs y, c ∈ cs x
theorem Sub.tx {x y : Str} (s : Sub y x) (h : Tx0 x) : Tx0 y := ⟨Nat.le_trans s.1 h.1, fun c hc => h.2 c (s.2 c hc)⟩
theorem Sub.refl (x : Str) : Sub x x := ⟨Nat.le_refl _, fun _ h => h⟩
theorem Sub.trans {x y z : Str} (a : Sub x y) (b : Sub y z) : Sub x z := ⟨Nat.le_trans a.1 b.1, fun c h => b.2 c (a.2 c h)⟩
theorem sub_nil (x : Str) : Sub Str.empty x := ⟨Nat.zero_le _, fun c h => nomatch h⟩
theorem spl_sub (S : List Nat) : ∀ (l : List Nat) (k : Nat) (acc p : List Nat), p ∈ TL.spl S k acc l → p.length ≤ acc.length + l.length ∧ ∀ c ∈ p, c ∈ acc ∨ c ∈ l
  | [], k, acc, p, h => by
    rw [TL.spl_nil, List.mem_singleton] at h
    subst h
    exact ⟨Nat.le_add_right _ _, fun c hc => .inl hc⟩
  | x :: r, 0, acc, p, h => by
    by_cases q : TL.pre S (x :: r) = true
    · rw [TL.spl_hit q] at h
      rcases List.mem_cons.mp h with rfl | h
      · exact ⟨Nat.le_add_right _ _, fun c hc => .inl hc⟩
      · obtain ⟨h1, h2⟩ := spl_sub S r _ _ p h
        refine ⟨by rw [List.length_cons]; simp at h1; omega, fun c hc => ?_⟩
        rcases h2 c hc with h2 | h2
        · exact nomatch h2
        · exact .inr (List.mem_cons_of_mem _ h2)
    · rw [TL.spl_miss (by simpa using q)] at h
      obtain ⟨h1, h2⟩ := spl_sub S r _ _ p h
      refine ⟨by rw [List.length_append, List.length_singleton] at h1; rw [List.length_cons]; omega, fun c hc => ?_⟩
      rcases h2 c hc with h2 | h2
      · rcases List.mem_append.mp h2 with h2 | h2
        · exact .inl h2
        · rw [List.mem_singleton.mp h2]; exact .inr List.mem_cons_self
      · exact .inr (List.mem_cons_of_mem _ h2)
  | x :: r, k + 1, acc, p, h => by
    obtain ⟨h1, h2⟩ := spl_sub S r k acc p h
    exact ⟨by rw [List.length_cons]; omega, fun c hc => (h2 c hc).imp id fun q => List.mem_cons_of_mem _ q⟩
theorem spl_ne (S : List Nat) : ∀ (l : List Nat) (k : Nat) (acc : List Nat), TL.spl S k acc l ≠ []
  | [], k, acc => by rw [TL.spl_nil]; exact List.cons_ne_nil _ _
  | x :: r, 0, acc => by
    by_cases q : TL.pre S (x :: r) = true
    · rw [TL.spl_hit q]; exact List.cons_ne_nil _ _
    · rw [TL.spl_miss (by simpa using q)]; exact spl_ne S r _ _
  | x :: r, k + 1, acc => spl_ne S r k acc
theorem split_sub {x y p : Str} (hy : cs y ≠ []) (hk : y.cps.all (· < 256) = true) (h : p ∈ Txt.split x y) : Sub p x := by
  have e := TL.split_spl x y hy (TL.kind_ok hk)
  have h1 : cs p ∈ TL.spl (TL.tl y) 0 [] (TL.tl x) := e ▸ List.mem_map_of_mem h
  obtain ⟨a, b⟩ := spl_sub _ _ _ _ _ h1
  refine ⟨by rw [len_cs, len_cs]; simpa using a, fun c hc => ?_⟩
  rcases b c hc with b | b
  · exact nomatch b
  · exact b
theorem split_ne {x y : Str} (hy : cs y ≠ []) (hk : y.cps.all (· < 256) = true) : Txt.split x y ≠ [] := fun q => by
  have e := TL.split_spl x y hy (TL.kind_ok hk)
  rw [q] at e
  exact spl_ne _ _ _ _ e.symm
theorem par_sub (S : List Nat) : ∀ (l acc a b : List Nat), TL.par S acc l = some (a, b) → (a.length ≤ acc.length + l.length ∧ ∀ c ∈ a, c ∈ acc ∨ c ∈ l) ∧ b.length ≤ l.length ∧ ∀ c ∈ b, c ∈ l
  | [], acc, a, b, h => nomatch h
  | x :: r, acc, a, b, h => by
    by_cases q : TL.pre S (x :: r) = true
    · rw [TL.par_hit q] at h
      cases h
      exact ⟨⟨Nat.le_add_right _ _, fun c hc => .inl hc⟩, by rw [List.length_drop]; omega, fun c hc => List.mem_of_mem_drop hc⟩
    · rw [TL.par_miss (by simpa using q)] at h
      obtain ⟨⟨h1, h2⟩, h3, h4⟩ := par_sub S r _ a b h
      refine ⟨⟨by rw [List.length_append, List.length_singleton] at h1; rw [List.length_cons]; omega, fun c hc => ?_⟩, by rw [List.length_cons]; omega, fun c hc => List.mem_cons_of_mem _ (h4 c hc)⟩
      rcases h2 c hc with h2 | h2
      · rcases List.mem_append.mp h2 with h2 | h2
        · exact .inl h2
        · rw [List.mem_singleton.mp h2]; exact .inr List.mem_cons_self
      · exact .inr (List.mem_cons_of_mem _ h2)
theorem part_sub {x y : Str} (hy : cs y ≠ []) : Sub (Txt.partition x y).1 x ∧ Sub (Txt.partition x y).2.2 x := by
  rw [TL.partition_par x y hy]
  cases e : TL.par (TL.tl y) [] (TL.tl x) with
  | none => exact ⟨Sub.refl x, sub_nil x⟩
  | some ab =>
    obtain ⟨a, b⟩ := ab
    obtain ⟨⟨h1, h2⟩, h3, h4⟩ := par_sub _ _ _ a b e
    refine ⟨⟨by rw [len_cs, len_cs]; show a.length ≤ (TL.tl x).length; simpa using h1, fun c hc => ?_⟩, ⟨by rw [len_cs, len_cs]; exact h3, fun c hc => h4 c hc⟩⟩
    rcases h2 c hc with h2 | h2
    · exact nomatch h2
    · exact h2
theorem num_int {z : Str} (h : isNum z = true) : PySem.intText? z = some ((PySem.intText? z).getD 0) ∧ z.length ≤ 9 := by
  unfold isNum at h
  rw [Bool.and_eq_true, Bool.and_eq_true] at h
  obtain ⟨h1, _, h2⟩ := h
  simp only [Bool.not_eq_true', Bool.or_eq_false_iff, decide_eq_false_iff_not] at h1
  have hl : z.length ≤ 9 := by have := h1.2; omega
  have f : cs figs = [48, 49, 50, 51, 52, 53, 54, 55, 56, 57] := by decide +kernel
  have e := intText_digits (x := z) (fun c hc => by
    have := of_decide_eq_true (List.all_eq_true.mp h2 c hc)
    rw [f] at this
    simp at this
    omega) (fun q => h1.1 (cs_ext q)) (by omega)
  exact ⟨by rw [e]; rfl, hl⟩
end LW
namespace PD
open PySem L2 PyProof.Rows
section
variable {X : Cx} {W : WX} {ex : Addr → Prop} {e1 e2 e3 : Expr} {ρ : List Sl} {d : PyData} {pos : Pos} {kk : Nat}
theorem ex_tup2 (h1 : ED X W ex e1 ρ d) (h2 : EX X W ex e2 ρ) (s1 : starEach [e1, e2] X.env = (false, eval e1 X.env) :: starEach [e2] X.env := by rfl) (s2 : starEach [e2] X.env = [(false, eval e2 X.env)] := by rfl) : EX X W ex (.Tuple [e1, e2] kk pos) ρ := fun B F H σ Q E c =>
  w_e (pe_tup (pa_cons pe_w (pa_cons pe_w pa_nil s2) s1)) (h1 B F H σ _ E c fun v F1 H1 x1 i1 => h2 B F1 H1 σ _ (E.ext x1) (c.ext x1))
theorem ex_tup3 (h1 : ED X W ex e1 ρ d) (h2 : EX X W ex e2 ρ) (s1 : starEach [e1, e2, e3] X.env = (false, eval e1 X.env) :: starEach [e2, e3] X.env := by rfl) (s2 : starEach [e2, e3] X.env = (false, eval e2 X.env) :: starEach [e3] X.env := by rfl) (s3 : starEach [e3] X.env = [(false, eval e3 X.env)] := by rfl) : EX X W ex (.Tuple [e1, e2, e3] kk pos) ρ := fun B F H σ Q E c =>
  w_e (pe_tup (pa_cons pe_w (pa_cons pe_w (pa_cons pe_w pa_nil s3) s2) s1)) (h1 B F H σ _ E c fun v F1 H1 x1 i1 => h2 B F1 H1 σ _ (E.ext x1) (c.ext x1))
theorem short2 {z y : Str} (h : (reprText z).length ≤ 10002) (k : y.length ≤ 1000) : ([reprText z, y].map (·.length)).sum ≤ 100000 := by
  show (reprText z).length + (y.length + 0) ≤ 100000
  omega
theorem cutD_drop {α : Type} (xs : List α) (k : Nat) : cutD xs (some (k : Int)) none = xs.drop k := by
  unfold cutD
  rw [HT.sIx_none, HT.sIx_nat]
  rcases Nat.le_total k xs.length with h | h
  · rw [Nat.min_eq_left h, List.take_of_length_le (by rw [List.length_drop]; exact Nat.le_refl _)]
  · rw [Nat.min_eq_right h, Nat.sub_self, List.take_zero, List.drop_eq_nil_of_le h]
theorem cutD_take {α : Type} (xs : List α) (k : Nat) : cutD xs none (some (k : Int)) = xs.take k := by
  unfold cutD
  rw [HT.sIx_none, HT.sIx_nat, List.drop_zero, Nat.sub_zero]
  rcases Nat.le_total k xs.length with h | h
  · rw [Nat.min_eq_left h]
  · rw [Nat.min_eq_right h, List.take_of_length_le (Nat.le_refl _), List.take_of_length_le h]
theorem cut3 (a b c : Str) (r : List Str) : cutD ((a :: b :: c :: r).map PyData.str) (some 3) none = r.map PyData.str := by
  have := cutD_drop ((a :: b :: c :: r).map PyData.str) 3
  rw [show ((3 : Nat) : Int) = 3 from rfl] at this
  rw [this]; rfl
end
end PD

set_option maxHeartbeats 4000000
/-! what is read is what was written: the way back from any text -/
namespace LW
open PySem L2 PD PyProof.Rows
/-! ### cutting at one sign -/
abbrev cut1 (s : Nat) (acc l : List Nat) : List (List Nat) := TL.spl [s] 0 acc l
theorem pre1 (s c : Nat) (r : List Nat) : TL.pre [s] (c :: r) = decide (c = s) := by
  show ([c] == [s]) = _
  by_cases h : c = s
  · subst h; simp
  · rw [decide_eq_false h]; simp [h]
theorem cut1_hit {s : Nat} {acc r : List Nat} : cut1 s acc (s :: r) = acc :: cut1 s [] r := TL.spl_hit (by rw [pre1]; simp)
theorem cut1_miss {s c : Nat} {acc r : List Nat} (h : c ≠ s) : cut1 s acc (c :: r) = cut1 s (acc ++ [c]) r := TL.spl_miss (by rw [pre1]; exact decide_eq_false h)
theorem cut1_nil (s : Nat) (acc : List Nat) : cut1 s acc [] = [acc] := TL.spl_nil _ _ _
theorem joinL_cons {S p : List Nat} : ∀ {ps : List (List Nat)}, ps ≠ [] → TL.joinL S (p :: ps) = p ++ (S ++ TL.joinL S ps)
  | [], h => absurd rfl h
  | _ :: _, _ => rfl
theorem cut1_ne (s : Nat) (acc l : List Nat) : cut1 s acc l ≠ [] := spl_ne _ _ _ _
theorem cut1_join (s : Nat) : ∀ (l acc : List Nat), TL.joinL [s] (cut1 s acc l) = acc ++ l
  | [], acc => by rw [cut1_nil, List.append_nil]; rfl
  | c :: r, acc => by
    by_cases h : c = s
    · subst h
      rw [cut1_hit, joinL_cons (cut1_ne _ _ _), cut1_join c r]; rfl
    · rw [cut1_miss h, cut1_join s r, List.append_assoc]; rfl
theorem cut1_free {s : Nat} : ∀ {l acc p : List Nat}, s ∉ acc → p ∈ cut1 s acc l → s ∉ p
  | [], acc, p, ha, h => by rw [cut1_nil, List.mem_singleton] at h; rw [h]; exact ha
  | c :: r, acc, p, ha, h => by
    by_cases q : c = s
    · subst q
      rw [cut1_hit] at h
      rcases List.mem_cons.mp h with rfl | h
      · exact ha
      · exact cut1_free (acc := []) (fun z => nomatch z) h
    · rw [cut1_miss q] at h
      refine cut1_free (fun z => ?_) h
      rcases List.mem_append.mp z with z | z
      · exact ha z
      · exact q (List.mem_singleton.mp z).symm
theorem cut1_len (s : Nat) : ∀ (l acc : List Nat), (cut1 s acc l).length = l.count s + 1
  | [], acc => by rw [cut1_nil]; rfl
  | c :: r, acc => by
    by_cases h : c = s
    · subst h
      rw [cut1_hit, List.length_cons, cut1_len c r, List.count_cons_self]
    · rw [cut1_miss h, cut1_len s r, List.count_cons_of_ne h]
theorem cut1_acc (s : Nat) : ∀ (l : List Nat), ∃ h T, ∀ acc, cut1 s acc l = (acc ++ h) :: T
  | [] => ⟨[], [], fun acc => by rw [cut1_nil, List.append_nil]⟩
  | c :: r => by
    by_cases q : c = s
    · subst q
      exact ⟨[], cut1 c [] r, fun acc => by rw [cut1_hit, List.append_nil]⟩
    · obtain ⟨h, T, e⟩ := cut1_acc s r
      exact ⟨c :: h, T, fun acc => by rw [cut1_miss q, e, List.append_assoc]; rfl⟩
theorem cut1_app (s : Nat) : ∀ (u acc : List Nat), ∃ U z, ∀ v, cut1 s acc (u ++ v) = U ++ cut1 s z v
  | [], acc => ⟨[], acc, fun v => rfl⟩
  | c :: r, acc => by
    by_cases q : c = s
    · subst q
      obtain ⟨U, z, e⟩ := cut1_app c r []
      exact ⟨acc :: U, z, fun v => by rw [List.cons_append, cut1_hit, e]; rfl⟩
    · obtain ⟨U, z, e⟩ := cut1_app s r (acc ++ [c])
      exact ⟨U, z, fun v => by rw [List.cons_append, cut1_miss q, e]⟩
/-- no part is longer than k -/
def Bd (s k : Nat) (l : List Nat) : Prop := ∀ p ∈ cut1 s [] l, p.length ≤ k
theorem bd_app {s k : Nat} {u v : List Nat} (h : Bd s k (u ++ v)) : Bd s k u ∧ Bd s k v := by
  obtain ⟨U, z, e⟩ := cut1_app s u []
  obtain ⟨a, T, e2⟩ := cut1_acc s v
  have e3 : cut1 s [] (u ++ v) = U ++ ((z ++ a) :: T) := by rw [e, e2]
  have e4 : cut1 s [] u = U ++ [z] := by have := e []; rwa [List.append_nil, cut1_nil] at this
  have e5 : cut1 s [] v = a :: T := by rw [e2]; rfl
  have last := h (z ++ a) (by rw [e3]; simp)
  rw [List.length_append] at last
  refine ⟨fun p hp => ?_, fun p hp => ?_⟩
  · rw [e4] at hp
    rcases List.mem_append.mp hp with hp | hp
    · exact h p (by rw [e3]; exact List.mem_append_left _ hp)
    · rw [List.mem_singleton.mp hp]; omega
  · rw [e5] at hp
    rcases List.mem_cons.mp hp with rfl | hp
    · omega
    · exact h p (by rw [e3]; exact List.mem_append_right _ (List.mem_cons_of_mem _ hp))
theorem bd_cat {s j k : Nat} {u v : List Nat} (hu : Bd s j u) (hv : Bd s k v) : Bd s (j + k) (u ++ v) := by
  obtain ⟨U, z, e⟩ := cut1_app s u []
  obtain ⟨a, T, e2⟩ := cut1_acc s v
  have e4 : cut1 s [] u = U ++ [z] := by have := e []; rwa [List.append_nil, cut1_nil] at this
  have e5 : cut1 s [] v = a :: T := by rw [e2]; rfl
  intro p hp
  rw [e, e2] at hp
  rcases List.mem_append.mp hp with hp | hp
  · have := hu p (by rw [e4]; exact List.mem_append_left _ hp)
    omega
  rcases List.mem_cons.mp hp with rfl | hp
  · have h1 := hu z (by rw [e4]; simp)
    have h2 := hv a (by rw [e5]; exact List.mem_cons_self)
    rw [List.length_append]; omega
  · have := hv p (by rw [e5]; exact List.mem_cons_of_mem _ hp)
    omega
theorem bd_le {s j k : Nat} {u : List Nat} (h : Bd s j u) (q : j ≤ k) : Bd s k u := fun p hp => Nat.le_trans (h p hp) q
theorem bd_one {s : Nat} (c : Nat) : Bd s 1 [c] := fun p hp => by
  by_cases h : c = s
  · subst h
    rw [cut1_hit, cut1_nil] at hp
    rcases List.mem_cons.mp hp with rfl | hp
    · exact Nat.zero_le _
    · rw [List.mem_singleton.mp hp]; exact Nat.zero_le _
  · rw [cut1_miss h, cut1_nil, List.mem_singleton] at hp
    rw [hp]; exact Nat.le_refl _
theorem bd_any {s : Nat} (u : List Nat) : Bd s u.length u := fun p hp => by
  have := (spl_sub [s] u 0 [] p hp).1
  simpa using this
/-! ### of texts -/
theorem split_cs {t y : Str} {s : Nat} (ey : cs y = [s]) (hk : y.cps.all (· < 256) = true) : (Txt.split t y).map cs = cut1 s [] (cs t) := by
  have e := TL.split_spl t y (by rw [show TL.tl y = [s] from ey]; simp) (TL.kind_ok hk)
  rw [show TL.tl y = [s] from ey] at e
  exact e
theorem join_split {t y : Str} {s : Nat} (ey : cs y = [s]) (hk : y.cps.all (· < 256) = true) : Str.join y (Txt.split t y) = t := by
  refine cs_ext ?_
  have e := TL.tl_join y (Txt.split t y)
  have e2 : (Txt.split t y).map TL.tl = cut1 s [] (cs t) := split_cs ey hk
  rw [e2, show TL.tl y = [s] from ey, cut1_join] at e
  exact e
theorem split_free {t y p : Str} {s : Nat} (ey : cs y = [s]) (hk : y.cps.all (· < 256) = true) (h : p ∈ Txt.split t y) : s ∉ cs p := by
  have h1 : cs p ∈ cut1 s [] (cs t) := split_cs (t := t) ey hk ▸ List.mem_map_of_mem h
  exact cut1_free (acc := []) (fun z => nomatch z) h1
theorem split_len {t y : Str} {s : Nat} (ey : cs y = [s]) (hk : y.cps.all (· < 256) = true) : (Txt.split t y).length = (cs t).count s + 1 := by
  have e := congrArg List.length (split_cs (t := t) ey hk)
  rw [List.length_map, cut1_len] at e
  exact e
theorem par_back {S : List Nat} : ∀ {l acc a b : List Nat}, TL.par S acc l = some (a, b) → acc ++ l = a ++ (S ++ b)
  | [], acc, a, b, h => nomatch h
  | x :: r, acc, a, b, h => by
    by_cases q : TL.pre S (x :: r) = true
    · rw [TL.par_hit q] at h
      cases h
      have e : (x :: r).take S.length = S := by
        have : ((x :: r).take S.length == S) = true := q
        exact eq_of_beq this
      conv => lhs; rw [← List.take_append_drop S.length (x :: r), e]
    · rw [TL.par_miss (by simpa using q)] at h
      have := par_back h
      rw [List.append_assoc] at this
      exact this
theorem part_back {t y : Str} (hy : cs y ≠ []) (h : (Txt.partition t y).2.1 ≠ ("" : Str)) : (Txt.partition t y).1 ++ y ++ (Txt.partition t y).2.2 = t := by
  rw [TL.partition_par t y hy] at h ⊢
  cases e : TL.par (TL.tl y) [] (TL.tl t) with
  | none => rw [e] at h; exact absurd rfl h
  | some p =>
    obtain ⟨a, b⟩ := p
    have z := par_back e
    refine cs_ext ?_
    show cs ((⟨a.toArray⟩ : Str) ++ y ++ (⟨b.toArray⟩ : Str)) = cs t
    rw [cs_app, cs_app]
    show a ++ TL.tl y ++ b = cs t
    rw [List.append_assoc, ← z]; rfl
theorem part_none {t y : Str} (hy : cs y ≠ []) (h : (Txt.partition t y).2.1 = ("" : Str)) : (Txt.partition t y).2.2 = "" := by
  rw [TL.partition_par t y hy] at h ⊢
  cases e : TL.par (TL.tl y) [] (TL.tl t) with
  | none => rfl
  | some p =>
    rw [e] at h
    have h : y = ("" : Str) := h
    rw [h] at hy
    exact absurd rfl hy
theorem par_free {s : Nat} {S : List Nat} : ∀ {l acc a b : List Nat}, s ∉ acc → TL.par (s :: S) acc l = some (a, b) → S = [] → s ∉ a
  | [], acc, a, b, _, h, _ => nomatch h
  | x :: r, acc, a, b, ha, h, hS => by
    subst hS
    by_cases q : TL.pre [s] (x :: r) = true
    · rw [TL.par_hit q] at h
      cases h
      exact ha
    · rw [TL.par_miss (by simpa using q)] at h
      refine par_free (fun z => ?_) h rfl
      rcases List.mem_append.mp z with z | z
      · exact ha z
      · rw [List.mem_singleton.mp z, pre1] at q
        simp at q
/-! ### numbers -/
theorem digits_num : ∀ (n : Nat) (l : List Nat), l.length = n → l ≠ [] → (∀ c ∈ l, 48 ≤ c ∧ c ≤ 57) → (l.getD 0 0 ≠ 48 ∨ l.length = 1) → ∃ v, l = TL.numL v := by
  intro n
  induction n with
  | zero => intro l hl hne; exact absurd (List.length_eq_zero_iff.mp hl) hne
  | succ n ih =>
    intro l hl hne hd h0
    obtain ⟨r, c, rfl⟩ : ∃ r c, l = r ++ [c] := ⟨l.dropLast, l.getLast hne, (List.dropLast_concat_getLast hne).symm⟩
    have hc := hd c (by simp)
    by_cases hr : r = []
    · subst hr
      refine ⟨c - 48, ?_⟩
      rw [TL.numL_lt (by omega)]
      show [c] = [48 + (c - 48)]
      congr 1
      omega
    · rw [List.length_append, List.length_singleton] at hl h0
      have hd0 : (r ++ [c]).getD 0 0 = r.getD 0 0 := by
        cases r with
        | nil => exact absurd rfl hr
        | cons a t => rfl
      rw [hd0] at h0
      have h00 : r.getD 0 0 ≠ 48 := by
        rcases h0 with h0 | h0
        · exact h0
        · have : r.length = 0 := by omega
          exact absurd (List.length_eq_zero_iff.mp this) hr
      obtain ⟨v, hv⟩ := ih r (by omega) hr (fun d hd' => hd d (List.mem_append_left _ hd')) (.inl h00)
      have v0 : v ≠ 0 := fun q => by
        rw [hv, q, TL.numL_lt (by decide)] at h00
        exact h00 rfl
      refine ⟨10 * v + (c - 48), ?_⟩
      rw [TL.numL_step (by omega), show (10 * v + (c - 48)) / 10 = v by omega, show (10 * v + (c - 48)) % 10 = c - 48 by omega, ← hv, show 48 + (c - 48) = c by omega]
theorem figs_cs : cs figs = [48, 49, 50, 51, 52, 53, 54, 55, 56, 57] := by decide +kernel
theorem fig_iff {c : Nat} : c ∈ cs figs ↔ 48 ≤ c ∧ c ≤ 57 := by
  rw [figs_cs]
  simp
  omega
theorem isNum_num {z : Str} (h : isNum z = true) : ∃ k : Int, 0 ≤ k ∧ k < 1000000000 ∧ z = numS k := by
  unfold isNum at h
  rw [Bool.and_eq_true, Bool.and_eq_true] at h
  obtain ⟨h1, h2, h3⟩ := h
  rw [Bool.not_eq_true', Bool.or_eq_false_iff] at h1
  obtain ⟨e1, e2⟩ := h1
  have e1 := of_decide_eq_false e1
  have e2 := of_decide_eq_false e2
  have hne : cs z ≠ [] := fun q => e1 (cs_ext (by rw [q]; rfl))
  have hd : ∀ c ∈ cs z, 48 ≤ c ∧ c ≤ 57 := fun c hc => fig_iff.mp (of_decide_eq_true (List.all_eq_true.mp h3 c hc))
  have h0 : (cs z).getD 0 0 ≠ 48 ∨ (cs z).length = 1 := by
    by_cases q : (cs z).getD 0 0 = 48
    · refine .inr ?_
      rw [q] at h2
      have z0 : z = ("0" : Str) := by
        by_cases y : z = ("0" : Str)
        · exact y
        · rw [decide_eq_false y] at h2
          exact absurd h2 (by decide)
      rw [z0]; decide +kernel
    · exact .inl q
  obtain ⟨v, hv⟩ := digits_num _ (cs z) rfl hne hd h0
  have e : z = numS (v : Int) := cs_ext (by rw [cs_num]; exact hv)
  refine ⟨v, by omega, ?_, e⟩
  have l9 : (TL.numL v).length ≤ 9 := by rw [← hv, ← len_cs]; omega
  have val := TL.numL_val v
  by_cases big : v < 1000000000
  · omega
  · exfalso
    have grow : ∀ m, ∀ n, 10 ^ m ≤ n → m + 1 ≤ (TL.numL n).length := by
      intro m
      induction m with
      | zero => intro n _; have := TL.numL_ne n; cases e : TL.numL n with | nil => exact absurd e this | cons _ _ => simp
      | succ m ih =>
        intro n hn
        have p10 : 10 ^ (m + 1) = 10 * 10 ^ m := by rw [Nat.pow_succ]; omega
        have pos : 1 ≤ 10 ^ m := Nat.one_le_pow _ _ (by decide)
        rw [TL.numL_step (by omega), List.length_append, List.length_singleton]
        have := ih (n / 10) (by omega)
        omega
    have := grow 9 v (by omega)
    omega
/-! ### marks, deeds, heads -/
theorem readMark_fwd {t : Str} {m : Option (Str × Int)} (h : readMark t = some m) : markT m = t ∧ ∀ x k, m = some (x, k) → 0 ≤ k ∧ k < 1000000000 := by
  unfold readMark at h
  by_cases e : t = ("-" : Str)
  · rw [if_pos (decide_eq_true e)] at h
    cases h
    exact ⟨e.symm, fun x k q => nomatch q⟩
  · rw [if_neg (by rw [decide_eq_false e]; exact Bool.false_ne_true)] at h
    have sp := join_split (t := t) (y := " ") (s := 32) (by decide +kernel) (by decide +kernel)
    cases es : Txt.split t " " with
    | nil => rw [es] at h; first | exact nomatch h | simp at h
    | cons a r =>
      cases r with
      | nil => rw [es] at h; first | exact nomatch h | simp at h
      | cons b r =>
        cases r with
        | cons c r => rw [es] at h; first | exact nomatch h | simp at h
        | nil =>
          rw [es] at h sp
          have h : (if isNum b = true then some (some (a, (PySem.intText? b).getD 0)) else none) = some m := h
          by_cases hn : isNum b = true
          · rw [if_pos hn] at h
            obtain ⟨k, k0, k1, rfl⟩ := isNum_num hn
            rw [(num_ok k0 k1).2] at h
            cases h
            exact ⟨sp, fun x j q => by cases q; exact ⟨k0, k1⟩⟩
          · rw [if_neg hn] at h; cases h
theorem readDeed_fwd {t : Str} {d : Deed} (h : readDeed t = some d) : deedT d = t ∧ (d.w = "cut" → d.l = none) ∧ (d.w ≠ "cut" → d.l.isSome = true) ∧ ∀ x k, d.m = some (x, k) → 0 ≤ k ∧ k < 1000000000 := by
  unfold readDeed at h
  have blank : (Txt.partition t " ").2.1 = "" → (Txt.partition t " ").2.2 = "" := part_none (by decide +kernel)
  have back := part_back (t := t) (y := " ") (by decide +kernel)
  by_cases hw : (Txt.partition t " ").1 = ("cut" : Str)
  · rw [if_pos (decide_eq_true hw)] at h
    cases em : readMark (Txt.partition t " ").2.2 with
    | none => rw [em] at h; cases h
    | some m =>
      rw [em] at h
      cases h
      obtain ⟨h1, h2⟩ := readMark_fwd em
      have nb : (Txt.partition t " ").2.1 ≠ "" := fun q => by
        rw [blank q] at em
        exact absurd em (by
          have : readMark "" = none := by decide +kernel
          rw [this]; exact fun z => nomatch z)
      refine ⟨?_, fun _ => rfl, fun q => absurd hw q, h2⟩
      show (if decide ((Txt.partition t " ").1 = ("cut" : Str)) = true then (Txt.partition t " ").1 ++ " " ++ markT m else _) = t
      rw [if_pos (decide_eq_true hw), h1]
      exact back nb
  · rw [if_neg (by rw [decide_eq_false hw]; exact Bool.false_ne_true)] at h
    by_cases hc : (Txt.partition (Txt.partition t " ").2.2 ": ").2.1 = ("" : Str)
    · rw [if_pos (decide_eq_true hc)] at h; cases h
    · rw [if_neg (by rw [decide_eq_false hc]; exact Bool.false_ne_true)] at h
      cases em : readMark (Txt.partition (Txt.partition t " ").2.2 ": ").1 with
      | none => rw [em] at h; cases h
      | some m =>
        rw [em] at h
        cases h
        obtain ⟨h1, h2⟩ := readMark_fwd em
        have back2 := part_back (t := (Txt.partition t " ").2.2) (y := ": ") (by decide +kernel) hc
        have nb : (Txt.partition t " ").2.1 ≠ "" := fun q => by
          rw [blank q] at hc
          exact hc (by decide +kernel)
        refine ⟨?_, fun q => absurd q hw, fun _ => rfl, h2⟩
        show (if decide ((Txt.partition t " ").1 = ("cut" : Str)) = true then _ else (Txt.partition t " ").1 ++ " " ++ markT m ++ ": " ++ (Txt.partition (Txt.partition t " ").2.2 ": ").2.2) = t
        rw [if_neg (by rw [decide_eq_false hw]; exact Bool.false_ne_true), h1]
        refine Eq.trans ?_ (back nb)
        conv => rhs; rw [← back2]
        refine cs_ext ?_
        simp only [cs_app, List.append_assoc]
theorem readHead_fwd {t n : Str} {ls : List Str} (h : readHead t = some (n, ls)) : headT n ls = t ∧ ls = (Txt.split t " ").drop 3 := by
  have sp := join_split (t := t) (y := " ") (s := 32) (by decide +kernel) (by decide +kernel)
  unfold readHead at h
  by_cases h1 : (Txt.split t " ").headD "" = ("change" : Str)
  · rw [if_neg (by rw [decide_eq_true h1]; decide)] at h
    by_cases h2 : ((Txt.split t " ").length : Int) = 2
    · rw [if_pos (decide_eq_true h2)] at h
      cases h
      cases es : Txt.split t " " with
      | nil => rw [es] at h2; exact absurd h2 (by decide)
      | cons a r =>
        cases r with
        | nil => rw [es] at h2; simp at h2
        | cons b r =>
          cases r with
          | cons c r => rw [es] at h2; simp at h2; omega
          | nil =>
            rw [es] at h1 sp
            have h1 : a = "change" := h1
            rw [h1] at sp
            exact ⟨sp, rfl⟩
    · rw [if_neg (by rw [decide_eq_false h2]; exact Bool.false_ne_true)] at h
      by_cases h3 : (decide (((Txt.split t " ").length : Int) < 4) || !decide ((Txt.split t " ").getD 2 "" = ("on" : Str))) = true
      · rw [if_pos h3] at h; cases h
      · rw [if_neg h3] at h
        cases h
        rw [Bool.or_eq_true, not_or] at h3
        obtain ⟨h3, h4⟩ := h3
        cases es : Txt.split t " " with
        | nil => rw [es] at h3; exact absurd (by decide) h3
        | cons a r =>
          cases r with
          | nil => rw [es] at h3; exact absurd (by simp) h3
          | cons b r =>
            cases r with
            | nil => rw [es] at h3; exact absurd (by simp) h3
            | cons c r =>
              cases r with
              | nil => rw [es] at h3; exact absurd (by simp) h3
              | cons d r =>
                rw [es] at h1 sp h4
                have h1 : a = "change" := h1
                have h4 : c = "on" := by
                  by_cases q : c = ("on" : Str)
                  · exact q
                  · exact absurd (show (!decide (c = ("on" : Str))) = true by rw [decide_eq_false q]; rfl) h4
                rw [h1, h4] at sp
                exact ⟨sp, rfl⟩
  · rw [if_pos (by rw [decide_eq_false h1]; rfl)] at h; cases h
end LW

set_option maxHeartbeats 4000000
namespace K3
open PySem L2 PD PyProof.Rows LW
def topS (i : Nat) : Stmt := PySem.Challenge.pw_patchweave_k03_texts_read.main.body.getD i (.Pass ⟨0, 0, 0, 0⟩)
section
variable {P : Program} {w : World} {K : PySem.W.Frag} {mg : Str → Option Value} {base : Heap}
/-! ### _law_cell -/
abbrev sCell : Stmt := topS 33
abbrev nCell : List Str := ["_law_script", "_law_k"]
theorem scCell : FnScope nCell ["_law_script", "_law_k"] (defScope sCell) := ⟨rfl, rfl, rfl, by decide +kernel, rfl, by decide +kernel, by decide +kernel⟩
theorem ndCell : (nCell).Nodup := scCell.nd
theorem loCell : (["_law_script", "_law_k"] : List Str).all (locB (defScope sCell)) = true := by decide +kernel
theorem glCell : (["len"] : List Str).all (glB (defScope sCell)) = true := by decide +kernel
def rCell : List Sl → DOut → Prop := fun as o => ∃ (ns : List Int) (k : Nat), as = [.bo (ns.map .int), .sh (.int k)] ∧ o = .val (.int (cell ns k))
theorem okCell {f : Addr} {fd : FuncData} (F : Fun K "_law_cell" "_law_cell" sCell f fd) (T : Blt mg) : FnOk P w K mg base (L2N.CX P w) 1 f fd ["_law_script", "_law_k"] (spD K 2 rCell) := by
  refine fnD F scCell (by decide) fun cdv A outer s H E as o hr hl hR => ?_
  obtain ⟨ns, k, rfl, rfl⟩ := hR
  refine sds_cons (sd_if (et_c cd_lt (ed_v loCell 1) (ed_len (EP'.rd (ep_v loCell 0)) (gl_of glCell 0) T.len)) (fun hb => ?_) (fun hb => ?_))
  · have h1 : k < ns.length := by simpa using hb
    refine sds_one (sd_ret (ed_ixL (d := .int ns[k]) (EP'.rd (ep_v loCell 0)) (ed_v loCell 1) (atI_nat (j := k) (by simp [h1]))) ?_)
    show PyData.int ns[k] = .int (cell ns k)
    simp [cell, h1]
  · refine sds_nil (sds_one (sd_ret ed_int ?_))
    have h1 : ¬ k < ns.length := by simpa using hb
    show PyData.int 0 = .int (cell ns k)
    simp [cell, h1]
/-! ### _law_mixed -/
abbrev sMixed : Stmt := topS 34
abbrev nMixed : List Str := ["_law_cell_here", "_law_k"]
theorem scMixed : FnScope nMixed ["_law_cell_here", "_law_k"] (defScope sMixed) := ⟨rfl, rfl, rfl, by decide +kernel, rfl, by decide +kernel, by decide +kernel⟩
theorem loMixed : (["_law_cell_here", "_law_k"] : List Str).all (locB (defScope sMixed)) = true := by decide +kernel
def rMixed : List Sl → DOut → Prop := fun as o => ∃ c k : Int, as = [.sh (.int c), .sh (.int k)] ∧ o = .val (.int (mixed c k))
theorem okMixed {f : Addr} {fd : FuncData} (F : Fun K "_law_mixed" "_law_mixed" sMixed f fd) : FnOk P w K mg base (L2N.CX P w) 1 f fd ["_law_cell_here", "_law_k"] (spD K 2 rMixed) := by
  refine fnD F scMixed (by decide) fun cdv A outer s H E as o hr hl hR => ?_
  obtain ⟨c, k, rfl, rfl⟩ := hR
  exact sds_one (sd_ret (ed_mod (ed_mul (ed_add (ed_v loMixed 0) (ed_mul ed_int (ed_v loMixed 1) (.inl ⟨by decide, by decide⟩))) ed_int (.inr ⟨by decide, by decide⟩)) ed_int (by decide)) rfl)
/-! ### _law_name -/
abbrev sName : Stmt := topS 35
abbrev nName : List Str := ["_law_cell_here", "_law_taken", "_law_signs", "_law_left", "_law_found", "_law_at", "_law_j"]
theorem scName : FnScope nName ["_law_cell_here", "_law_taken"] (defScope sName) := ⟨rfl, rfl, rfl, by decide +kernel, rfl, by decide +kernel, by decide +kernel⟩
theorem ndName : (nName).Nodup := scName.nd
theorem loName : (["_law_cell_here", "_law_taken", "_law_signs", "_law_left", "_law_found", "_law_at"] : List Str).all (locB (defScope sName)) = true := by decide +kernel
theorem glName : (["_law_mixed", "range", "str", "len"] : List Str).all (glB (defScope sName)) = true := by decide +kernel
def rName : List Sl → DOut → Prop := fun as o => ∃ (c : Int) (taken : List Str), as = [.sh (.int c), .bo (taken.map .str)] ∧ Taken taken ∧ o = .val (.str (nameOf c taken))
theorem okName {f : Addr} {fd : FuncData} (F : Fun K "_law_name" "_law_name" sName f fd) (T : Blt mg) (cMixed : Cal P w K mg base 1 "_law_mixed" 2 rMixed) : FnOk P w K mg base (L2N.CX P w) 2 f fd ["_law_cell_here", "_law_taken"] (spD K 2 rName) := by
  refine fnD F scName (by decide) fun cdv A outer s H E as o hr hl hR => ?_
  obtain ⟨c, taken, rfl, ⟨hok, hln⟩, rfl⟩ := hR
  have hc : (cxOf (L2N.CX P w) P w K mg base nName "_law_name" (defScope sName) f cdv A outer s H E).calm = true := rfl
  have tk : L2N.Takes (cxOf (L2N.CX P w) P w K mg base nName "_law_name" (defScope sName) f cdv A outer s H E) (fun c d _ H' => E c d H') := L2N.takes_of rfl rfl rfl rfl
  have b0 := mixed_nn c 5
  have b12a := Int.emod_nonneg (mixed c 5) (show (12 : Int) ≠ 0 by decide)
  have b12b := Int.emod_lt_of_pos (mixed c 5) (show (0 : Int) < 12 by decide)
  have n0 : (nm0 c).length ≤ 12 := (nm0_ok c).2.1
  have n1 : (nm1 c).length ≤ 12 := (nm1_ok c).2.1
  have n2 : (nm2 c taken).length ≤ 12 := (nm2_ok c hok).2.1
  have hsg : LW.sgn.length ≤ 100000 := by rw [len_sgn]; decide
  refine sds_cons (sd_set (i := 2) ndName rfl (loc_of loName 2) (.inl rfl) ed_str ?_)
  refine sds_cons (sd_set (i := 3) ndName rfl (loc_of loName 3) (.inl rfl) (ed_call cMixed (hr.mono (by decide)) (gl_of glName 0) tk (ea_d (ed_v loName 0) (ea_d ed_int ea_nil)) rfl ⟨c, 5, rfl, rfl⟩) ?_)
  refine sds_cons (sd_set (i := 4) (d := .str (nm0 c)) ndName rfl (loc_of loName 4) (.inl rfl) (ed_join (zs := (List.range (1 + mixed c 5 % 12).toNat).map fun (j : Nat) => chS (sgnC (mixed c j % 36))) ed_str (EL.rd (EL.to (el_lcR (j := 6) ⟨hc, ndName, blkOk_by (N := nName) (sc := defScope sName) (by decide +kernel), by decide, rfl, rfl, by intro _; rfl⟩ (gl_of glName 1) T.range (fun _ => true) (fun x => .str (chS (sgnC (mixed c x % 36)))) (ed_add ed_int (ed_mod (ed_v loName 3) ed_int (by decide))) (by omega) (fun x hx s H C cl fp => rfl) (fun x hx _ s H C cl fp => (ed_ixS (w := LW.sgn) (ed_b 2) (ed_mod (ed_call cMixed (hr.mono (by decide)) gl_b takesN0 (ea_d (ed_b 0) (ea_d (ed_b 6) ea_nil)) rfl ⟨c, x, rfl, rfl⟩) ed_int (by decide)) hsg (sgn_at (Int.emod_nonneg _ (by decide)) (Int.emod_lt_of_pos _ (by decide)))))) (by rw [lc_all, List.map_map]; rfl))) (by rw [chs_sum, List.length_range]; show _ + _ * 0 ≤ _; omega)) ?_)
  -- the sign of a number
  refine sds_cons (sd_ifsetD (i := 4) (d := .str (numS (mixed c 5 % 130))) (d1 := .str (nm1 c)) ndName rfl (loc_of loName 4) (.inl rfl) (et_c cd_eqI (ed_mod (ed_v loName 0) ed_int (by decide)) ed_int) rfl (fun hb => ed_strI (ed_mod (ed_v loName 3) ed_int (by decide)) (lg_ok (Int.emod_nonneg _ (by decide)) (by have := Int.emod_lt_of_pos (mixed c 5) (show (0 : Int) < 130 by decide); omega)) (gl_of glName 2) T.str) (by unfold nm1; split <;> rfl) ?_)
  -- the last one, longer
  refine sds_cons (sd_ifsetD (i := 4) (d := .str (cutS (taken.getLastD "") none (some 11) ++ chS (sgnC (mixed c 5 % 36)))) (d1 := .str (nm2 c taken)) ndName rfl (loc_of loName 4) (.inl rfl) (et_w (ew_and (et_c cd_eqI (ed_mod (ed_v loName 0) ed_int (by decide)) ed_int) (fun _ => ew_and1 (et_list (EP'.rd (ep_v loName 1)))))) rfl (fun hb => ?_) (by unfold nm2; rw [List.isEmpty_map]; split <;> rfl) ?_)
  · rw [Bool.and_eq_true] at hb
    have he : taken.isEmpty = false := by simpa using hb.2
    have hl2 := (hok _ (getLastD_mem he)).2.1
    refine ed_cat (ed_cutS (ed_ixL (EP'.rd (ep_v loName 1)) (ed_neg ed_int) (atI_lastD he)) trivial ed_int (by omega)) (ed_ixS (w := LW.sgn) (ed_v loName 2) (ed_mod (ed_v loName 3) ed_int (by decide)) hsg (sgn_at (Int.emod_nonneg _ (by decide)) (Int.emod_lt_of_pos _ (by decide)))) ?_
    have : (cutS (taken.getLastD "") none (some 11)).length ≤ 12 := by rw [len_cs, cs_take11, List.length_take, ← len_cs]; omega
    show _ + 1 ≤ _
    omega
  -- one of them, a sign changed
  refine sds_cut [.sh (.int c), .bo (taken.map .str), .sh (.str LW.sgn), .sh (.int (mixed c 5)), .sh (.str (nm3 c taken)), .un, .un] (sd_if (et_w (ew_and (et_c cd_gt (ed_mod (ed_v loName 0) ed_int (by decide)) ed_int) (fun _ => (ew_and1 (et_list (EP'.rd (ep_v loName 1))))))) (fun hb => ?_) (fun hb => ?_)) ?_
  · have hb' := hb
    rw [Bool.and_eq_true] at hb
    have he : taken.isEmpty = false := by simpa using hb.2
    have hl0 : 0 < taken.length := by cases taken with | nil => cases he | cons => simp
    obtain ⟨hm, hat⟩ := nmT_mem c he
    obtain ⟨l1, l2, l3⟩ := hok _ hm
    obtain ⟨a0, a1⟩ := nmA_bd c he hok
    refine sds_cons (sd_set (i := 4) (d := .str (nmT c taken)) ndName rfl (loc_of loName 4) (.inl rfl) (ed_ixL (EP'.rd (ep_v loName 1)) (ed_mod (ed_v loName 3) (ed_len (EP'.rd (ep_v loName 1)) (gl_of glName 3) T.len) (by rw [List.length_map]; omega)) (by
      rw [List.length_map]
      refine atI_int (Int.emod_nonneg _ (by omega)) ?_
      rw [List.getElem?_map, hat]; rfl)) ?_)
    refine sds_cons (sd_set (i := 5) (d := .int (nmA c taken)) ndName rfl (loc_of loName 5) (.inl rfl) (ed_mod (ed_div (ed_v loName 3) ed_int ⟨by decide, by decide⟩) (ed_lenS (ed_v loName 4) (by omega) (gl_of glName 3) T.len) (by omega)) ?_)
    have q1 : (cutS (nmT c taken) none (some (nmA c taken))).length ≤ 12 := by
      have ea : nmA c taken = ((nmA c taken).toNat : Int) := by omega
      rw [len_cs, ea, cs_take, List.length_take, ← len_cs]; omega
    have q2 : (cutS (nmT c taken) (some (nmA c taken + 1)) none).length ≤ 12 := by
      have ea : nmA c taken + 1 = (((nmA c taken).toNat + 1 : Nat) : Int) := by omega
      rw [len_cs, ea, cs_drop, List.length_drop, ← len_cs]; omega
    refine sds_one (sd_set (i := 4) (d := .str (nm3 c taken)) ndName rfl (loc_of loName 4) (.inl rfl) (ED.to (ed_cat (ed_cat (ed_cutS (l := none) (u := some (nmA c taken)) (ed_v loName 4) trivial (ed_v loName 5) (by omega)) (ed_ixS (w := LW.sgn) (ed_v loName 2) (ed_mod (ed_div (ed_v loName 3) ed_int ⟨by decide, by decide⟩) ed_int (by decide)) hsg (sgn_at (Int.emod_nonneg _ (by decide)) (Int.emod_lt_of_pos _ (by decide)))) (by show _ + 1 ≤ _; omega)) (ed_cutS (l := some (nmA c taken + 1)) (u := none) (ed_v loName 4) (ed_add (ed_v loName 5) ed_int) trivial (by omega)) (by rw [len_app]; show _ + 1 + _ ≤ _; omega)) (by
      unfold nm3
      rw [List.isEmpty_map] at hb'
      rw [if_pos hb']; rfl)) ?_)
    exact .cons (.cons (.cons (.cons (.cons (.forget (.cons .nil))))))
  · refine sds_nil ?_
    have e : nm3 c taken = nm2 c taken := by
      unfold nm3
      rw [List.isEmpty_map] at hb
      rw [hb]; rfl
    rw [e]
    exact SlLe.refl _
  refine sds_cons (sd_if (et_niL (ed_v loName 4) (EP'.rd (ep_v loName 1))) (fun hb => ?_) (fun hb => ?_))
  · refine sds_one (sd_ret (ed_v loName 4) ?_)
    show PyData.str _ = .str (nameOf c taken)
    unfold nameOf
    rw [if_pos hb]
  · refine sds_nil ?_
    have hfr := frees_ne hln
    have hz : ∀ x : Nat, x < (((taken.length : Nat) : Int) + 1).toNat → ((x : Nat) : Int).natAbs.log2 < 1920 := fun x hx => lg_ok (by omega) (by omega)
    refine sds_one (sd_ret (ed_ixL (d := .str ((frees taken).headD "")) (EL.rd (EL.to (el_lcR (j := 6) ⟨hc, ndName, blkOk_by (N := nName) (sc := defScope sName) (by decide +kernel), by decide, rfl, rfl, by intro _; rfl⟩ (gl_of glName 1) T.range (fun x => !decide (numS (x : Int) ∈ taken)) (fun x => .str (numS (x : Int))) (ed_add (ed_len (EP'.rd (ep_v loName 1)) (gl_of glName 3) T.len) ed_int) (by rw [List.length_map]; omega) (fun x hx s H C cl fp => (et_niL (ed_strI (ed_b 6) (hz x (by rw [List.length_map] at hx; exact hx)) gl_b T.str) (EP'.rd (ep_b 1)))) (fun x hx _ s H C cl fp => (ed_strI (ed_b 6) (hz x (by rw [List.length_map] at hx; exact hx)) gl_b T.str))) (show _ = (frees taken).map PyData.str from ?_))) ed_int ?_) ?_)
    · rw [List.length_map, show (((taken.length : Nat) : Int) + 1).toNat = taken.length + 1 from by omega]
      unfold frees
      rw [List.filter_map, List.map_map]; rfl
    · refine atI_nat (j := 0) ?_
      cases e : frees taken with
      | nil => exact absurd e hfr
      | cons a r => rfl
    · show PyData.str _ = .str (nameOf c taken)
      unfold nameOf
      rw [hb]; rfl
/-! ### _law_line -/
abbrev sLine : Stmt := topS 36
abbrev nLine : List Str := ["_law_cell_here", "_law_some", "_law_size", "_law_found", "_law_j"]
theorem scLine : FnScope nLine ["_law_cell_here"] (defScope sLine) := ⟨rfl, rfl, rfl, by decide +kernel, rfl, by decide +kernel, by decide +kernel⟩
theorem ndLine : (nLine).Nodup := scLine.nd
theorem loLine : (["_law_cell_here", "_law_some", "_law_size", "_law_found"] : List Str).all (locB (defScope sLine)) = true := by decide +kernel
theorem glLine : (["range"] : List Str).all (glB (defScope sLine)) = true := by decide +kernel
def rLine : List Sl → DOut → Prop := fun as o => ∃ c : Int, as = [.sh (.int c)] ∧ o = .val (.str (lineOf c))
theorem okLine {f : Addr} {fd : FuncData} (F : Fun K "_law_line" "_law_line" sLine f fd) (T : Blt mg) : FnOk P w K mg base (L2N.CX P w) 1 f fd ["_law_cell_here"] (spD K 1 rLine) := by
  refine fnD F scLine (by decide) fun cdv A outer s H E as o hr hl hR => ?_
  obtain ⟨c, rfl, rfl⟩ := hR
  have hc : (cxOf (L2N.CX P w) P w K mg base nLine "_law_line" (defScope sLine) f cdv A outer s H E).calm = true := rfl
  have hb1 := lsize_bd c
  have hb2 := ln0_len c
  have l1 := len_some1
  have l2 := len_some2
  have ls := len_somes
  refine sds_cons (sd_set (i := 1) (d := .str some1) ndLine rfl (loc_of loLine 1) (.inl rfl) ed_str ?_)
  refine sds_cons (sd_set (i := 1) (d := .str somes) ndLine rfl (loc_of loLine 1) (.inl rfl) (ed_cat (ed_v loLine 1) (i := some1) (j := some2) ed_str (by omega)) ?_)
  refine sds_cons (sd_set (i := 2) (d := .int (c % 4)) ndLine rfl (loc_of loLine 2) (.inl rfl) (ed_mod (ed_v loLine 0) ed_int (by decide)) ?_)
  refine sds_cons (sd_ifsetD (i := 2) (d := .int (c / 36 % 201)) (d1 := .int (lsize c)) ndLine rfl (loc_of loLine 2) (.inl rfl) (et_c cd_eqI (ed_mod (ed_div (ed_v loLine 0) ed_int ⟨by decide, by decide⟩) ed_int (by decide)) ed_int) rfl (fun hb => ed_mod (ed_div (ed_v loLine 0) ed_int ⟨by decide, by decide⟩) ed_int (by decide)) (by unfold lsize; split <;> rfl) ?_)
  refine sds_cons (sd_set (i := 3) (d := .str (ln0 c)) ndLine rfl (loc_of loLine 3) (.inl rfl) (ed_join (zs := (List.range (lsize c).toNat).map fun (j : Nat) => chS (someC ((c / 7 + (j : Int) * (1 + c % 5)) % 94))) ed_str (EL.rd (EL.to (el_lcR (j := 4) ⟨hc, ndLine, blkOk_by (N := nLine) (sc := defScope sLine) (by decide +kernel), by decide, rfl, rfl, by intro _; rfl⟩ (gl_of glLine 0) T.range (fun _ => true) (fun x => .str (chS (someC ((c / 7 + (x : Int) * (1 + c % 5)) % 94)))) (ed_v loLine 2) (by omega) (fun x hx s H C cl fp => rfl) (fun x hx _ s H C cl fp => (ed_ixS (w := somes) (ed_b 1) (ed_mod (ed_add (ed_div (ed_b 0) ed_int ⟨by decide, by decide⟩) (ed_mul (ed_b 4) (ed_add ed_int (ed_mod (ed_b 0) ed_int (by decide))) (.inl ⟨by omega, by omega⟩))) ed_int (by decide)) (by omega) (some_at (Int.emod_nonneg _ (by decide)) (Int.emod_lt_of_pos _ (by decide)))))) (by rw [lc_all, List.map_map]; rfl))) (by rw [chs_sum, List.length_range]; show _ + _ * 0 ≤ _; omega)) ?_)
  refine sds_cons (sd_if (et_w (ew_and (et_c cd_eqI (ed_mod (ed_div (ed_v loLine 0) ed_int ⟨by decide, by decide⟩) ed_int (by decide)) ed_int) (fun _ => (ew_and1 (et_c cd_lt (ed_v loLine 2) ed_int))))) (fun hb => ?_) (fun hb => ?_))
  · have q1 : (cutS (ln0 c) none (some 1)).length ≤ 200 := by rw [len_cs, cs_take1, List.length_take, ← len_cs]; omega
    have q2 : (cutS (ln0 c) (some 1) none).length ≤ 200 := by rw [len_cs, cs_drop1, List.length_drop, ← len_cs]; omega
    refine sds_one (sd_ret (ed_cat (ed_cat (ed_cutS (l := none) (u := some 1) (ed_v loLine 3) trivial ed_int (by omega)) ed_str (by show _ + 2 ≤ _; omega)) (ed_cutS (l := some 1) (u := none) (ed_v loLine 3) ed_int trivial (by omega)) (by rw [len_app]; show _ + 2 + _ ≤ _; omega)) ?_)
    show PyData.str _ = .str (lineOf c)
    unfold lineOf
    rw [if_pos hb]
  · refine sds_nil (sds_one (sd_ret (ed_v loLine 3) ?_))
    show PyData.str _ = .str (lineOf c)
    unfold lineOf
    rw [hb, if_neg Bool.false_ne_true]

/-! ### _law_leans -/
abbrev sLeans : Stmt := topS 37
abbrev nLeans : List Str := ["_law_cell_here", "_law_ahead", "_law_left", "_law_found", "_law_k", "_law_change", "_law_last"]
theorem scLeans : FnScope nLeans ["_law_cell_here", "_law_ahead"] (defScope sLeans) := ⟨rfl, rfl, rfl, by decide +kernel, rfl, by decide +kernel, by decide +kernel⟩
theorem ndLeans : (nLeans).Nodup := scLeans.nd
theorem loLeans : (["_law_cell_here", "_law_ahead", "_law_left", "_law_found", "_law_k", "_law_change", "_law_last"] : List Str).all (locB (defScope sLeans)) = true := by decide +kernel
theorem glLeans : (["_law_mixed", "enumerate", "len", "sorted"] : List Str).all (glB (defScope sLeans)) = true := by decide +kernel
def rLeans : List Sl → DOut → Prop := fun as o => ∃ (c : Int) (ah : List LW.Change), as = [.sh (.int c), .bo (ah.map LW.qC)] ∧ ah.length ≤ 62 ∧ o = .new ((LW.leansOf c ah).map .str)
theorem okLeans {f : Addr} {fd : FuncData} (F : Fun K "_law_leans" "_law_leans" sLeans f fd) (T : Blt mg) (cMixed : Cal P w K mg base 1 "_law_mixed" 2 rMixed) : FnOk P w K mg base (L2N.CX P w) 2 f fd ["_law_cell_here", "_law_ahead"] (spD K 2 rLeans) := by
  refine fnD F scLeans (by decide) fun cdv A outer s H E as o hr hl hR => ?_
  obtain ⟨c, ah, rfl, hah, rfl⟩ := hR
  have hc : (cxOf (L2N.CX P w) P w K mg base nLeans "_law_leans" (defScope sLeans) f cdv A outer s H E).calm = true := rfl
  have tk : L2N.Takes (cxOf (L2N.CX P w) P w K mg base nLeans "_law_leans" (defScope sLeans) f cdv A outer s H E) (fun c d _ H' => E c d H') := L2N.takes_of rfl rfl rfl rfl
  have hml : (ah.map LW.qC).length = ah.length := List.length_map _
  have h3a := Int.emod_nonneg c (show (3 : Int) ≠ 0 by decide)
  refine sds_cons (sd_set (i := 2) (d := .int (LW.lnLeft c 0)) ndLeans rfl (loc_of loLeans 2) (.inl rfl) (ed_call cMixed (hr.mono (by decide)) (gl_of glLeans 0) tk (ea_d (ed_v loLeans 0) (ea_d ed_int ea_nil)) rfl ⟨c, 1, rfl, rfl⟩) ?_)
  refine sds_cons (sd_setL (i := 3) ndLeans rfl (loc_of loLeans 3) (.inl rfl) (el_lst (ds := []) ea_nil le_b) (fun r3 => ?_))
  refine sds_cons (sd_enum (fun i ρ => ∃ s4 s5 s6, ρ = [.sh (.int c), .bo (ah.map LW.qC), .sh (.int (LW.lnLeft c i)), .ow r3 ((LW.lnAt c ah i).map .str), s4, s5, s6]) (L2.passes_of rfl) hc
    (gu_tup hc (gus_cons (gu_name (j := 4) ndLeans rfl (loc_of loLeans 4) (.inl rfl)) (gus_cons (gu_name (j := 5) ndLeans rfl (loc_of loLeans 5) (.inl rfl)) gus_nil))) (gl_of glLeans 1) T.enumerate (ep_v loLeans 1) ⟨_, _, _, rfl⟩ (fun i d ρ1 hi hI => ?_) (fun ρ1 hI => ?_))
  · obtain ⟨s4, s5, s6, rfl⟩ := hI
    rw [List.getElem?_map] at hi
    cases hx : ah[i]? with
    | none => rw [hx] at hi; cases hi
    | some x =>
    rw [hx] at hi
    cases hi
    have hil : i < ah.length := (List.getElem?_eq_some_iff.mp hx).1
    have hfl := LW.lnAt_len c ah i
    refine ⟨_, ⟨_, rfl, rfl, _, _, _, rfl, rfl, _, _, _, rfl, rfl, rfl, rfl⟩, ?_⟩
    refine sds_cons (sd_set (i := 6) (d := .bool (decide ((i : Int) = (ah.length : Int) - 1) && decide (c % 7 = 3))) ndLeans rfl (loc_of loLeans 6) (.inl rfl) (ED.to (ed_and (ed_c cd_eqI (ed_v loLeans 4) (ed_sub (ed_len (EP'.rd (ep_v loLeans 1)) (gl_of glLeans 2) T.len) ed_int)) (fun _ => (ed_one (ed_c cd_eqI (ed_mod (ed_v loLeans 0) ed_int (by decide)) ed_int)))) (by rw [hml])) ?_)
    refine sds_cut [.sh (.int c), .bo (ah.map LW.qC), .sh (.int (LW.lnLeft c i)), .ow r3 ((LW.lnAt c ah (i + 1)).map .str), .sh (.int (i : Nat)), .sh (LW.qC x), .un] (sd_if (et_w (ew_or (et_val (ed_v loLeans 6)) (fun _ => (ew_or1 (et_w (ew_and (et_c cd_eqI (ed_mod (ed_v loLeans 2) (ed_add ed_int (ed_mod (ed_v loLeans 0) ed_int (by decide))) (by omega)) ed_int) (fun _ => (ew_and1 (et_w (ew_or (et_c cd_lt (ed_len (EP'.rd (ep_v loLeans 1)) (gl_of glLeans 2) T.len) ed_int) (fun _ => (ew_or1 (et_c cd_eqI (ed_mod (ed_v loLeans 4) ed_int (by decide)) (ed_mod (ed_div (ed_v loLeans 2) ed_int ⟨by decide, by decide⟩) ed_int (by decide))))))))))))))) (fun hb => ?_) (fun hb => ?_)) ?_
    · rw [hml] at hb
      have ht : LW.lnTake c ah.length i (LW.lnLeft c i) = true := hb
      have e : LW.lnAt c ah (i + 1) = LW.lnAt c ah i ++ [x.n] := by rw [LW.lnAt, if_pos ht, hx]; rfl
      rw [e, List.map_append]
      exact sds_one (sd_app (i := 3) rfl (vis_of (loc_of loLeans 3)) rfl (ed_ixT (ds := [.str x.n, _, _]) (ed_v loLeans 5) ed_int (atI_nat (j := 0) rfl)) (by rw [List.length_map]; omega) (.cons (.cons (.cons (.cons (.cons (.cons (.forget .nil))))))))
    · rw [hml] at hb
      have ht : LW.lnTake c ah.length i (LW.lnLeft c i) = false := hb
      have e : LW.lnAt c ah (i + 1) = LW.lnAt c ah i := by rw [LW.lnAt, ht]; rfl
      rw [e]
      exact sds_nil (.cons (.cons (.cons (.cons (.cons (.cons (.forget .nil)))))))
    refine sds_cons (sd_set (i := 2) (d := .int (LW.lnLeft c i / 3)) ndLeans rfl (loc_of loLeans 2) (.inl rfl) (ed_div (ed_v loLeans 2) ed_int ⟨by decide, by decide⟩) ?_)
    refine sds_one (sd_ifsetD (i := 2) (d := .int (mixed c ((i : Int) + 2))) (d1 := .int (LW.lnLeft c (i + 1))) ndLeans rfl (loc_of loLeans 2) (.inl rfl) (et_c cd_lt (ed_v loLeans 2) ed_int) rfl (fun _ => ed_call cMixed (hr.mono (by decide)) (gl_of glLeans 0) tk (ea_d (ed_v loLeans 0) (ea_d (ed_add (ed_v loLeans 4) ed_int) ea_nil)) rfl ⟨c, (i : Int) + 2, rfl, rfl⟩) (by rw [LW.lnLeft]; unfold LW.lnNext; split <;> rfl) ⟨_, _, _, rfl⟩)
  · obtain ⟨s4, s5, s6, rfl⟩ := hI
    rw [hml]
    have hfl := LW.lnAt_len c ah ah.length
    exact sds_one (sd_retL (el_sorted (ds := (LW.leansOf c ah).map .str) (zs := LW.lnAt c ah ah.length) (eb_v loLeans 3) (by omega) (gl_of glLeans 3) T.sorted (fun ys p h => by rw [sortS_uniq p h]; rfl)) rfl)
/-! ### _law_marks -/
abbrev sMarks : Stmt := topS 38
abbrev nMarks : List Str := ["_law_change", "_law_many", "_law_deed", "_law_j"]
theorem scMarks : FnScope nMarks ["_law_change"] (defScope sMarks) := ⟨rfl, rfl, rfl, by decide +kernel, rfl, by decide +kernel, by decide +kernel⟩
theorem ndMarks : (nMarks).Nodup := scMarks.nd
theorem loMarks : (["_law_change", "_law_many"] : List Str).all (locB (defScope sMarks)) = true := by decide +kernel
theorem glMarks : (["len", "range"] : List Str).all (glB (defScope sMarks)) = true := by decide +kernel
def rMarks : List Sl → DOut → Prop := fun as o => ∃ c : LW.Change, as = [.sh (LW.qC c)] ∧ c.ds.length ≤ 1000 ∧ o = .new ((LW.marksOf c).map LW.qMk)
theorem okMarks {f : Addr} {fd : FuncData} (F : Fun K "_law_marks" "_law_marks" sMarks f fd) (T : Blt mg) : FnOk P w K mg base (L2N.CX P w) 1 f fd ["_law_change"] (spD K 1 rMarks) := by
  refine fnD F scMarks (by decide) fun cdv A outer s H E as o hr hl hR => ?_
  obtain ⟨c, rfl, hcd, rfl⟩ := hR
  have hc : (cxOf (L2N.CX P w) P w K mg base nMarks "_law_marks" (defScope sMarks) f cdv A outer s H E).calm = true := rfl
  have ha := LW.adds_le c.ds
  refine sds_cons (sd_set (i := 1) (d := .int (LW.adds c.ds : Nat)) ndMarks rfl (loc_of loMarks 1) (.inl rfl) (ED.to (ed_len (EL.rd (el_lc (j := 2) ⟨hc, ndMarks, blkOk_by (N := nMarks) (sc := defScope sMarks) (by decide +kernel), by decide, rfl, rfl, by intro _; rfl⟩ c.ds LW.qD (fun d => decide (d.w = ("add" : Str))) LW.qD (ED.pst (ed_ixT (ds := [_, _, .list (c.ds.map LW.qD)]) (ed_v loMarks 0) ed_int (atI_nat (j := 2) rfl))) (by omega) (fun x hx s H C cl fp => by
    obtain ⟨r, er⟩ := LW.qD_fst x
    rw [er]
    exact (et_c cd_eqS (ed_ixT (ed_b 2) ed_int (atI_nat (j := 0) rfl)) ed_str)) (fun x hx _ s H C cl fp => (ed_b 2)))) (gl_of glMarks 0) T.len) (by rw [List.length_map]; rfl)) ?_)
  exact sds_one (sd_retL (EL.to (xs := (LW.marksOf c).map LW.qMk) (el_lcR (j := 3) ⟨hc, ndMarks, blkOk_by (N := nMarks) (sc := defScope sMarks) (by decide +kernel), by decide, rfl, rfl, by intro _; rfl⟩ (gl_of glMarks 1) T.range (fun _ => true) (fun x => LW.qMk (c.n, (x : Int))) (ed_v loMarks 1) (by omega) (fun x hx s H C cl fp => rfl) (fun x hx _ s H C cl fp => (ed_tup (ds := [_, _]) (ea_d (ed_ixT (ds := [.str c.n, _, _]) (ed_b 0) ed_int (atI_nat (j := 0) rfl)) (ea_d (ed_b 3) ea_nil)) le_b))) (by rw [lc_all]; unfold LW.marksOf; rw [List.map_map]; rfl)) rfl)

/-! ### _law_deeds -/
abbrev sDeeds : Stmt := topS 39
abbrev nDeeds : List Str := ["_law_name_here", "_law_cell_here", "_law_many", "_law_marks_here", "_law_deeds_here", "_law_own", "_law_k", "_law_known", "_law_left", "_law_at", "_law_line_here", "_law_mark", "_law_j"]
theorem scDeeds : FnScope nDeeds ["_law_name_here", "_law_cell_here", "_law_many", "_law_marks_here"] (defScope sDeeds) := ⟨rfl, rfl, rfl, by decide +kernel, rfl, by decide +kernel, by decide +kernel⟩
theorem ndDeeds : (nDeeds).Nodup := scDeeds.nd
theorem loDeeds : (["_law_name_here", "_law_cell_here", "_law_many", "_law_marks_here", "_law_deeds_here", "_law_own", "_law_k", "_law_known", "_law_left", "_law_at", "_law_line_here", "_law_mark"] : List Str).all (locB (defScope sDeeds)) = true := by decide +kernel
theorem glDeeds : (["range", "_law_mixed", "len", "_law_line"] : List Str).all (glB (defScope sDeeds)) = true := by decide +kernel
def rDeeds : List Sl → DOut → Prop := fun as o => ∃ (n : Str) (c many : Int) (ms : List (Str × Int)), as = [.sh (.str n), .sh (.int c), .sh (.int many), .sh (.list (ms.map LW.qMk))] ∧ 0 ≤ many ∧ many ≤ 20 ∧ ms.length ≤ 10000 ∧ o = .new ((LW.deedsOf n c many.toNat ms).map LW.qD)
theorem okDeeds {f : Addr} {fd : FuncData} (F : Fun K "_law_deeds" "_law_deeds" sDeeds f fd) (T : Blt mg) (cMixed : Cal P w K mg base 1 "_law_mixed" 2 rMixed) (cLine : Cal P w K mg base 1 "_law_line" 1 rLine) : FnOk P w K mg base (L2N.CX P w) 2 f fd ["_law_name_here", "_law_cell_here", "_law_many", "_law_marks_here"] (spD K 4 rDeeds) := by
  refine fnD F scDeeds (by decide) fun cdv A outer s H E as o hr hl hR => ?_
  obtain ⟨n, c, many, ms, rfl, hm0, hm1, hms, rfl⟩ := hR
  have hc : (cxOf (L2N.CX P w) P w K mg base nDeeds "_law_deeds" (defScope sDeeds) f cdv A outer s H E).calm = true := rfl
  have tk : L2N.Takes (cxOf (L2N.CX P w) P w K mg base nDeeds "_law_deeds" (defScope sDeeds) f cdv A outer s H E) (fun c d _ H' => E c d H') := L2N.takes_of rfl rfl rfl rfl
  refine sds_cons (sd_setL (i := 4) ndDeeds rfl (loc_of loDeeds 4) (.inl rfl) (el_lst (ds := []) ea_nil le_b) (fun r4 => ?_))
  refine sds_cons (sd_set (i := 5) (d := .int (0 : Nat)) ndDeeds rfl (loc_of loDeeds 5) (.inl rfl) ed_int ?_)
  refine sds_cons (sd_rng (fun i ρ => ∃ s6 s7 s8 s9 s10 s11 s12, ρ = [.sh (.str n), .sh (.int c), .sh (.int many), .sh (.list (ms.map LW.qMk)), .ow r4 ((LW.deedsAt n c ms i).1.map LW.qD), .sh (.int (LW.deedsAt n c ms i).2), s6, s7, s8, s9, s10, s11, s12]) (L2.passes_of rfl) hc (j := 6) ndDeeds rfl (loc_of loDeeds 6) (.inl rfl) (gl_of glDeeds 0) T.range (ed_v loDeeds 2) (by omega) ⟨_, _, _, _, _, _, _, rfl⟩ (fun i ρ1 hi hI => ?_) (fun ρ1 hI => ?_))
  · obtain ⟨s6, s7, s8, s9, s10, s11, s12, rfl⟩ := hI
    obtain ⟨hd1, hd2⟩ := LW.deedsAt_len n c ms i
    have hx1 : (LW.deedsAt n c ms (i + 1)).1 = (LW.deedsAt n c ms i).1 ++ [LW.deedOf n ms (LW.deedsAt n c ms i).2 (mixed c (i : Int))] := rfl
    have hx2 : (LW.deedsAt n c ms (i + 1)).2 = if LW.isAdd n ms (LW.deedsAt n c ms i).2 (mixed c (i : Int)) = true then (LW.deedsAt n c ms i).2 + 1 else (LW.deedsAt n c ms i).2 := rfl
    rw [hx1, hx2]
    clear hx1 hx2
    generalize hds : (LW.deedsAt n c ms i).1 = ds at *
    generalize how : (LW.deedsAt n c ms i).2 = own at *
    have hkl := LW.knownOf_len n ms own
    have hkm : ((LW.knownOf n ms own).map LW.qMk).length = (LW.knownOf n ms own).length := List.length_map _
    have hdm : (ds.map LW.qD).length < 100000 := by rw [List.length_map]; omega
    refine sds_cons (sd_setL (i := 7) ndDeeds rfl (loc_of loDeeds 7) (.inl rfl) (EL.to (xs := (LW.knownOf n ms own).map LW.qMk) (el_cat (ed_v loDeeds 3) (EL.dat (el_lcR (j := 12) ⟨hc, ndDeeds, blkOk_by (N := nDeeds) (sc := defScope sDeeds) (by decide +kernel), by decide, rfl, rfl, by intro _; rfl⟩ (gl_of glDeeds 0) T.range (fun _ => true) (fun x => LW.qMk (n, (x : Int))) (ed_v loDeeds 5) (by omega) (fun x hx s H C cl fp => rfl) (fun x hx _ s H C cl fp => (ed_tup (ds := [_, _]) (ea_d (ed_b 0) (ea_d (ed_b 12) ea_nil)) le_b)))) (by rw [lc_all, List.length_map, List.length_map, List.length_range]; omega)) (by rw [lc_all]; unfold LW.knownOf; rw [List.map_append, List.map_map]; rfl)) (fun r7 => ?_))
    refine sds_frz (i := 7) rfl ?_
    refine sds_cons (sd_set (i := 8) (d := .int (mixed c (i : Int))) ndDeeds rfl (loc_of loDeeds 8) (.inl rfl) (ed_call cMixed (hr.mono (by decide)) (gl_of glDeeds 1) tk (ea_d (ed_v loDeeds 1) (ea_d (ed_v loDeeds 6) ea_nil)) rfl ⟨c, i, rfl, rfl⟩) ?_)
    generalize mixed c (i : Int) = l
    refine sds_cons (sd_set (i := 9) (d := .int (LW.dAt n ms own l)) ndDeeds rfl (loc_of loDeeds 9) (.inl rfl) (ED.to (ed_mod (ed_div (ed_v loDeeds 8) ed_int ⟨by decide, by decide⟩) (ed_add (ed_len (ED.rd (ed_v loDeeds 7)) (gl_of glDeeds 2) T.len) ed_int) (by omega)) (by rw [hkm]; rfl)) ?_)
    have ha0 : 0 ≤ LW.dAt n ms own l := Int.emod_nonneg _ (by omega)
    have ha1 : LW.dAt n ms own l < ((LW.knownOf n ms own).length : Int) + 1 := Int.emod_lt_of_pos _ (by omega)
    refine sds_cons (sd_set (i := 10) (d := .str (lineOf (l / 365))) ndDeeds rfl (loc_of loDeeds 10) (.inl rfl) (ed_call cLine (hr.mono (by decide)) (gl_of glDeeds 3) tk (ea_d (ed_div (ed_v loDeeds 8) ed_int ⟨by decide, by decide⟩) ea_nil) rfl ⟨_, rfl, rfl⟩) ?_)
    refine sds_one (sd_if (et_w (ew_or (et_c cd_lt (ed_mod (ed_v loDeeds 8) ed_int (by decide)) ed_int) (fun _ => (ew_or1 (et_not (et_list (ED.rd (ed_v loDeeds 7)))))))) (fun hb => ?_) (fun hb => ?_))
    · rw [List.isEmpty_map] at hb
      have hadd : LW.isAdd n ms own l = true := hb
      have e : LW.deedOf n ms own l = ⟨"add", LW.addMark n ms own l, some (lineOf (l / 365))⟩ := by unfold LW.deedOf; rw [if_pos hadd]
      rw [e, if_pos hadd, List.map_append]
      refine sds_cons (sd_set (i := 11) (d := .none) ndDeeds rfl (loc_of loDeeds 11) (.inl rfl) ed_non ?_)
      refine sds_cons (sd_ifsetD (i := 11) (d := LW.qM (LW.addMark n ms own l)) (d1 := LW.qM (LW.addMark n ms own l)) ndDeeds rfl (loc_of loDeeds 11) (.inl rfl) (et_c cd_gt (ed_v loDeeds 9) ed_int) rfl (fun hb => ?_) ?_ ?_)
      · have hp : 0 < LW.dAt n ms own l := of_decide_eq_true hb
        refine ed_ixL (ED.rd (ed_v loDeeds 7)) (ed_sub (ed_v loDeeds 9) ed_int) ?_
        refine atI_int (by omega) ?_
        rw [List.getElem?_map, show (LW.dAt n ms own l - 1).toNat = (LW.dAt n ms own l).toNat - 1 from by omega]
        unfold LW.addMark
        rw [if_pos hb, List.getElem?_eq_getElem (by omega)]; rfl
      · split
        · rfl
        · rename_i hn
          unfold LW.addMark
          rw [if_neg hn]; rfl
      · refine sds_cons (sd_app (i := 4) rfl (vis_of (loc_of loDeeds 4)) rfl (ed_tup (ds := [_, _, _]) (ea_d ed_str (ea_d (ed_v loDeeds 11) (ea_d (ed_v loDeeds 10) ea_nil))) le_b) hdm ?_)
        exact sds_one (sd_set (i := 5) (d := .int ((own + 1 : Nat) : Int)) ndDeeds rfl (loc_of loDeeds 5) (.inl rfl) (ED.to (ed_add (ed_v loDeeds 5) ed_int) (by congr 1)) ⟨_, _, _, _, _, _, _, rfl⟩)
    · rw [List.isEmpty_map] at hb
      have hadd : LW.isAdd n ms own l = false := hb
      have hne : (LW.knownOf n ms own).isEmpty = false := by
        unfold LW.isAdd at hadd
        rw [Bool.or_eq_false_iff] at hadd
        simpa using hadd.2
      have hpos : 0 < (LW.knownOf n ms own).length := by
        cases h : LW.knownOf n ms own with
        | nil => rw [h] at hne; cases hne
        | cons a r => simp
      have hoth : atI ((LW.knownOf n ms own).map LW.qMk) (LW.dAt n ms own l % (((LW.knownOf n ms own).map LW.qMk).length : Int)) = some (LW.qM (LW.othMark n ms own l)) := by
        rw [hkm]
        have q0 := Int.emod_nonneg (LW.dAt n ms own l) (show ((LW.knownOf n ms own).length : Int) ≠ 0 by omega)
        have q1 := Int.emod_lt_of_pos (LW.dAt n ms own l) (show (0 : Int) < ((LW.knownOf n ms own).length : Int) by omega)
        refine atI_int q0 ?_
        unfold LW.othMark
        rw [List.getElem?_map, List.getElem?_eq_getElem (by omega)]; rfl
      rw [hadd, if_neg Bool.false_ne_true, List.map_append]
      refine sds_one (sd_if (et_c cd_eqI (ed_mod (ed_v loDeeds 8) ed_int (by decide)) ed_int) (fun hb => ?_) (fun hb => ?_))
      · have e : LW.deedOf n ms own l = ⟨"cut", LW.othMark n ms own l, none⟩ := by unfold LW.deedOf; rw [hadd, if_neg Bool.false_ne_true, if_pos hb]
        rw [e]
        exact sds_one (sd_app (i := 4) rfl (vis_of (loc_of loDeeds 4)) rfl (ed_tup (ds := [_, _]) (ea_d ed_str (ea_d (ed_ixL (ED.rd (ed_v loDeeds 7)) (ed_mod (ed_v loDeeds 9) (ed_len (ED.rd (ed_v loDeeds 7)) (gl_of glDeeds 2) T.len) (by omega)) hoth) ea_nil)) le_b) hdm ⟨_, _, _, _, _, _, _, rfl⟩)
      · have e : LW.deedOf n ms own l = ⟨"set", LW.othMark n ms own l, some (lineOf (l / 365))⟩ := by unfold LW.deedOf; rw [hadd, if_neg Bool.false_ne_true, hb, if_neg Bool.false_ne_true]
        rw [e]
        exact sds_one (sd_app (i := 4) rfl (vis_of (loc_of loDeeds 4)) rfl (ed_tup (ds := [_, _, _]) (ea_d ed_str (ea_d (ed_ixL (ED.rd (ed_v loDeeds 7)) (ed_mod (ed_v loDeeds 9) (ed_len (ED.rd (ed_v loDeeds 7)) (gl_of glDeeds 2) T.len) (by omega)) hoth) (ea_d (ed_v loDeeds 10) ea_nil))) le_b) hdm ⟨_, _, _, _, _, _, _, rfl⟩)
  · obtain ⟨s6, s7, s8, s9, s10, s11, s12, rfl⟩ := hI
    exact sds_one (sd_retO (i := 4) rfl (vis_of (loc_of loDeeds 4)) rfl rfl)

/-! ### _law_changes -/
abbrev sChanges : Stmt := topS 40
abbrev nChanges : List Str := ["_law_cells", "_law_most", "_law_found", "_law_taken", "_law_k", "_law_name_here", "_law_leans_here", "_law_marks_here", "_law_change", "_law_many"]
theorem scChanges : FnScope nChanges ["_law_cells", "_law_most"] (defScope sChanges) := ⟨rfl, rfl, rfl, by decide +kernel, rfl, by decide +kernel, by decide +kernel⟩
theorem ndChanges : (nChanges).Nodup := scChanges.nd
theorem loChanges : (["_law_cells", "_law_most", "_law_found", "_law_taken", "_law_k", "_law_name_here", "_law_leans_here", "_law_marks_here", "_law_change", "_law_many"] : List Str).all (locB (defScope sChanges)) = true := by decide +kernel
theorem glChanges : (["range", "min", "len", "_law_name", "_law_leans", "_law_marks", "_law_deeds"] : List Str).all (glB (defScope sChanges)) = true := by decide +kernel
def rChanges : List Sl → DOut → Prop := fun as o => ∃ (cells : List Int) (most : Int), as = [.bo (cells.map .int), .sh (.int most)] ∧ cells.length ≤ 100000 ∧ LW.chCount cells most ≤ 60 ∧ -(2 ^ 62) ≤ most ∧ o = .new ((LW.changesOf cells most).map LW.qC)
theorem okChanges {f : Addr} {fd : FuncData} (F : Fun K "_law_changes" "_law_changes" sChanges f fd) (T : Blt mg) (cName : Cal P w K mg base 2 "_law_name" 2 rName) (cLeans : Cal P w K mg base 2 "_law_leans" 2 rLeans) (cMarks : Cal P w K mg base 1 "_law_marks" 1 rMarks) (cDeeds : Cal P w K mg base 2 "_law_deeds" 4 rDeeds) : FnOk P w K mg base (L2N.CX P w) 3 f fd ["_law_cells", "_law_most"] (spD K 2 rChanges) := by
  refine fnD F scChanges (by decide) fun cdv A outer s H E as o hr hl hR => ?_
  obtain ⟨cells, most, rfl, hcl, hcnt, hmost, rfl⟩ := hR
  have hc : (cxOf (L2N.CX P w) P w K mg base nChanges "_law_changes" (defScope sChanges) f cdv A outer s H E).calm = true := rfl
  have tk : L2N.Takes (cxOf (L2N.CX P w) P w K mg base nChanges "_law_changes" (defScope sChanges) f cdv A outer s H E) (fun c d _ H' => E c d H') := L2N.takes_of rfl rfl rfl rfl
  have hcm : (cells.map PyData.int).length = cells.length := List.length_map _
  have hq : (0 : Int) ≤ (cells.length : Int) / 4 ∧ (cells.length : Int) / 4 * 4 ≤ cells.length := by omega
  refine sds_cons (sd_setL (i := 2) ndChanges rfl (loc_of loChanges 2) (.inl rfl) (el_lst (ds := []) ea_nil le_b) (fun r2 => ?_))
  refine sds_cons (sd_setL (i := 3) ndChanges rfl (loc_of loChanges 3) (.inl rfl) (el_lst (ds := [_]) (ea_d ed_str ea_nil) le_b) (fun r3 => ?_))
  refine sds_cons (sd_rng (fun i ρ => ∃ s4 s5 s6 s7 s8 s9, ρ = [.bo (cells.map .int), .sh (.int most), .ow r2 ((LW.chsAt cells i).1.map LW.qC), .ow r3 ((LW.chsAt cells i).2.map .str), s4, s5, s6, s7, s8, s9]) (L2.passes_of rfl) hc (j := 4) ndChanges rfl (loc_of loChanges 4) (.inl rfl) (gl_of glChanges 0) T.range (k := if most < (cells.length : Int) / 4 then most else (cells.length : Int) / 4) (ED.to (ed_min hc (ed_div (ed_len (EP'.rd (ep_v loChanges 0)) (gl_of glChanges 2) T.len) ed_int ⟨by decide, by decide⟩) (ed_v loChanges 1) (gl_of glChanges 1) T.min) (by rw [hcm])) (by constructor <;> split <;> omega) ⟨_, _, _, _, _, _, rfl⟩ (fun i ρ1 hi hI => ?_) (fun ρ1 hI => ?_))
  · obtain ⟨s4, s5, s6, s7, s8, s9, rfl⟩ := hI
    have hi60 : i < 60 := Nat.lt_of_lt_of_le hi hcnt
    have hi4 : 4 * i + 3 < cells.length := by
      have : ((if most < (cells.length : Int) / 4 then most else (cells.length : Int) / 4)) ≤ (cells.length : Int) / 4 := by split <;> omega
      omega
    obtain ⟨t1, t2, _⟩ := LW.chsAt_len cells i
    obtain ⟨ht, _⟩ := LW.chsAt_taken cells i (by omega)
    have hfd := LW.chsAt_ds cells i
    have hx1 : (LW.chsAt cells (i + 1)).1 = (LW.chsAt cells i).1 ++ [LW.chAt cells (LW.chsAt cells i).1 (LW.chsAt cells i).2 i] := rfl
    have hx2 : (LW.chsAt cells (i + 1)).2 = (LW.chsAt cells i).2 ++ [(LW.chAt cells (LW.chsAt cells i).1 (LW.chsAt cells i).2 i).n] := rfl
    rw [hx1, hx2]
    clear hx1 hx2
    generalize hfs : (LW.chsAt cells i).1 = fs at *
    generalize htk : (LW.chsAt cells i).2 = tkn at *
    have hfm : (fs.map LW.qC).length = fs.length := List.length_map _
    have htm : (tkn.map PyData.str).length = tkn.length := List.length_map _
    have hmb := LW.manyOf_bd (cell cells (4 * i + 3))
    refine sds_cons (sd_set (i := 5) (d := .str (LW.chAt cells fs tkn i).n) ndChanges rfl (loc_of loChanges 5) (.inl rfl) (ed_call cName (hr.mono (by decide)) (gl_of glChanges 3) tk (ea_d (ed_ixL (EP'.rd (ep_v loChanges 0)) (ed_mul ed_int (ed_v loChanges 4) (.inl ⟨by decide, by decide⟩)) (LW.cell_at (j := 4 * i) (by omega) (by omega))) (ea_b (eb_v loChanges 3) ea_nil)) rfl ⟨cell cells (4 * i), tkn, rfl, ht, rfl⟩) ?_)
    refine sds_cons (sd_app (i := 3) rfl (vis_of (loc_of loChanges 3)) rfl (ed_v loChanges 5) (by omega) ?_)
    refine sds_cons (sd_setL (i := 6) ndChanges rfl (loc_of loChanges 6) (.inl rfl) (EL.to (xs := (LW.chAt cells fs tkn i).ls.map .str) (el_call cLeans (hr.mono (by decide)) (gl_of glChanges 4) tk (ea_d (ed_ixL (EP'.rd (ep_v loChanges 0)) (ed_add (ed_mul ed_int (ed_v loChanges 4) (.inl ⟨by decide, by decide⟩)) ed_int) (LW.cell_at (j := 4 * i + 1) (by omega) (by omega))) (ea_b (eb_v loChanges 2) ea_nil)) rfl ⟨cell cells (4 * i + 1), fs, rfl, by omega, rfl⟩) rfl) (fun r6 => ?_))
    refine sds_frz (i := 6) rfl ?_
    refine sds_cons (sd_setL (i := 7) ndChanges rfl (loc_of loChanges 7) (.inl rfl) (el_lst (ds := []) ea_nil le_b) (fun r7 => ?_))
    refine sds_frz (i := 7) rfl ?_
    generalize hls : (LW.chAt cells fs tkn i).ls = ls
    refine sds_cons (sd_forO (i0 := 2) (l := r2) (ds := fs.map LW.qC) (fun k ρ => ∃ s8, ρ = [.bo (cells.map .int), .sh (.int most), .ow r2 (fs.map LW.qC), .ow r3 (tkn.map .str ++ [.str (LW.chAt cells fs tkn i).n]), .sh (.int (i : Nat)), .sh (.str (LW.chAt cells fs tkn i).n), .sh (.list (ls.map .str)), .sh (.list ((LW.leanMarks (fs.take k) ls).map LW.qMk)), s8, s9]) (L2.passes_of rfl) hc (j := 8) ndChanges rfl (loc_of loChanges 8) (.inl rfl) rfl (vis_of (loc_of loChanges 2)) rfl ⟨_, rfl⟩ (fun k ρ' hI => by obtain ⟨s8, rfl⟩ := hI; rfl) (fun k d ρ1 hk hI => ?_) (fun ρ1 hI => ?_))
    · obtain ⟨s8, rfl⟩ := hI
      rw [List.getElem?_map] at hk
      cases hx : fs[k]? with
      | none => rw [hx] at hk; cases hk
      | some x =>
      rw [hx] at hk
      cases hk
      have hkl : k < fs.length := (List.getElem?_eq_some_iff.mp hx).1
      have hxd := hfd x (List.mem_of_getElem? hx)
      have hle := LW.leanMarks_len (fs := fs.take k) ls fun g hg => hfd g (List.mem_of_mem_take hg)
      rw [List.length_take] at hle
      have hml := LW.marksOf_len x
      have hal := LW.adds_le x.ds
      rw [LW.leanMarks_take hx]
      refine sds_one (sd_if (et_inL (i := x.n) (zs := ls) (ed_ixT (ds := [.str x.n, _, _]) (ed_v loChanges 8) ed_int (atI_nat (j := 0) rfl)) (ED.rd (ed_v loChanges 6))) (fun hb => ?_) (fun hb => ?_))
      · rw [if_pos hb]
        refine sds_cons (sd_setL (i := 7) ndChanges rfl (loc_of loChanges 7) (.inl rfl) (EL.to (xs := (LW.leanMarks (fs.take k) ls ++ LW.marksOf x).map LW.qMk) (el_cat (ed_v loChanges 7) (EL.dat (el_call cMarks (hr.mono (by decide)) (gl_of glChanges 5) tk (ea_d (ed_v loChanges 8) ea_nil) rfl ⟨x, rfl, by omega, rfl⟩)) (by rw [List.length_map, List.length_map]; omega)) (by rw [List.map_append])) (fun r7 => ?_))
        exact sds_frz (i := 7) rfl (sds_nil ⟨_, rfl⟩)
      · rw [hb, if_neg Bool.false_ne_true, List.append_nil]
        exact sds_nil ⟨_, rfl⟩
    · obtain ⟨s8, rfl⟩ := hI
      rw [hfm, List.take_length]
      have hle := LW.leanMarks_len (fs := fs) ls hfd
      refine sds_cons (sd_set (i := 9) (d := .int (cell cells (4 * i + 3) % 5)) ndChanges rfl (loc_of loChanges 9) (.inl rfl) (ed_mod (ed_ixL (EP'.rd (ep_v loChanges 0)) (ed_add (ed_mul ed_int (ed_v loChanges 4) (.inl ⟨by decide, by decide⟩)) ed_int) (LW.cell_at (j := 4 * i + 3) (by omega) (by omega))) ed_int (by decide)) ?_)
      refine sds_cons (sd_ifsetD (i := 9) (d := .int (20 - cell cells (4 * i + 3) / 80 % 16)) (d1 := .int (LW.manyOf (cell cells (4 * i + 3)))) ndChanges rfl (loc_of loChanges 9) (.inl rfl) (et_c cd_eqI (ed_mod (ed_div (ed_ixL (EP'.rd (ep_v loChanges 0)) (ed_add (ed_mul ed_int (ed_v loChanges 4) (.inl ⟨by decide, by decide⟩)) ed_int) (LW.cell_at (j := 4 * i + 3) (by omega) (by omega))) ed_int ⟨by decide, by decide⟩) ed_int (by decide)) ed_int) rfl (fun _ => ed_sub ed_int (ed_mod (ed_div (ed_ixL (EP'.rd (ep_v loChanges 0)) (ed_add (ed_mul ed_int (ed_v loChanges 4) (.inl ⟨by decide, by decide⟩)) ed_int) (LW.cell_at (j := 4 * i + 3) (by omega) (by omega))) ed_int ⟨by decide, by decide⟩) ed_int (by decide))) (by unfold LW.manyOf; split <;> rfl) ?_)
      refine sds_one (sd_app (i := 2) rfl (vis_of (loc_of loChanges 2)) rfl (d := LW.qC (LW.chAt cells fs tkn i)) (ED.to (ed_tup (ds := [_, _, _]) (ea_d (ed_v loChanges 5) (ea_d (ed_v loChanges 6) (ea_d (EL.dat (el_call cDeeds (hr.mono (by decide)) (gl_of glChanges 6) tk (ea_d (ed_v loChanges 5) (ea_d (ed_ixL (EP'.rd (ep_v loChanges 0)) (ed_add (ed_mul ed_int (ed_v loChanges 4) (.inl ⟨by decide, by decide⟩)) ed_int) (LW.cell_at (j := 4 * i + 2) (by omega) (by omega))) (ea_d (ed_v loChanges 9) (ea_d (ed_v loChanges 7) ea_nil)))) rfl ⟨(LW.chAt cells fs tkn i).n, cell cells (4 * i + 2), LW.manyOf (cell cells (4 * i + 3)), LW.leanMarks fs ls, rfl, hmb.1, hmb.2, by omega, rfl⟩)) ea_nil))) le_b) (by rw [← hls]; rfl)) (by omega) ⟨.sh (.int (i : Nat)), .sh (.str (LW.chAt cells fs tkn i).n), .sh (.list (ls.map .str)), .sh (.list ((LW.leanMarks fs ls).map LW.qMk)), s8, .sh (.int (LW.manyOf (cell cells (4 * i + 3)))), ?_⟩)
      rw [List.map_append, List.map_append]; rfl
  · obtain ⟨s4, s5, s6, s7, s8, s9, rfl⟩ := hI
    exact sds_one (sd_retO (i := 2) rfl (vis_of (loc_of loChanges 2)) rfl rfl)

end
end K3

set_option maxHeartbeats 4000000
namespace K3
open PySem L2 PD PyProof.Rows LW
def isName (z : Str) : Bool := !(decide (z = "") || decide (12 < (z.length : Int))) && z.cps.toList.all fun c => decide (c ∈ sgn.cps.toList)
def isLine (z : Str) : Bool := !decide (200 < (z.length : Int)) && z.cps.toList.all fun c => (!decide ((⟨#[c]⟩ : Str).cps.toList < (" " : Str).cps.toList)) && (!decide (("~" : Str).cps.toList < (⟨#[c]⟩ : Str).cps.toList))
/-- the leans rise -/
def rising : List Str → Bool
  | a :: b :: r => decide (a.cps.toList < b.cps.toList) && rising (b :: r)
  | _ => true
def badNames (n : Str) (ls : List Str) : Bool := !((n :: ls).all isName) || !rising ls || decide (n ∈ ls)
def badDeed (d : Deed) : Bool := !decide (d.w ∈ (["add", "cut", "set"] : List Str)) || (!decide (d.w = "add") && d.m.isNone) || (!decide (d.w = "cut") && !(isLine (d.l.getD "")))
def badDeeds (ds : List Deed) : Bool := decide (20 < ds.length) || ds.any badDeed
def notLeaned (n : Str) (ls : List Str) (d : Deed) : Bool := match d.m with
  | none => false
  | some (x, _) => !decide (x = n) && !decide (x ∈ ls)
/-- a deed that can be looked at -/
def DeedOk (d : Deed) : Prop := Tx0 d.w ∧ (d.w ≠ "cut" → d.l.isSome = true) ∧ (∀ l, d.l = some l → Tx0 l) ∧ ∀ x k, d.m = some (x, k) → Tx0 x
def ChangeOk (c : Change) : Prop := Tx0 c.n ∧ (∀ z ∈ c.ls, Tx0 z) ∧ c.ls.length ≤ 1000 ∧ c.ds.length ≤ 1000 ∧ ∀ d ∈ c.ds, DeedOk d

structure Tx (K : PySem.W.Frag) (mg : Str → Option Value) (cB cN : Addr) : Prop where
  len : mg "len" = none
  str : mg "str" = none
  min : mg "min" = none
  range : mg "range" = none
  sorted : mg "sorted" = none
  list : mg "list" = none
  all : mg "all" = none
  zip : mg "zip" = none
  signs : ∃ t, mg "NAME_SIGNS" = some (.str sgn t)
  name : ∃ t, mg "LONGEST_NAME" = some (.int 12 t)
  line : ∃ t, mg "LONGEST_LINE" = some (.int 200 t)
  deeds : ∃ t, mg "MOST_DEEDS" = some (.int 20 t)
  words : ∃ t, mg "WORDS" = some (.ref t) ∧ ∀ H, SqT K H t [.str "add", .str "cut", .str "set"]
  bad : Er K mg "BadChange" cB
  not : Er K mg "NotLeaned" cN

section
variable {P : Program} {w : World} {K : PySem.W.Frag} {mg : Str → Option Value} {base : Heap} {cB cN : Addr}
/-! ### is_name -/
abbrev sIsName : Stmt := topS 16
abbrev nIsName : List Str := ["text", "sign"]
theorem scIsName : FnScope nIsName ["text"] (defScope sIsName) := ⟨rfl, rfl, rfl, by decide +kernel, rfl, by decide +kernel, by decide +kernel⟩
theorem ndIsName : (nIsName).Nodup := scIsName.nd
theorem loIsName : (["text"] : List Str).all (locB (defScope sIsName)) = true := by decide +kernel
theorem glIsName : (["all", "LONGEST_NAME", "len"] : List Str).all (glB (defScope sIsName)) = true := by decide +kernel
def rIsName : List Sl → DOut → Prop := fun as o => ∃ z, as = [.sh (.str z)] ∧ Tx0 z ∧ o = .val (.bool (isName z))
theorem okIsName {f : Addr} {fd : FuncData} (F : Fun K "is_name" "is_name" sIsName f fd) (T : Tx K mg cB cN) : FnOk P w K mg base (L2N.CX P w) 1 f fd ["text"] (spD K 1 rIsName) := by
  refine fnD F scIsName (by decide) fun cdv A outer s H E as o hr hl hR => ?_
  obtain ⟨z, rfl, hz, rfl⟩ := hR
  have hc : (cxOf (L2N.CX P w) P w K mg base nIsName "is_name" (defScope sIsName) f cdv A outer s H E).calm = true := rfl
  have lz : z.length ≤ 1000 := hz.1
  refine sds_cons (sd_if (et_w (ew_or (et_c cd_eqS (ed_v loIsName 0) ed_str) (fun _ => (ew_or1 (et_c cd_gt (ed_lenS (ed_v loIsName 0) (by omega) (gl_of glIsName 2) T.len) (ed_gint (gl_of glIsName 1) T.name)))))) (fun hb => ?_) (fun hb => ?_))
  · refine sds_one (sd_ret ed_bl ?_)
    show PyData.bool _ = .bool (isName z)
    unfold isName
    rw [hb]; rfl
  · refine sds_nil ?_
    refine sds_one (sd_ret (ed_all (bs := z.cps.toList.map fun c => decide (c ∈ sgn.cps.toList)) hc (EL.rd (EL.to (el_lcS (j := 1) ⟨hc, ndIsName, blkOk_by (N := nIsName) (sc := defScope sIsName) (by decide +kernel), by decide, rfl, rfl, by intro _; rfl⟩ (fun _ => true) _ (ed_v loIsName 0) (by omega) (fun x hx s H C cl fp => rfl) (fun x hx _ s H C cl fp => (ed_c cd_inC (ed_b 1) (ed_gstr gl_b T.signs)))) (by rw [lc_all, List.map_map]; rfl))) (gl_of glIsName 0) T.all) ?_)
    show PyData.bool _ = .bool (isName z)
    unfold isName
    rw [hb, List.all_map]; rfl
/-! ### is_line -/
abbrev sIsLine : Stmt := topS 17
abbrev nIsLine : List Str := ["text", "sign"]
theorem scIsLine : FnScope nIsLine ["text"] (defScope sIsLine) := ⟨rfl, rfl, rfl, by decide +kernel, rfl, by decide +kernel, by decide +kernel⟩
theorem ndIsLine : (nIsLine).Nodup := scIsLine.nd
theorem loIsLine : (["text"] : List Str).all (locB (defScope sIsLine)) = true := by decide +kernel
theorem glIsLine : (["LONGEST_LINE", "all", "len"] : List Str).all (glB (defScope sIsLine)) = true := by decide +kernel
def rIsLine : List Sl → DOut → Prop := fun as o => ∃ z, as = [.sh (.str z)] ∧ Tx0 z ∧ o = .val (.bool (isLine z))
theorem okIsLine {f : Addr} {fd : FuncData} (F : Fun K "is_line" "is_line" sIsLine f fd) (T : Tx K mg cB cN) : FnOk P w K mg base (L2N.CX P w) 1 f fd ["text"] (spD K 1 rIsLine) := by
  refine fnD F scIsLine (by decide) fun cdv A outer s H E as o hr hl hR => ?_
  obtain ⟨z, rfl, hz, rfl⟩ := hR
  have hc : (cxOf (L2N.CX P w) P w K mg base nIsLine "is_line" (defScope sIsLine) f cdv A outer s H E).calm = true := rfl
  have lz : z.length ≤ 1000 := hz.1
  refine sds_cons (sd_if (et_c cd_gt (ed_lenS (ed_v loIsLine 0) (by omega) (gl_of glIsLine 2) T.len) (ed_gint (gl_of glIsLine 0) T.line)) (fun hb => ?_) (fun hb => ?_))
  · refine sds_one (sd_ret ed_bl ?_)
    show PyData.bool _ = .bool (isLine z)
    unfold isLine
    rw [hb]; rfl
  · refine sds_nil ?_
    refine sds_one (sd_ret (ed_all (bs := z.cps.toList.map fun c => (!decide ((⟨#[c]⟩ : Str).cps.toList < (" " : Str).cps.toList)) && (!decide (("~" : Str).cps.toList < (⟨#[c]⟩ : Str).cps.toList))) hc (EL.rd (EL.to (el_lcS (j := 1) ⟨hc, ndIsLine, blkOk_by (N := nIsLine) (sc := defScope sIsLine) (by decide +kernel), by decide, rfl, rfl, by intro _; rfl⟩ (fun _ => true) _ (ed_v loIsLine 0) (by omega) (fun x hx s H C cl fp => rfl) (fun x hx _ s H C cl fp => (ed_ch cd_leS cd_leS ed_str (ed_b 1) ed_str))) (by rw [lc_all, List.map_map]; rfl))) (gl_of glIsLine 1) T.all) ?_)
    show PyData.bool _ = .bool (isLine z)
    unfold isLine
    rw [hb, List.all_map]; rfl
/-! ### check_deed -/
abbrev sCheckDeed : Stmt := topS 21
abbrev nCheckDeed : List Str := ["deed", "word"]
theorem scCheckDeed : FnScope nCheckDeed ["deed"] (defScope sCheckDeed) := ⟨rfl, rfl, rfl, by decide +kernel, rfl, by decide +kernel, by decide +kernel⟩
theorem ndCheckDeed : (nCheckDeed).Nodup := scCheckDeed.nd
theorem loCheckDeed : (["deed", "word"] : List Str).all (locB (defScope sCheckDeed)) = true := by decide +kernel
theorem glCheckDeed : (["WORDS", "BadChange", "is_line"] : List Str).all (glB (defScope sCheckDeed)) = true := by decide +kernel
def rCheckDeed (cB : Addr) : List Sl → DOut → Prop := fun as o => ∃ d, as = [.sh (qD d)] ∧ DeedOk d ∧ o = if badDeed d = true then .exc cB else .val .none
theorem qD_tup (d : Deed) : ∃ r, qD d = .tuple (.str d.w :: qM d.m :: r) ∧ ∀ l, d.l = some l → r = [.str l] := by
  unfold qD
  cases d.l with
  | none => exact ⟨[], rfl, fun _ h => nomatch h⟩
  | some l => exact ⟨[.str l], rfl, fun _ h => by cases h; rfl⟩
theorem none_qM (m : Option (Str × Int)) : isNone (qM m) = m.isNone := by
  cases m with
  | none => rfl
  | some p => rfl
theorem okCheckDeed {f : Addr} {fd : FuncData} (F : Fun K "check_deed" "check_deed" sCheckDeed f fd) (T : Tx K mg cB cN) (cIsLine : Cal P w K mg base 1 "is_line" 1 rIsLine) : FnOk P w K mg base (L2N.CX P w) 2 f fd ["deed"] (spD K 1 (rCheckDeed cB)) := by
  refine fnD F scCheckDeed (by decide) fun cdv A outer s H E as o hr hl hR => ?_
  obtain ⟨d, rfl, hd, rfl⟩ := hR
  have hc : (cxOf (L2N.CX P w) P w K mg base nCheckDeed "check_deed" (defScope sCheckDeed) f cdv A outer s H E).calm = true := rfl
  have tk : L2N.Takes (cxOf (L2N.CX P w) P w K mg base nCheckDeed "check_deed" (defScope sCheckDeed) f cdv A outer s H E) (fun c d _ H' => E c d H') := L2N.takes_of rfl rfl rfl rfl
  obtain ⟨r, er, hl2⟩ := qD_tup d
  obtain ⟨hw, hcut, htl, hm⟩ := hd
  rw [er]
  have lw : d.w.length ≤ 1000 := hw.1
  refine sds_cons (sd_set (i := 1) ndCheckDeed rfl (loc_of loCheckDeed 1) (.inl rfl) (ed_ixT (ed_v loCheckDeed 0) ed_int (atI_nat (j := 0) rfl)) ?_)
  obtain ⟨t, ht1, ht2⟩ := T.words
  refine sds_cons (sd_if (et_c (cd_niT (zs := ["add", "cut", "set"])) (ed_v loCheckDeed 1) (ed_gtup (gl_of glCheckDeed 0) ht1 ht2 (fun F => IsAll.strs ["add", "cut", "set"]))) (fun hb => ?_) (fun hb => ?_))
  · have hbad : badDeed d = true := by unfold badDeed; rw [hb]; rfl
    rw [if_pos hbad]
    exact sds_one (sd_rz T.bad hc tk (gl_of glCheckDeed 1) (ed_fstr (zs := [_, _]) (.cons ed_str (.cons (ed_fmtR (ed_v loCheckDeed 1) (Nat.le_trans (sz_repr hw) (by decide))) .nil)) (by have := sz_repr hw; show 21 + ((reprText d.w).length + 0) ≤ _; omega)) rfl)
  · refine sds_nil ?_
    refine sds_cons (sd_if (et_w (ew_and (et_c cd_neS (ed_v loCheckDeed 1) ed_str) (fun _ => (ew_and1 (et_c cd_isN (ed_ixT (ed_v loCheckDeed 0) ed_int (atI_nat (j := 1) rfl)) ed_non))))) (fun hb2 => ?_) (fun hb2 => ?_))
    · have hbad : badDeed d = true := by unfold badDeed; rw [← none_qM, hb2]; simp
      rw [if_pos hbad]
      exact sds_one (sd_rz T.bad hc tk (gl_of glCheckDeed 1) (ed_fstr (zs := [_, _, _]) (.cons ed_str (.cons (ed_fmt (ed_v loCheckDeed 1) (by omega)) (.cons ed_str .nil))) (by show 2 + (d.w.length + (13 + 0)) ≤ _; omega)) rfl)
    · refine sds_nil ?_
      refine sds_cons (sd_if (et_w (ew_and (l := !(isLine (d.l.getD ""))) (et_c cd_neS (ed_v loCheckDeed 1) ed_str) (fun h => ?_))) (fun hb3 => ?_) (fun hb3 => ?_))
      · have hn : d.w ≠ "cut" := by simpa using h
        obtain ⟨l, el⟩ := Option.isSome_iff_exists.mp (hcut hn)
        have er2 := hl2 l el
        subst er2
        rw [el]
        exact ew_and1 (et_not (et_val (ed_call cIsLine (hr.mono (by decide)) (gl_of glCheckDeed 2) tk (ea_d (ed_ixT (ed_v loCheckDeed 0) ed_int (atI_nat (j := 2) rfl)) ea_nil) rfl ⟨l, rfl, htl l el, rfl⟩)))
      · have hbad : badDeed d = true := by unfold badDeed; rw [hb3]; simp
        have hn : d.w ≠ "cut" := by
          rw [Bool.and_eq_true] at hb3
          simpa using hb3.1
        obtain ⟨l, el⟩ := Option.isSome_iff_exists.mp (hcut hn)
        have er2 := hl2 l el
        subst er2
        rw [if_pos hbad]
        have hs := sz_repr (htl l el)
        exact sds_one (sd_rz T.bad hc tk (gl_of glCheckDeed 1) (ed_fstr (zs := [_, _]) (.cons (ed_fmtR (ed_ixT (ed_v loCheckDeed 0) ed_int (atI_nat (j := 2) rfl)) (Nat.le_trans hs (by decide))) (.cons ed_str .nil)) (by show (reprText l).length + (11 + 0) ≤ _; omega)) rfl)
      · have hbad : badDeed d = false := by
          unfold badDeed
          rw [← none_qM, hb, hb2, hb3]; rfl
        rw [hbad, if_neg Bool.false_ne_true]
        exact sds_nil (sds_nil rfl)
/-! ### check_deeds -/
abbrev sCheckDeeds : Stmt := topS 20
abbrev nCheckDeeds : List Str := ["deeds", "deed"]
theorem scCheckDeeds : FnScope nCheckDeeds ["deeds"] (defScope sCheckDeeds) := ⟨rfl, rfl, rfl, by decide +kernel, rfl, by decide +kernel, by decide +kernel⟩
theorem ndCheckDeeds : (nCheckDeeds).Nodup := scCheckDeeds.nd
theorem loCheckDeeds : (["deeds", "deed"] : List Str).all (locB (defScope sCheckDeeds)) = true := by decide +kernel
theorem glCheckDeeds : (["MOST_DEEDS", "len", "BadChange", "check_deed"] : List Str).all (glB (defScope sCheckDeeds)) = true := by decide +kernel
def rCheckDeeds (cB : Addr) : List Sl → DOut → Prop := fun as o => ∃ ds, as = [.sh (.list (ds.map qD))] ∧ ds.length ≤ 1000 ∧ (∀ d ∈ ds, DeedOk d) ∧ o = if badDeeds ds = true then .exc cB else .val .none
theorem log_small {n : Nat} (h : n ≤ 100000) : ((n : Int).natAbs).log2 < 1920 := by
  show n.log2 < 1920
  rcases Nat.eq_zero_or_pos n with rfl | hp
  · decide
  · exact (Nat.log2_lt (by omega)).mpr (Nat.lt_of_le_of_lt h (by decide +kernel))
theorem okCheckDeeds {f : Addr} {fd : FuncData} (F : Fun K "check_deeds" "check_deeds" sCheckDeeds f fd) (T : Tx K mg cB cN) (cCheckDeed : Cal P w K mg base 2 "check_deed" 1 (rCheckDeed cB)) : FnOk P w K mg base (L2N.CX P w) 3 f fd ["deeds"] (spD K 1 (rCheckDeeds cB)) := by
  refine fnD F scCheckDeeds (by decide) fun cdv A outer s H E as o hr hl hR => ?_
  obtain ⟨ds, rfl, hz, hd, rfl⟩ := hR
  have hc : (cxOf (L2N.CX P w) P w K mg base nCheckDeeds "check_deeds" (defScope sCheckDeeds) f cdv A outer s H E).calm = true := rfl
  have tk : L2N.Takes (cxOf (L2N.CX P w) P w K mg base nCheckDeeds "check_deeds" (defScope sCheckDeeds) f cdv A outer s H E) (fun c d _ H' => E c d H') := L2N.takes_of rfl rfl rfl rfl
  refine sds_cons (sd_if (et_c cd_gt (ed_len (ED.rd (ed_v loCheckDeeds 0)) (gl_of glCheckDeeds 1) T.len) (ed_gint (gl_of glCheckDeeds 0) T.deeds)) (fun hb => ?_) (fun hb => ?_))
  · have hlen : 20 < ds.length := by
      have h := of_decide_eq_true hb
      rw [List.length_map] at h
      omega
    have hbad : badDeeds ds = true := by unfold badDeeds; rw [decide_eq_true hlen]; rfl
    rw [if_pos hbad]
    have hmz : (ds.map qD).length ≤ 1000 := by rw [List.length_map]; exact hz
    refine sds_one (sd_rz T.bad hc tk (gl_of glCheckDeeds 2) (ed_fstr (zs := [_, _, _]) (.cons (ed_fmtI (ed_len (ED.rd (ed_v loCheckDeeds 0)) (gl_of glCheckDeeds 1) T.len) (log_small (by omega))) (.cons ed_str (.cons (ed_fmtI (ed_gint (gl_of glCheckDeeds 0) T.deeds) (by decide)) .nil))) ?_) rfl)
    have h1 := num_len hmz
    have h2 : (Str.ofString (toString (20 : Int))).length ≤ 10 := num_len (n := 20) (by decide)
    show (Str.ofString (toString (((ds.map qD).length : Nat) : Int))).length + (21 + ((Str.ofString (toString (20 : Int))).length + 0)) ≤ 100000
    omega
  · refine sds_nil ?_
    have hlen : ds.length ≤ 20 := by
      have h := of_decide_eq_false hb
      rw [List.length_map] at h
      omega
    refine sds_cons (sd_for (fun i ρ => ∃ s, ρ = [.sh (.list (ds.map qD)), s] ∧ (ds.take i).any badDeed = false) (L2.passes_of rfl) hc (j := 1) ndCheckDeeds rfl (loc_of loCheckDeeds 1) (.inl rfl) (ED.pst (ed_v loCheckDeeds 0)) ⟨_, rfl, by simp⟩ (fun i d ρ1 hi hI => ?_) (fun ρ1 hI => ?_))
    · obtain ⟨s1, rfl, hI⟩ := hI
      rw [List.getElem?_map] at hi
      cases hx : ds[i]? with
      | none => rw [hx] at hi; cases hi
      | some x =>
        rw [hx] at hi
        cases hi
        have hm : x ∈ ds := List.mem_of_getElem? hx
        cases hbx : badDeed x with
        | true =>
          have hbad : badDeeds ds = true := by
            unfold badDeeds
            rw [List.any_eq_true.mpr ⟨x, hm, hbx⟩, Bool.or_true]
          rw [if_pos hbad]
          exact sds_one (sd_exprX (ex_call cCheckDeed (hr.mono (by decide)) (gl_of glCheckDeeds 3) tk (ea_d (ed_v loCheckDeeds 1) ea_nil) rfl (D := cB) ⟨x, rfl, hd x hm, by rw [if_pos hbx]⟩ rfl))
        | false =>
          refine sds_cons (sd_expr (ed_call cCheckDeed (hr.mono (by decide)) (gl_of glCheckDeeds 3) tk (ea_d (ed_v loCheckDeeds 1) ea_nil) rfl ⟨x, rfl, hd x hm, by rw [hbx, if_neg Bool.false_ne_true]⟩) (sds_nil ⟨_, rfl, ?_⟩))
          rw [List.take_add_one, hx, List.any_append, hI]
          simp [hbx]
    · obtain ⟨s1, rfl, hI⟩ := hI
      rw [List.length_map, List.take_length] at hI
      have hbad : badDeeds ds = false := by
        unfold badDeeds
        rw [hI, decide_eq_false (by omega)]; rfl
      rw [hbad, if_neg Bool.false_ne_true]
      exact sds_nil rfl
/-! ### check_marks -/
abbrev sCheckMarks : Stmt := topS 22
abbrev nCheckMarks : List Str := ["name", "leans", "deeds", "deed", "mark"]
theorem scCheckMarks : FnScope nCheckMarks ["name", "leans", "deeds"] (defScope sCheckMarks) := ⟨rfl, rfl, rfl, by decide +kernel, rfl, by decide +kernel, by decide +kernel⟩
theorem ndCheckMarks : (nCheckMarks).Nodup := scCheckMarks.nd
theorem loCheckMarks : (["name", "leans", "deeds", "deed", "mark"] : List Str).all (locB (defScope sCheckMarks)) = true := by decide +kernel
theorem glCheckMarks : (["NotLeaned"] : List Str).all (glB (defScope sCheckMarks)) = true := by decide +kernel
def rCheckMarks (cN : Addr) : List Sl → DOut → Prop := fun as o => ∃ c, as = [.sh (.str c.n), .sh (.list (c.ls.map .str)), .sh (.list (c.ds.map qD))] ∧ ChangeOk c ∧ o = if c.ds.any (notLeaned c.n c.ls) = true then .exc cN else .val .none
theorem okCheckMarks {f : Addr} {fd : FuncData} (F : Fun K "check_marks" "check_marks" sCheckMarks f fd) (T : Tx K mg cB cN) : FnOk P w K mg base (L2N.CX P w) 1 f fd ["name", "leans", "deeds"] (spD K 3 (rCheckMarks cN)) := by
  refine fnD F scCheckMarks (by decide) fun cdv A outer s H E as o hr hl hR => ?_
  obtain ⟨c, rfl, ok, rfl⟩ := hR
  obtain ⟨n, ls, ds⟩ := c
  obtain ⟨hn, hls, hll, hdl, hds⟩ := ok
  dsimp only at hn hls hll hdl hds ⊢
  have hc : (cxOf (L2N.CX P w) P w K mg base nCheckMarks "check_marks" (defScope sCheckMarks) f cdv A outer s H E).calm = true := rfl
  have tk : L2N.Takes (cxOf (L2N.CX P w) P w K mg base nCheckMarks "check_marks" (defScope sCheckMarks) f cdv A outer s H E) (fun c d _ H' => E c d H') := L2N.takes_of rfl rfl rfl rfl
  refine sds_cons (sd_for (fun i ρ => ∃ s1 s2, ρ = [.sh (.str n), .sh (.list (ls.map .str)), .sh (.list (ds.map qD)), s1, s2] ∧ (ds.take i).any (notLeaned n ls) = false) (L2.passes_of rfl) hc (j := 3) ndCheckMarks rfl (loc_of loCheckMarks 3) (.inl rfl) (ED.pst (ed_v loCheckMarks 2)) ⟨_, _, rfl, by simp⟩ (fun i d ρ1 hi hI => ?_) (fun ρ1 hI => ?_))
  · obtain ⟨s1, s2, rfl, hI⟩ := hI
    rw [List.getElem?_map] at hi
    cases hx : ds[i]? with
    | none => rw [hx] at hi; cases hi
    | some x =>
      rw [hx] at hi
      cases hi
      have hm : x ∈ ds := List.mem_of_getElem? hx
      obtain ⟨r, er, _⟩ := qD_tup x
      obtain ⟨_, _, _, hxm⟩ := hds x hm
      rw [er]
      have more : ∀ b, notLeaned n ls x = b → (ds.take (i + 1)).any (notLeaned n ls) = b := fun b hb => by
        rw [List.take_add_one, hx, List.any_append, hI]
        simp [hb]
      refine sds_cons (sd_set (i := 4) ndCheckMarks rfl (loc_of loCheckMarks 4) (.inl rfl) (ed_ixT (ed_v loCheckMarks 3) ed_int (atI_nat (j := 1) rfl)) ?_)
      cases em : x.m with
      | none =>
        refine sds_cons (sd_if (et_w (ew_and (l := false) (et_c cd_notN (ed_v loCheckMarks 4) ed_non) (fun h => by cases h))) (fun hb => by cases hb) (fun hb => ?_))
        exact sds_nil (sds_nil ⟨_, _, rfl, more false (by unfold notLeaned; rw [em])⟩)
      | some y =>
        obtain ⟨z, k⟩ := y
        have hz := hxm z k em
        refine sds_cons (sd_if (et_w (ew_and (et_c cd_notN (ed_v loCheckMarks 4) ed_non) (fun _ => (ew_and (et_c cd_neS (ed_ixT (ds := [.str z, .int k]) (ed_v loCheckMarks 4) ed_int (atI_nat (j := 0) rfl)) (ed_v loCheckMarks 0)) (fun _ => (ew_and1 (et_niL (ed_ixT (ds := [.str z, .int k]) (ed_v loCheckMarks 4) ed_int (atI_nat (j := 0) rfl)) (ED.rd (ed_v loCheckMarks 1))))))))) (fun hb => ?_) (fun hb => ?_))
        · have hnl : notLeaned n ls x = true := by unfold notLeaned; rw [em]; simpa [isNone, qM, qMk] using hb
          have hbad : ds.any (notLeaned n ls) = true := List.any_eq_true.mpr ⟨x, hm, hnl⟩
          rw [if_pos hbad]
          have h1 := hn.1
          have h2 := sz_repr hz
          exact sds_one (sd_rz T.not hc tk (gl_of glCheckMarks 0) (ed_fstr (zs := [_, _, _]) (.cons (ed_fmt (ed_v loCheckMarks 0) (by omega)) (.cons ed_str (.cons (ed_fmtR (ed_ixT (ds := [.str z, .int k]) (ed_v loCheckMarks 4) ed_int (atI_nat (j := 0) rfl)) (Nat.le_trans h2 (by decide))) .nil))) (by show n.length + (18 + ((reprText z).length + 0)) ≤ _; omega)) rfl)
        · refine sds_nil (sds_nil ⟨_, _, rfl, more false ?_⟩)
          unfold notLeaned; rw [em]; simpa [isNone, qM, qMk] using hb
  · obtain ⟨s1, s2, rfl, hI⟩ := hI
    rw [List.length_map, List.take_length] at hI
    rw [hI, if_neg Bool.false_ne_true]
    exact sds_nil rfl
/-! ### check_names -/
abbrev sCheckNames : Stmt := topS 19
abbrev nCheckNames : List Str := ["name", "leans", "text", "low", "high"]
theorem scCheckNames : FnScope nCheckNames ["name", "leans"] (defScope sCheckNames) := ⟨rfl, rfl, rfl, by decide +kernel, rfl, by decide +kernel, by decide +kernel⟩
theorem ndCheckNames : (nCheckNames).Nodup := scCheckNames.nd
theorem loCheckNames : (["name", "leans", "text", "low", "high"] : List Str).all (locB (defScope sCheckNames)) = true := by decide +kernel
theorem glCheckNames : (["zip", "BadChange", "is_name"] : List Str).all (glB (defScope sCheckNames)) = true := by decide +kernel
def rCheckNames (cB : Addr) : List Sl → DOut → Prop := fun as o => ∃ n ls, as = [.sh (.str n), .sh (.list (ls.map .str))] ∧ Tx0 n ∧ (∀ z ∈ ls, Tx0 z) ∧ ls.length ≤ 1000 ∧ o = if badNames n ls = true then .exc cB else .val .none
theorem rising_at : ∀ {ls : List Str}, rising ls = true ↔ ∀ (i : Nat) (a b : Str), ls[i]? = some a → ls[i + 1]? = some b → a.cps.toList < b.cps.toList
  | [] => ⟨fun _ i a b h => by simp at h, fun _ => rfl⟩
  | [_] => ⟨fun _ i a b _ h => by simp at h, fun _ => rfl⟩
  | x :: y :: r => by
    have ih := @rising_at (y :: r)
    constructor
    · intro h i a b ha hb
      unfold rising at h
      rw [Bool.and_eq_true] at h
      cases i with
      | zero => cases ha; cases hb; exact of_decide_eq_true h.1
      | succ i => exact ih.mp h.2 i a b ha hb
    · intro h
      unfold rising
      rw [Bool.and_eq_true]
      exact ⟨decide_eq_true (h 0 x y rfl rfl), ih.mpr fun i a b ha hb => h (i + 1) a b ha hb⟩
theorem okCheckNames {f : Addr} {fd : FuncData} (F : Fun K "check_names" "check_names" sCheckNames f fd) (T : Tx K mg cB cN) (cIsName : Cal P w K mg base 1 "is_name" 1 rIsName) : FnOk P w K mg base (L2N.CX P w) 2 f fd ["name", "leans"] (spD K 2 (rCheckNames cB)) := by
  refine fnD F scCheckNames (by decide) fun cdv A outer s H E as o hr hl hR => ?_
  obtain ⟨n, ls, rfl, hn, hls, hll, rfl⟩ := hR
  have hc : (cxOf (L2N.CX P w) P w K mg base nCheckNames "check_names" (defScope sCheckNames) f cdv A outer s H E).calm = true := rfl
  have tk : L2N.Takes (cxOf (L2N.CX P w) P w K mg base nCheckNames "check_names" (defScope sCheckNames) f cdv A outer s H E) (fun c d _ H' => E c d H') := L2N.takes_of rfl rfl rfl rfl
  have hall : ∀ z ∈ n :: ls, Tx0 z := fun z hz => by
    rcases List.mem_cons.mp hz with rfl | hz
    · exact hn
    · exact hls z hz
  -- each is a name
  refine sds_cons (sd_for (fun i ρ => ∃ s1, ρ = [.sh (.str n), .sh (.list (ls.map .str)), s1, .un, .un] ∧ ((n :: ls).take i).all isName = true) (L2.passes_of rfl) hc (j := 2) ndCheckNames rfl (loc_of loCheckNames 2) (.inl rfl)
    (EL.pst (el_lst (ds := (n :: ls).map .str) (by
      have h : (((n :: ls).map PyData.str).map Sl.sh) = .sh (.str n) :: ((ls.map PyData.str).map Sl.sh ++ []) := by simp
      rw [h]
      exact ea_d (ed_v loCheckNames 0) (ea_star (ED.rd (ed_v loCheckNames 1)) ea_nil)) (by rw [List.length_map, List.length_cons]; omega))) ⟨_, rfl, by simp⟩ (fun i d ρ1 hi hI => ?_) (fun ρ1 hI => ?_))
  · obtain ⟨s1, rfl, hI⟩ := hI
    rw [List.getElem?_map] at hi
    cases hx : (n :: ls)[i]? with
    | none => rw [hx] at hi; cases hi
    | some x =>
      rw [hx] at hi
      cases hi
      have hm : x ∈ n :: ls := List.mem_of_getElem? hx
      refine sds_cons (sd_if (et_not (et_val (ed_call cIsName (hr.mono (by decide)) (gl_of glCheckNames 2) tk (ea_d (ed_v loCheckNames 2) ea_nil) rfl ⟨x, rfl, hall x hm, rfl⟩))) (fun hb => ?_) (fun hb => ?_))
      · have hx0 : isName x = false := by simpa using hb
        have hbad : badNames n ls = true := by
          unfold badNames
          have : (n :: ls).all isName = false := by
            rw [← Bool.not_eq_true, List.all_eq_true]
            intro h
            rw [h x hm] at hx0; cases hx0
          rw [this]; rfl
        rw [if_pos hbad]
        have h2 := sz_repr (hall x hm)
        exact sds_one (sd_rz T.bad hc tk (gl_of glCheckNames 1) (ed_fstr (zs := [_, _]) (.cons (ed_fmtR (ed_v loCheckNames 2) (Nat.le_trans h2 (by decide))) (.cons ed_str .nil)) (by show (reprText x).length + (11 + 0) ≤ _; omega)) rfl)
      · refine sds_nil (sds_nil ⟨_, rfl, ?_⟩)
        rw [List.take_add_one, hx, List.all_append, hI]
        have : isName x = true := by simpa using hb
        simp [this]
  · obtain ⟨s1, rfl, hI⟩ := hI
    rw [List.length_map, List.take_length] at hI
    -- each is less than the next
    refine sds_cons (sd_zip (fun i ρ => ∃ s1 s2 s3, ρ = [.sh (.str n), .sh (.list (ls.map .str)), s1, s2, s3] ∧ ∀ j, j < i → ∀ a b : Str, ls[j]? = some a → ls[j + 1]? = some b → a.cps.toList < b.cps.toList) (L2.passes_of rfl) hc
      (gu_tup hc (gus_cons (gu_name (j := 3) ndCheckNames rfl (loc_of loCheckNames 3) (.inl rfl)) (gus_cons (gu_name (j := 4) ndCheckNames rfl (loc_of loCheckNames 4) (.inl rfl)) gus_nil))) (gl_of glCheckNames 0) T.zip
      (ED.pst (ed_v loCheckNames 1)) (EL.pst (el_cut (l := some 1) (u := none) (ED.rd (ed_v loCheckNames 1)) ed_int trivial)) ⟨_, _, _, rfl, fun j h => absurd h (Nat.not_lt_zero j)⟩ (fun i d1 d2 ρ1 hi1 hi2 hI2 => ?_) (fun ρ1 hI2 => ?_))
    · obtain ⟨s1, s2, s3, rfl, hI2⟩ := hI2
      have ecut : ∀ k, (PD.cutD (ls.map PyData.str) (some 1) none)[k]? = (ls.map PyData.str)[k + 1]? := fun k => by
        unfold PD.cutD
        rw [show HT.sIx (ls.map PyData.str).length 0 (some 1) = min 1 (ls.map PyData.str).length from HT.sIx_nat _ 0 1, HT.sIx_none]
        cases ls with
        | nil => simp
        | cons a r =>
          rw [show min 1 ((a :: r).map PyData.str).length = 1 from by simp]
          rw [List.getElem?_take]
          simp only [List.map_cons, List.length_cons, List.drop_succ_cons, List.drop_zero, List.getElem?_cons_succ, Nat.add_sub_cancel]
          split
          · rfl
          · rename_i hk
            exact (List.getElem?_eq_none (by omega)).symm
      rw [ecut, List.getElem?_map] at hi2
      rw [List.getElem?_map] at hi1
      cases ha : ls[i]? with
      | none => rw [ha] at hi1; cases hi1
      | some a =>
      cases hb0 : ls[i + 1]? with
      | none => rw [hb0] at hi2; cases hi2
      | some b =>
      rw [ha] at hi1
      rw [hb0] at hi2
      cases hi1
      cases hi2
      refine ⟨_, ⟨_, rfl, rfl, _, _, _, rfl, rfl, _, _, _, rfl, rfl, rfl, rfl⟩, ?_⟩
      refine sds_cons (sd_if (et_c cd_geS (ed_v loCheckNames 3) (ed_v loCheckNames 4)) (fun hb => ?_) (fun hb => ?_))
      · have hge : ¬ a.cps.toList < b.cps.toList := by simpa using hb
        have hbad : badNames n ls = true := by
          unfold badNames
          have : rising ls = false := by
            rw [← Bool.not_eq_true, rising_at]
            exact fun h => hge (h i a b ha hb0)
          rw [this]; simp
        rw [if_pos hbad]
        have la := (hls a (List.mem_of_getElem? ha)).1
        have lb := (hls b (List.mem_of_getElem? hb0)).1
        exact sds_one (sd_rz T.bad hc tk (gl_of glCheckNames 1) (ed_fstr (zs := [_, _, _, _]) (.cons ed_str (.cons (ed_fmt (ed_v loCheckNames 3) (by omega)) (.cons ed_str (.cons (ed_fmt (ed_v loCheckNames 4) (by omega)) .nil)))) (by show 27 + (a.length + (4 + (b.length + 0))) ≤ _; omega)) rfl)
      · refine sds_nil (sds_nil ⟨_, _, _, rfl, fun j hj a' b' ha' hb' => ?_⟩)
        rcases Nat.lt_or_ge j i with h | h
        · exact hI2 j h a' b' ha' hb'
        · have ej : j = i := by omega
          subst ej
          rw [ha] at ha'; rw [hb0] at hb'
          cases ha'; cases hb'
          simpa using hb
    · obtain ⟨s1, s2, s3, rfl, hI2⟩ := hI2
      have hris : rising ls = true := rising_at.mpr fun i a b ha hb => by
        refine hI2 i ?_ a b ha hb
        have h1 := (List.getElem?_eq_some_iff.mp hb).1
        have h2 : (PD.cutD (ls.map PyData.str) (some 1) none).length = ls.length - 1 := by
          unfold PD.cutD
          rw [show HT.sIx (ls.map PyData.str).length 0 (some 1) = min 1 (ls.map PyData.str).length from HT.sIx_nat _ 0 1, HT.sIx_none, List.length_take, List.length_drop, List.length_map]
          omega
        rw [h2, List.length_map]
        omega
      refine sds_cons (sd_if (et_inL (ed_v loCheckNames 0) (ED.rd (ed_v loCheckNames 1))) (fun hb => ?_) (fun hb => ?_))
      · have hbad : badNames n ls = true := by unfold badNames; rw [hb]; simp
        rw [if_pos hbad]
        have h1 := hn.1
        exact sds_one (sd_rz T.bad hc tk (gl_of glCheckNames 1) (ed_fstr (zs := [_, _]) (.cons (ed_fmt (ed_v loCheckNames 0) (by omega)) (.cons ed_str .nil)) (by show n.length + (16 + 0) ≤ _; omega)) rfl)
      · have hbad : badNames n ls = false := by unfold badNames; rw [hI, hris, hb]; rfl
        rw [hbad, if_neg Bool.false_ne_true]
        exact sds_nil (sds_nil rfl)
end
end K3
namespace K3
open PySem L2 PD PyProof.Rows LW
section
variable {P : Program} {w : World} {K : PySem.W.Frag} {mg : Str → Option Value} {base : Heap} {cB cN : Addr}
/-! ### check -/
abbrev sCheck : Stmt := topS 18
abbrev nCheck : List Str := ["change", "name", "leans", "deeds"]
theorem scCheck : FnScope nCheck ["change"] (defScope sCheck) := ⟨rfl, rfl, rfl, by decide +kernel, rfl, by decide +kernel, by decide +kernel⟩
theorem ndCheck : (nCheck).Nodup := scCheck.nd
theorem loCheck : (["change", "name", "leans", "deeds"] : List Str).all (locB (defScope sCheck)) = true := by decide +kernel
theorem glCheck : (["check_names", "check_deeds", "check_marks"] : List Str).all (glB (defScope sCheck)) = true := by decide +kernel
/-- what check says: nothing, BadChange, NotLeaned -/
def chk (c : Change) : Option Bool := if badNames c.n c.ls = true then some true else if badDeeds c.ds = true then some true else if c.ds.any (notLeaned c.n c.ls) = true then some false else none
def outChk (cB cN : Addr) : Option Bool → DOut
  | none => .val .none
  | some true => .exc cB
  | some false => .exc cN
def rCheck (cB cN : Addr) : List Sl → DOut → Prop := fun as o => ∃ c, as = [.sh (qC c)] ∧ ChangeOk c ∧ o = outChk cB cN (chk c)
theorem okCheck {f : Addr} {fd : FuncData} (F : Fun K "check" "check" sCheck f fd) (cCheckNames : Cal P w K mg base 2 "check_names" 2 (rCheckNames cB)) (cCheckDeeds : Cal P w K mg base 3 "check_deeds" 1 (rCheckDeeds cB)) (cCheckMarks : Cal P w K mg base 1 "check_marks" 3 (rCheckMarks cN)) : FnOk P w K mg base (L2N.CX P w) 4 f fd ["change"] (spD K 1 (rCheck cB cN)) := by
  refine fnD F scCheck (by decide) fun cdv A outer s H E as o hr hl hR => ?_
  obtain ⟨c, rfl, ok, rfl⟩ := hR
  have hc : (cxOf (L2N.CX P w) P w K mg base nCheck "check" (defScope sCheck) f cdv A outer s H E).calm = true := rfl
  have tk : L2N.Takes (cxOf (L2N.CX P w) P w K mg base nCheck "check" (defScope sCheck) f cdv A outer s H E) (fun c d _ H' => E c d H') := L2N.takes_of rfl rfl rfl rfl
  obtain ⟨hn, hls, hll, hdl, hds⟩ := id ok
  refine sds_cons (sd_asg (ed_v loCheck 0) (gu_tup hc (gus_cons (gu_name (j := 1) ndCheck rfl (loc_of loCheck 1) (.inl rfl)) (gus_cons (gu_name (j := 2) ndCheck rfl (loc_of loCheck 2) (.inl rfl)) (gus_cons (gu_name (j := 3) ndCheck rfl (loc_of loCheck 3) (.inl rfl)) gus_nil)))) ⟨_, rfl, rfl, _, _, _, rfl, rfl, _, _, _, rfl, rfl, _, _, _, rfl, rfl, rfl, rfl⟩ ?_)
  cases h1 : badNames c.n c.ls with
  | true =>
    have e : chk c = some true := by unfold chk; rw [if_pos h1]
    rw [e]
    exact sds_cons (sd_exprX (ex_call cCheckNames (hr.mono (by decide)) (gl_of glCheck 0) tk (ea_d (ed_v loCheck 1) (ea_d (ed_v loCheck 2) ea_nil)) rfl (D := cB) ⟨c.n, c.ls, rfl, hn, hls, hll, by rw [if_pos h1]⟩ rfl))
  | false =>
    refine sds_cons (sd_expr (ed_call cCheckNames (hr.mono (by decide)) (gl_of glCheck 0) tk (ea_d (ed_v loCheck 1) (ea_d (ed_v loCheck 2) ea_nil)) rfl ⟨c.n, c.ls, rfl, hn, hls, hll, by rw [h1, if_neg Bool.false_ne_true]⟩) ?_)
    cases h2 : badDeeds c.ds with
    | true =>
      have e : chk c = some true := by unfold chk; rw [h1, if_neg Bool.false_ne_true, if_pos h2]
      rw [e]
      exact sds_cons (sd_exprX (ex_call cCheckDeeds (hr.mono (by decide)) (gl_of glCheck 1) tk (ea_d (ed_v loCheck 3) ea_nil) rfl (D := cB) ⟨c.ds, rfl, hdl, hds, by rw [if_pos h2]⟩ rfl))
    | false =>
      refine sds_cons (sd_expr (ed_call cCheckDeeds (hr.mono (by decide)) (gl_of glCheck 1) tk (ea_d (ed_v loCheck 3) ea_nil) rfl ⟨c.ds, rfl, hdl, hds, by rw [h2, if_neg Bool.false_ne_true]⟩) ?_)
      cases h3 : c.ds.any (notLeaned c.n c.ls) with
      | true =>
        have e : chk c = some false := by unfold chk; rw [h1, if_neg Bool.false_ne_true, h2, if_neg Bool.false_ne_true, if_pos h3]
        rw [e]
        exact sds_cons (sd_exprX (ex_call cCheckMarks (hr.mono (by decide)) (gl_of glCheck 2) tk (ea_d (ed_v loCheck 1) (ea_d (ed_v loCheck 2) (ea_d (ed_v loCheck 3) ea_nil))) rfl (D := cN) ⟨c, rfl, ok, by rw [if_pos h3]⟩ rfl))
      | false =>
        have e : chk c = none := by unfold chk; rw [h1, if_neg Bool.false_ne_true, h2, if_neg Bool.false_ne_true, h3, if_neg Bool.false_ne_true]
        rw [e]
        exact sds_cons (sd_expr (ed_call cCheckMarks (hr.mono (by decide)) (gl_of glCheck 2) tk (ea_d (ed_v loCheck 1) (ea_d (ed_v loCheck 2) (ea_d (ed_v loCheck 3) ea_nil))) rfl ⟨c, rfl, ok, by rw [h3, if_neg Bool.false_ne_true]⟩) (sds_nil rfl))
end
end K3

set_option maxHeartbeats 4000000
namespace K3
open PySem L2 PD PyProof.Rows LW
structure TxN (K : PySem.W.Frag) (mg : Str → Option Value) (cX : Addr) : Prop where
  len : mg "len" = none
  all : mg "all" = none
  int : mg "int" = none
  figs : ∃ t, mg "FIGURES" = some (.str figs t)
  most : ∃ t, mg "MOST_FIGURES" = some (.int 9 t)
  top : ∃ t, mg "TOP" = some (.str "-" t)
  note : Er K mg "NoNote" cX
section
variable {P : Program} {w : World} {K : PySem.W.Frag} {mg : Str → Option Value} {base : Heap} {cB cN cX : Addr}
/-! is_number -/
abbrev sIsNumber : Stmt := topS 31
abbrev nIsNumber : List Str := ["text", "sign"]
theorem scIsNumber : FnScope nIsNumber ["text"] (defScope sIsNumber) := ⟨rfl, rfl, rfl, by decide +kernel, rfl, by decide +kernel, by decide +kernel⟩
theorem ndIsNumber : (nIsNumber).Nodup := scIsNumber.nd
theorem loIsNumber : (["text"] : List Str).all (locB (defScope sIsNumber)) = true := by decide +kernel
theorem glIsNumber : (["len", "MOST_FIGURES", "all"] : List Str).all (glB (defScope sIsNumber)) = true := by decide +kernel
def rIsNumber : List Sl → DOut → Prop := fun as o => ∃ z, as = [.sh (.str z)] ∧ Tx0 z ∧ o = .val (.bool (isNum z))
theorem okIsNumber {f : Addr} {fd : FuncData} (F : Fun K "is_number" "is_number" sIsNumber f fd) (T : TxN K mg cX) : FnOk P w K mg base (L2N.CX P w) 1 f fd ["text"] (spD K 1 rIsNumber) := by
  refine fnD F scIsNumber (by decide) fun cdv A outer s H E as o hr hl hR => ?_
  obtain ⟨z, rfl, hz, rfl⟩ := hR
  have hc : (cxOf (L2N.CX P w) P w K mg base nIsNumber "is_number" (defScope sIsNumber) f cdv A outer s H E).calm = true := rfl
  have lz : z.length ≤ 1000 := hz.1
  refine sds_cons (sd_if (et_w (ew_or (et_c cd_eqS (ed_v loIsNumber 0) ed_str) (fun _ => (ew_or1 (et_c cd_gt (ed_lenS (ed_v loIsNumber 0) (by omega) (gl_of glIsNumber 0) T.len) (ed_gint (gl_of glIsNumber 1) T.most)))))) (fun hb => ?_) (fun hb => ?_))
  · refine sds_one (sd_ret ed_bl ?_)
    show PyData.bool false = .bool (isNum z)
    unfold isNum
    rw [hb]; rfl
  refine sds_nil ?_
  have hne : ¬ z = "" := of_decide_eq_false (Bool.or_eq_false_iff.mp hb).1
  have h0 : atI (cs z) 0 = some ((cs z).getD 0 0) := by
    cases e : cs z with
    | nil => exact absurd (cs_ext (x := z) (y := "") e) hne
    | cons a r => exact atI_nat (j := 0) rfl
  refine sds_cons (sd_if (et_w (ew_and (et_c cd_eqS (ed_ixS (ed_v loIsNumber 0) ed_int (by omega) h0) ed_str) (fun _ => (ew_and1 (et_c cd_neS (ed_v loIsNumber 0) ed_str))))) (fun hb2 => ?_) (fun hb2 => ?_))
  · refine sds_one (sd_ret ed_bl ?_)
    show PyData.bool false = .bool (isNum z)
    unfold isNum chS
    rw [hb2, hb]; rfl
  refine sds_nil ?_
  refine sds_one (sd_ret (ed_all (bs := z.cps.toList.map fun c => decide (c ∈ figs.cps.toList)) hc (EL.rd (EL.to (el_lcS (j := 1) ⟨hc, ndIsNumber, blkOk_by (N := nIsNumber) (sc := defScope sIsNumber) (by decide +kernel), by decide, rfl, rfl, by intro _; rfl⟩ (fun _ => true) _ (ed_v loIsNumber 0) (by omega) (fun x hx s H C cl fp => rfl) (fun x hx _ s H C cl fp => (ed_c cd_inC (ed_b 1) (ed_gstr gl_b T.figs)))) (by rw [lc_all, List.map_map]; rfl))) (gl_of glIsNumber 2) T.all) ?_)
  show PyData.bool _ = .bool (isNum z)
  unfold isNum chS
  rw [hb2, hb, List.all_map]; rfl
theorem words_rd {t : Str} {p : Str} (ht : Tx0 t) (h : p ∈ Txt.split t " ") : Tx0 p := (split_sub (y := " ") (by decide +kernel) (by decide +kernel) h).tx ht
theorem one_blank : ((" " : Str).length == 0) = false := by decide +kernel
theorem one_colon : ((": " : Str).length == 0) = false := by decide +kernel
theorem one_end : (("\n" : Str).length == 0) = false := by decide +kernel
theorem at_strs {zs : List Str} {i : Nat} {x : Str} (h : zs[i]? = some x) : atI (zs.map PyData.str) (i : Int) = some (.str x) := atI_nat (by rw [List.getElem?_map, h]; rfl)
/-! read_mark -/
abbrev sReadMark : Stmt := topS 30
abbrev nReadMark : List Str := ["text", "words"]
theorem scReadMark : FnScope nReadMark ["text"] (defScope sReadMark) := ⟨rfl, rfl, rfl, by decide +kernel, rfl, by decide +kernel, by decide +kernel⟩
theorem ndReadMark : (nReadMark).Nodup := scReadMark.nd
theorem loReadMark : (["text", "words"] : List Str).all (locB (defScope sReadMark)) = true := by decide +kernel
theorem glReadMark : (["TOP", "len", "is_number", "NoNote", "int"] : List Str).all (glB (defScope sReadMark)) = true := by decide +kernel
def outM (cX : Addr) : Option (Option (Str × Int)) → DOut
  | none => .exc cX
  | some m => .val (qM m)
def rReadMark (cX : Addr) : List Sl → DOut → Prop := fun as o => ∃ t, as = [.sh (.str t)] ∧ Tx0 t ∧ o = outM cX (readMark t)
theorem okReadMark {f : Addr} {fd : FuncData} (F : Fun K "read_mark" "read_mark" sReadMark f fd) (T : TxN K mg cX) (cIsNumber : Cal P w K mg base 1 "is_number" 1 rIsNumber) : FnOk P w K mg base (L2N.CX P w) 2 f fd ["text"] (spD K 1 (rReadMark cX)) := by
  refine fnD F scReadMark (by decide) fun cdv A outer s H E as o hr hl hR => ?_
  obtain ⟨t, rfl, ht, rfl⟩ := hR
  have hc : (cxOf (L2N.CX P w) P w K mg base nReadMark "read_mark" (defScope sReadMark) f cdv A outer s H E).calm = true := rfl
  have tk : L2N.Takes (cxOf (L2N.CX P w) P w K mg base nReadMark "read_mark" (defScope sReadMark) f cdv A outer s H E) (fun c d _ H' => E c d H') := L2N.takes_of rfl rfl rfl rfl
  have lt : t.length ≤ 1000 := ht.1
  have h2 := sz_repr ht
  have hin : (": " : Str).length = 2 := by decide +kernel
  refine sds_cons (sd_if (et_c cd_eqS (ed_v loReadMark 0) (ed_gstr (gl_of glReadMark 0) T.top)) (fun hb => ?_) (fun hb => ?_))
  · have e : readMark t = some none := by unfold readMark; rw [if_pos hb]
    exact sds_one (sd_ret ed_non (by show (deOf (outM cX (readMark t))).rt _; rw [e]; rfl))
  refine sds_nil ?_
  have e : readMark t = match Txt.split t " " with
    | [a, b] => if isNum b = true then some (some (a, (PySem.intText? b).getD 0)) else none
    | _ => none := by unfold readMark; rw [hb, if_neg Bool.false_ne_true]; try rfl
  have hw := fun p (h : p ∈ Txt.split t " ") => words_rd ht h
  generalize hws : Txt.split t " " = ws at *
  refine sds_cons (sd_setL (i := 1) ndReadMark rfl (loc_of loReadMark 1) (.inl rfl) (EL.to (el_split (ed_v loReadMark 0) ed_str one_blank (by omega)) (by rw [hws])) (fun r1 => ?_))
  match ws, hw with
  | [a, b], hw =>
    have hb1 := hw b (List.mem_cons_of_mem _ (List.mem_singleton.mpr rfl))
    refine sds_cons (sd_if (et_w (ew_or (l := !isNum b) (et_c cd_neI (ed_len (eb_v loReadMark 1) (gl_of glReadMark 1) T.len) ed_int) (fun _ => (ew_or1 (et_not (et_val (ed_call cIsNumber (hr.mono (by decide)) (gl_of glReadMark 2) tk (ea_d (ed_ixL (eb_v loReadMark 1) ed_int (atI_nat (j := 1) rfl)) ea_nil) rfl ⟨b, rfl, hb1, rfl⟩))))))) (fun hb2 => ?_) (fun hb2 => ?_))
    · have hn : isNum b = false := by simpa using hb2
      have e2 : readMark t = none := by rw [e]; show (if isNum b = true then some (some (a, (PySem.intText? b).getD 0)) else none) = none; rw [hn, if_neg Bool.false_ne_true]
      exact sds_one (sd_rz T.note hc tk (gl_of glReadMark 3) (ed_fstr (zs := [_, _]) (.cons (ed_fmtR (ed_v loReadMark 0) (Nat.le_trans h2 (by decide))) (.cons ed_str .nil)) (short2 h2 (by decide +kernel))) (by show (deOf (outM cX (readMark t))).ex cX _; rw [e2]; rfl))
    · have hn : isNum b = true := by simpa using hb2
      have e2 : readMark t = some (some (a, (PySem.intText? b).getD 0)) := by rw [e]; show (if isNum b = true then some (some (a, (PySem.intText? b).getD 0)) else none) = _; rw [hn, if_pos rfl]
      obtain ⟨n1, n2⟩ := num_int hn
      refine sds_nil ?_
      exact sds_one (sd_ret (ed_tup (ds := [_, _]) (ea_d (ed_ixL (eb_v loReadMark 1) ed_int (atI_nat (j := 0) rfl)) (ea_d (ed_intS (ed_ixL (eb_v loReadMark 1) ed_int (atI_nat (j := 1) rfl)) n1 (by omega) (gl_of glReadMark 4) T.int) ea_nil)) le_b) (by show (deOf (outM cX (readMark t))).rt _; rw [e2]; rfl))
  | [], hw =>
    have e2 : readMark t = none := e
    refine sds_cons (sd_if (et_w (ew_or (l := true) (et_c cd_neI (ed_len (eb_v loReadMark 1) (gl_of glReadMark 1) T.len) ed_int) (fun h => by cases h))) (fun hb2 => ?_) (fun hb2 => by cases hb2))
    exact sds_one (sd_rz T.note hc tk (gl_of glReadMark 3) (ed_fstr (zs := [_, _]) (.cons (ed_fmtR (ed_v loReadMark 0) (Nat.le_trans h2 (by decide))) (.cons ed_str .nil)) (short2 h2 (by decide +kernel))) (by show (deOf (outM cX (readMark t))).ex cX _; rw [e2]; rfl))
  | [a], hw =>
    have e2 : readMark t = none := e
    refine sds_cons (sd_if (et_w (ew_or (l := true) (et_c cd_neI (ed_len (eb_v loReadMark 1) (gl_of glReadMark 1) T.len) ed_int) (fun h => by cases h))) (fun hb2 => ?_) (fun hb2 => by cases hb2))
    exact sds_one (sd_rz T.note hc tk (gl_of glReadMark 3) (ed_fstr (zs := [_, _]) (.cons (ed_fmtR (ed_v loReadMark 0) (Nat.le_trans h2 (by decide))) (.cons ed_str .nil)) (short2 h2 (by decide +kernel))) (by show (deOf (outM cX (readMark t))).ex cX _; rw [e2]; rfl))
  | a :: b :: c :: r, hw =>
    have e2 : readMark t = none := e
    have hk : (!decide ((((a :: b :: c :: r).map PyData.str).length : Int) = 2)) = true := by simp; omega
    refine sds_cons (sd_if (et_w (ew_or (l := true) (et_c cd_neI (ed_len (eb_v loReadMark 1) (gl_of glReadMark 1) T.len) ed_int) (fun h => by rw [hk] at h; cases h))) (fun hb2 => ?_) (fun hb2 => by rw [hk] at hb2; cases hb2))
    exact sds_one (sd_rz T.note hc tk (gl_of glReadMark 3) (ed_fstr (zs := [_, _]) (.cons (ed_fmtR (ed_v loReadMark 0) (Nat.le_trans h2 (by decide))) (.cons ed_str .nil)) (short2 h2 (by decide +kernel))) (by show (deOf (outM cX (readMark t))).ex cX _; rw [e2]; rfl))
/-! read_head -/
abbrev sReadHead : Stmt := topS 28
abbrev nReadHead : List Str := ["row", "words"]
theorem scReadHead : FnScope nReadHead ["row"] (defScope sReadHead) := ⟨rfl, rfl, rfl, by decide +kernel, rfl, by decide +kernel, by decide +kernel⟩
theorem ndReadHead : (nReadHead).Nodup := scReadHead.nd
theorem loReadHead : (["row", "words"] : List Str).all (locB (defScope sReadHead)) = true := by decide +kernel
theorem glReadHead : (["NoNote", "len"] : List Str).all (glB (defScope sReadHead)) = true := by decide +kernel
def outH (K : PySem.W.Frag) (cX : Addr) : Option (Str × List Str) → DOut
  | none => .exc cX
  | some p => .own (prP K p.1 (p.2.map .str))
def rReadHead (K : PySem.W.Frag) (cX : Addr) : List Sl → DOut → Prop := fun as o => ∃ t, as = [.sh (.str t)] ∧ Tx0 t ∧ o = outH K cX (readHead t)
theorem okReadHead {f : Addr} {fd : FuncData} (F : Fun K "read_head" "read_head" sReadHead f fd) (T : TxN K mg cX) : FnOk P w K mg base (L2N.CX P w) 1 f fd ["row"] (spD K 1 (rReadHead K cX)) := by
  refine fnD F scReadHead (by decide) fun cdv A outer s H E as o hr hl hR => ?_
  obtain ⟨t, rfl, ht, rfl⟩ := hR
  have hc : (cxOf (L2N.CX P w) P w K mg base nReadHead "read_head" (defScope sReadHead) f cdv A outer s H E).calm = true := rfl
  have tk : L2N.Takes (cxOf (L2N.CX P w) P w K mg base nReadHead "read_head" (defScope sReadHead) f cdv A outer s H E) (fun c d _ H' => E c d H') := L2N.takes_of rfl rfl rfl rfl
  have lt : t.length ≤ 1000 := ht.1
  have h2 := sz_repr ht
  have hne := split_ne (x := t) (y := " ") (by decide +kernel) (by decide +kernel)
  have e : readHead t = (if (!decide ((Txt.split t " ").headD "" = ("change" : Str))) = true then none else if decide (((Txt.split t " ").length : Int) = 2) = true then some ((Txt.split t " ").getD 1 "", []) else if (decide (((Txt.split t " ").length : Int) < 4) || !decide ((Txt.split t " ").getD 2 "" = ("on" : Str))) = true then none else some ((Txt.split t " ").getD 1 "", (Txt.split t " ").drop 3)) := rfl
  generalize hws : Txt.split t " " = ws at *
  refine sds_cons (sd_setL (i := 1) ndReadHead rfl (loc_of loReadHead 1) (.inl rfl) (EL.to (el_split (ed_v loReadHead 0) ed_str one_blank (by omega)) (by rw [hws])) (fun r1 => ?_))
  obtain ⟨w0, wr, rfl⟩ : ∃ a r, ws = a :: r := by cases ws with | nil => exact absurd rfl hne | cons a r => exact ⟨a, r, rfl⟩
  refine sds_cons (sd_if (et_c (cd_neS (i := w0) (j := "change")) (ed_ixL (eb_v loReadHead 1) ed_int (atI_nat (j := 0) rfl)) ed_str) (fun hb => ?_) (fun hb => ?_))
  · rw [if_pos (show (!decide ((w0 :: wr).headD "" = ("change" : Str))) = true from hb)] at e
    exact sds_one (sd_rz T.note hc tk (gl_of glReadHead 0) (ed_fstr (zs := [_, _]) (.cons (ed_fmtR (ed_v loReadHead 0) (Nat.le_trans h2 (by decide))) (.cons ed_str .nil)) (short2 h2 (by decide +kernel))) (by show (deOf (outH K cX (readHead t))).ex cX _; rw [e]; rfl))
  refine sds_nil ?_
  rw [show (!decide ((w0 :: wr).headD "" = ("change" : Str))) = false from hb, if_neg Bool.false_ne_true] at e
  refine sds_cons (sd_if (et_c cd_eqI (ed_len (eb_v loReadHead 1) (gl_of glReadHead 1) T.len) ed_int) (fun hb2 => ?_) (fun hb2 => ?_))
  · rw [List.length_map] at hb2
    rw [if_pos hb2] at e
    have hl2 : (w0 :: wr).length = 2 := by have := of_decide_eq_true hb2; omega
    obtain ⟨w1, rfl⟩ : ∃ b, wr = [b] := by
      cases wr with
      | nil => cases hl2
      | cons b r => cases r with
        | nil => exact ⟨b, rfl⟩
        | cons _ _ => simp at hl2
    exact sds_one (sd_retW (eo_pr (ed_ixL (eb_v loReadHead 1) ed_int (atI_nat (j := 1) rfl)) (el_lst (ds := []) ea_nil le_b)) (fun _ _ _ _ h => by show (deOf (outH K cX (readHead t))).ro _ _ _ _; rw [e]; exact h))
  refine sds_nil ?_
  rw [List.length_map] at hb2
  rw [hb2, if_neg Bool.false_ne_true] at e
  have hlt : decide ((((w0 :: wr).map PyData.str).length : Int) < 4) = decide (((w0 :: wr).length : Int) < 4) := by rw [List.length_map]
  by_cases h4 : ((w0 :: wr).length : Int) < 4
  · rw [decide_eq_true h4, Bool.true_or, if_pos rfl] at e
    refine sds_cons (sd_if (et_w (ew_or (l := true) (et_c cd_lt (ed_len (eb_v loReadHead 1) (gl_of glReadHead 1) T.len) ed_int) (fun h => by rw [hlt, decide_eq_true h4] at h; cases h))) (fun _ => ?_) (fun hb3 => by rw [hlt, decide_eq_true h4] at hb3; cases hb3))
    exact sds_one (sd_rz T.note hc tk (gl_of glReadHead 0) (ed_fstr (zs := [_, _]) (.cons (ed_fmtR (ed_v loReadHead 0) (Nat.le_trans h2 (by decide))) (.cons ed_str .nil)) (short2 h2 (by decide +kernel))) (by show (deOf (outH K cX (readHead t))).ex cX _; rw [e]; rfl))
  · obtain ⟨w1, w2, w3, wr2, rfl⟩ : ∃ a b c r, wr = a :: b :: c :: r := by
      match wr, h4 with
      | [], h => exact absurd (by simp) h
      | [_], h => exact absurd (by simp) h
      | [_, _], h => exact absurd (by simp) h
      | a :: b :: c :: r, _ => exact ⟨a, b, c, r, rfl⟩
    rw [decide_eq_false h4, Bool.false_or] at e
    refine sds_cons (sd_if (k := false || !decide (w2 = ("on" : Str))) (et_w (ew_or (k := false) (ET.to (et_c cd_lt (ed_len (eb_v loReadHead 1) (gl_of glReadHead 1) T.len) ed_int) (by rw [hlt, decide_eq_false h4])) (fun _ => (ew_or1 (et_c (cd_neS (i := w2) (j := "on")) (ed_ixL (eb_v loReadHead 1) ed_int (atI_nat (j := 2) rfl)) ed_str))))) (fun hb3 => ?_) (fun hb3 => ?_))
    · rw [if_pos (show (!decide ((w0 :: w1 :: w2 :: w3 :: wr2).getD 2 "" = ("on" : Str))) = true from (by rw [Bool.false_or] at hb3; exact hb3))] at e
      exact sds_one (sd_rz T.note hc tk (gl_of glReadHead 0) (ed_fstr (zs := [_, _]) (.cons (ed_fmtR (ed_v loReadHead 0) (Nat.le_trans h2 (by decide))) (.cons ed_str .nil)) (short2 h2 (by decide +kernel))) (by show (deOf (outH K cX (readHead t))).ex cX _; rw [e]; rfl))
    · rw [show (!decide ((w0 :: w1 :: w2 :: w3 :: wr2).getD 2 "" = ("on" : Str))) = false from (by rw [Bool.false_or] at hb3; exact hb3), if_neg Bool.false_ne_true] at e
      refine sds_nil ?_
      refine sds_one (sd_retW (eo_pr (ed_ixL (eb_v loReadHead 1) ed_int (atI_nat (j := 1) rfl)) (EL.to (el_cut (l := some 3) (u := none) (eb_v loReadHead 1) ed_int trivial) (xs := (w3 :: wr2).map PyData.str) ?_)) (fun _ _ _ _ h => by show (deOf (outH K cX (readHead t))).ro _ _ _ _; rw [e]; exact h))
      exact cut3 _ _ _ _
/-! read_deed -/
abbrev sReadDeed : Stmt := topS 29
abbrev nReadDeed : List Str := ["row", "word", "_", "rest", "mark", "colon", "line"]
theorem scReadDeed : FnScope nReadDeed ["row"] (defScope sReadDeed) := ⟨rfl, rfl, rfl, by decide +kernel, rfl, by decide +kernel, by decide +kernel⟩
theorem ndReadDeed : (nReadDeed).Nodup := scReadDeed.nd
theorem loReadDeed : (["row", "word", "_", "rest", "mark", "colon", "line"] : List Str).all (locB (defScope sReadDeed)) = true := by decide +kernel
theorem glReadDeed : (["read_mark", "NoNote"] : List Str).all (glB (defScope sReadDeed)) = true := by decide +kernel
def outD (cX : Addr) : Option Deed → DOut
  | none => .exc cX
  | some d => .val (qD d)
def rReadDeed (cX : Addr) : List Sl → DOut → Prop := fun as o => ∃ t, as = [.sh (.str t)] ∧ Tx0 t ∧ o = outD cX (readDeed t)
theorem okReadDeed {f : Addr} {fd : FuncData} (F : Fun K "read_deed" "read_deed" sReadDeed f fd) (T : TxN K mg cX) (cReadMark : Cal P w K mg base 2 "read_mark" 1 (rReadMark cX)) : FnOk P w K mg base (L2N.CX P w) 3 f fd ["row"] (spD K 1 (rReadDeed cX)) := by
  refine fnD F scReadDeed (by decide) fun cdv A outer s H E as o hr hl hR => ?_
  obtain ⟨t, rfl, ht, rfl⟩ := hR
  have hc : (cxOf (L2N.CX P w) P w K mg base nReadDeed "read_deed" (defScope sReadDeed) f cdv A outer s H E).calm = true := rfl
  have tk : L2N.Takes (cxOf (L2N.CX P w) P w K mg base nReadDeed "read_deed" (defScope sReadDeed) f cdv A outer s H E) (fun c d _ H' => E c d H') := L2N.takes_of rfl rfl rfl rfl
  have lt : t.length ≤ 1000 := ht.1
  have h2 := sz_repr ht
  have p1 := part_sub (x := t) (y := " ") (by decide +kernel)
  have e : readDeed t = (if decide ((Txt.partition t " ").1 = ("cut" : Str)) = true then (readMark (Txt.partition t " ").2.2).map fun m => (⟨(Txt.partition t " ").1, m, none⟩ : Deed) else if decide ((Txt.partition (Txt.partition t " ").2.2 ": ").2.1 = ("" : Str)) = true then none else (readMark (Txt.partition (Txt.partition t " ").2.2 ": ").1).map fun m => (⟨(Txt.partition t " ").1, m, some (Txt.partition (Txt.partition t " ").2.2 ": ").2.2⟩ : Deed)) := rfl
  generalize hp : Txt.partition t " " = pt at *
  obtain ⟨pw, pb, pr⟩ := pt
  have hpr : Tx0 pr := p1.2.tx ht
  refine sds_cons (sd_asg (ED.to (ed_part (ed_v loReadDeed 0) ed_str one_blank (by omega)) (by rw [hp])) (gu_tup hc (gus_cons (gu_name (j := 1) ndReadDeed rfl (loc_of loReadDeed 1) (.inl rfl)) (gus_cons (gu_name (j := 2) ndReadDeed rfl (loc_of loReadDeed 2) (.inl rfl)) (gus_cons (gu_name (j := 3) ndReadDeed rfl (loc_of loReadDeed 3) (.inl rfl)) gus_nil)))) ⟨_, rfl, rfl, _, _, _, rfl, rfl, _, _, _, rfl, rfl, _, _, _, rfl, rfl, rfl, rfl⟩ ?_)
  dsimp only at e
  refine sds_cons (sd_if (et_c (cd_eqS (i := pw) (j := "cut")) (ed_v loReadDeed 1) ed_str) (fun hb => ?_) (fun hb => ?_))
  · rw [if_pos hb] at e
    cases hm : readMark pr with
    | none =>
      exact sds_one (sd_retX (ex_tup2 (ed_v loReadDeed 1) (ex_call cReadMark (hr.mono (by decide)) (gl_of glReadDeed 0) tk (ea_d (ed_v loReadDeed 3) ea_nil) rfl (D := cX) ⟨pr, rfl, hpr, by rw [hm]; rfl⟩ (by show (deOf (outD cX (readDeed t))).ex cX _; rw [e, hm]; rfl))))
    | some m =>
      exact sds_one (sd_ret (ed_tup (ds := [_, _]) (ea_d (ed_v loReadDeed 1) (ea_d (ed_call cReadMark (hr.mono (by decide)) (gl_of glReadDeed 0) tk (ea_d (ed_v loReadDeed 3) ea_nil) rfl (d := qM m) ⟨pr, rfl, hpr, by rw [hm]; rfl⟩) ea_nil)) le_b) (by show (deOf (outD cX (readDeed t))).rt _; rw [e, hm]; rfl))
  rw [hb, if_neg Bool.false_ne_true] at e
  refine sds_nil ?_
  have p2 := part_sub (x := pr) (y := ": ") (by decide +kernel)
  have lr : pr.length ≤ 1000 := hpr.1
  generalize hq : Txt.partition pr ": " = qt at *
  obtain ⟨qw, qb, qr⟩ := qt
  have hqw : Tx0 qw := p2.1.tx hpr
  refine sds_cons (sd_asg (ED.to (ed_part (z := pr) (ed_v loReadDeed 3) ed_str one_colon (by omega)) (by rw [hq])) (gu_tup hc (gus_cons (gu_name (j := 4) ndReadDeed rfl (loc_of loReadDeed 4) (.inl rfl)) (gus_cons (gu_name (j := 5) ndReadDeed rfl (loc_of loReadDeed 5) (.inl rfl)) (gus_cons (gu_name (j := 6) ndReadDeed rfl (loc_of loReadDeed 6) (.inl rfl)) gus_nil)))) ⟨_, rfl, rfl, _, _, _, rfl, rfl, _, _, _, rfl, rfl, _, _, _, rfl, rfl, rfl, rfl⟩ ?_)
  dsimp only at e
  refine sds_cons (sd_if (et_c (cd_eqS (i := qb) (j := "")) (ed_v loReadDeed 5) ed_str) (fun hb2 => ?_) (fun hb2 => ?_))
  · rw [if_pos hb2] at e
    exact sds_one (sd_rz T.note hc tk (gl_of glReadDeed 1) (ed_fstr (zs := [_, _]) (.cons (ed_fmtR (ed_v loReadDeed 0) (Nat.le_trans h2 (by decide))) (.cons ed_str .nil)) (short2 h2 (by decide +kernel))) (by show (deOf (outD cX (readDeed t))).ex cX _; rw [e]; rfl))
  rw [hb2, if_neg Bool.false_ne_true] at e
  refine sds_nil ?_
  cases hm : readMark qw with
  | none =>
    exact sds_one (sd_retX (ex_tup3 (ed_v loReadDeed 1) (ex_call cReadMark (hr.mono (by decide)) (gl_of glReadDeed 0) tk (ea_d (ed_v loReadDeed 4) ea_nil) rfl (D := cX) ⟨qw, rfl, hqw, by rw [hm]; rfl⟩ (by show (deOf (outD cX (readDeed t))).ex cX _; rw [e, hm]; rfl))))
  | some m =>
    exact sds_one (sd_ret (ed_tup (ds := [_, _, _]) (ea_d (ed_v loReadDeed 1) (ea_d (ed_call cReadMark (hr.mono (by decide)) (gl_of glReadDeed 0) tk (ea_d (ed_v loReadDeed 4) ea_nil) rfl (d := qM m) ⟨qw, rfl, hqw, by rw [hm]; rfl⟩) (ea_d (ed_v loReadDeed 6) ea_nil))) le_b) (by show (deOf (outD cX (readDeed t))).rt _; rw [e, hm]; rfl))
end
end K3

set_option maxHeartbeats 4000000
namespace K3
open PySem L2 PD PyProof.Rows LW
section
variable {P : Program} {w : World} {K : PySem.W.Frag} {mg : Str → Option Value} {base : Heap} {cB cN cX : Addr}
theorem deed_tx {d : Deed} (h : DeedOk' d) : DeedOk d := ⟨by rcases h.w with e | e | e <;> rw [e] <;> exact ⟨by decide +kernel, by decide +kernel⟩, fun hc => by obtain ⟨l, e, _⟩ := h.l hc; rw [e]; rfl, fun l e => by
    by_cases hc : d.w = "cut"
    · rw [h.c hc] at e; cases e
    · obtain ⟨l', e', hl⟩ := h.l hc
      rw [e'] at e; cases e
      exact line_tx hl, fun x k e => name_tx (h.m x k e).1⟩
theorem change_tx {c : Change} (h : ChOk c) : ChangeOk c := ⟨name_tx h.n, fun z hz => name_tx (h.ls z hz), Nat.le_trans h.ll (by decide), Nat.le_trans h.dl (by decide), fun d hd => deed_tx (h.ds d hd)⟩
theorem deedT_tx {d : Deed} (h : DeedOk' d) : Tx0 (deedT d) := by
  refine ⟨Nat.le_trans (deedT_len h) (by decide), fun c hc => ?_⟩
  have hm : ∀ c ∈ cs (markT d.m), c < 256 := fun c hc => by
    cases e : d.m with
    | none => rw [e] at hc; revert c; decide +kernel
    | some p =>
      obtain ⟨x, k⟩ := p
      obtain ⟨hx, h0, h1⟩ := h.m x k e
      rw [e, cs_markT] at hc
      rcases List.mem_append.mp hc with hc | hc
      · have := name_sgn hx c hc; omega
      rcases List.mem_cons.mp hc with rfl | hc
      · decide
      · obtain ⟨n, rfl⟩ := Int.eq_ofNat_of_zero_le h0
        rw [cs_num] at hc
        have := TL.numL_digits n c hc
        omega
  have hH : ∀ c ∈ cs (deedH d), c < 256 := fun c hc => by
    unfold deedH at hc
    rw [cs_app, cs_app] at hc
    rcases List.mem_append.mp hc with hc | hc
    · rcases List.mem_append.mp hc with hc | hc
      · have : ∀ w : Str, (w = "add" ∨ w = "cut" ∨ w = "set") → ∀ c ∈ cs w, c < 256 := by
          intro w hw
          rcases hw with rfl | rfl | rfl <;> decide +kernel
        exact this d.w h.w c hc
      · have : ∀ c ∈ cs (" " : Str), c < 256 := by decide +kernel
        exact this c hc
    · exact hm c hc
  have hc : c ∈ cs (deedT d) := hc
  unfold deedT at hc
  split at hc
  · exact hH c hc
  · rename_i hw
    obtain ⟨l, e, hl⟩ := h.l (by simpa using hw)
    rw [e, cs_app, cs_app] at hc
    rcases List.mem_append.mp hc with hc | hc
    · rcases List.mem_append.mp hc with hc | hc
      · exact hH c hc
      · have : ∀ c ∈ cs (": " : Str), c < 256 := by decide +kernel
        exact this c hc
    · have := hl.2 c hc; omega
end
end K3

set_option maxHeartbeats 4000000
namespace K3
open PySem L2 PD PyProof.Rows LW
/-! ### the drawn changes are changes -/
structure DeedG (n : Str) (ls : List Str) (d : Deed) : Prop where
  ok : DeedOk' d
  s : d.w ≠ "add" → d.m.isSome = true
  m : ∀ x k, d.m = some (x, k) → x = n ∨ x ∈ ls
structure Good (c : Change) : Prop where
  n : NameOk c.n
  ls : ∀ z ∈ c.ls, NameOk z
  ll : c.ls.length ≤ 62
  dl : c.ds.length ≤ 20
  up : c.ls.Pairwise fun a b => cs a < cs b
  own : c.n ∉ c.ls
  ds : ∀ d ∈ c.ds, DeedG c.n c.ls d
theorem Good.ok {c : Change} (h : Good c) : ChOk c := ⟨h.n, h.ls, h.ll, h.dl, fun d hd => (h.ds d hd).ok⟩
theorem isName_of {z : Str} (h : NameOk z) : isName z = true := by
  unfold isName
  obtain ⟨h1, h2, h3⟩ := h
  rw [decide_eq_false (show ¬ z = "" from fun q => by rw [q] at h1; exact absurd h1 (by decide +kernel)), decide_eq_false (show ¬ 12 < (z.length : Int) by omega)]
  show (true && _) = true
  rw [Bool.true_and, List.all_eq_true]
  exact fun c hc => decide_eq_true (h3 c hc)
theorem lt1 {a b : Nat} (h : b ≤ a) : ¬ [a] < [b] := fun q => by
  cases q with
  | rel h => omega
  | cons h => cases h
theorem isLine_of {z : Str} (h : LineOk z) : isLine z = true := by
  unfold isLine
  rw [decide_eq_false (show ¬ 200 < (z.length : Int) by have := h.1; omega)]
  show (true && _) = true
  rw [Bool.true_and, List.all_eq_true]
  intro c hc
  have hb := h.2 c hc
  have e1 : (" " : Str).cps.toList = [32] := by decide +kernel
  have e2 : ("~" : Str).cps.toList = [126] := by decide +kernel
  have e3 : (⟨#[c]⟩ : Str).cps.toList = [c] := rfl
  rw [e1, e2, e3, decide_eq_false, decide_eq_false]
  · rfl
  · exact lt1 (by omega)
  · exact lt1 (by omega)
theorem rising_of : ∀ {ls : List Str}, (ls.Pairwise fun a b => cs a < cs b) → rising ls = true
  | [], _ => rfl
  | [_], _ => rfl
  | a :: b :: r, h => by
    rw [List.pairwise_cons] at h
    show (decide _ && rising (b :: r)) = true
    rw [rising_of h.2, decide_eq_true (h.1 b List.mem_cons_self)]; rfl
theorem Good.chk {c : Change} (h : Good c) : chk c = none := by
  have b1 : badNames c.n c.ls = false := by
    unfold badNames
    have : ((c.n :: c.ls).all isName) = true := by
      rw [List.all_eq_true]
      intro z hz
      rcases List.mem_cons.mp hz with rfl | hz
      · exact isName_of h.n
      · exact isName_of (h.ls z hz)
    rw [this, rising_of h.up, decide_eq_false h.own]; rfl
  have b2 : badDeeds c.ds = false := by
    unfold badDeeds
    have hdl := h.dl
    rw [decide_eq_false (show ¬ 20 < c.ds.length by omega), Bool.false_or, List.any_eq_false]
    intro d hd
    obtain ⟨ok, hs, hm⟩ := h.ds d hd
    unfold badDeed
    have w1 : decide (d.w ∈ (["add", "cut", "set"] : List Str)) = true := decide_eq_true (by rcases ok.w with e | e | e <;> rw [e] <;> simp)
    rw [w1]
    have w2 : (!decide (d.w = ("add" : Str)) && d.m.isNone) = false := by
      by_cases e : d.w = "add"
      · rw [decide_eq_true e]; rfl
      · have := hs e
        cases hm : d.m with
        | none => rw [hm] at this; cases this
        | some _ => simp
    have w3 : (!decide (d.w = ("cut" : Str)) && !(isLine (d.l.getD ""))) = false := by
      by_cases e : d.w = "cut"
      · rw [decide_eq_true e]; rfl
      · obtain ⟨l, el, hl⟩ := ok.l e
        rw [el]
        show (_ && !isLine l) = false
        rw [isLine_of hl]; simp
    rw [w2, w3]; simp
  have b3 : c.ds.any (notLeaned c.n c.ls) = false := by
    rw [List.any_eq_false]
    intro d hd
    unfold notLeaned
    cases hm : d.m with
    | none => simp
    | some p =>
      obtain ⟨x, k⟩ := p
      rcases (h.ds d hd).m x k hm with rfl | q
      · simp
      · simp [q]
  unfold K3.chk
  rw [b1, b2, b3]; rfl
/-! leans -/
theorem lnAt_sub (c : Int) (ah : List Change) : ∀ k, k ≤ ah.length → (lnAt c ah k).Sublist ((ah.take k).map Change.n)
  | 0, _ => List.nil_sublist _
  | k + 1, hk => by
    have ih := lnAt_sub c ah k (by omega)
    have e : ah[k]? = some ah[k] := List.getElem?_eq_getElem (by omega)
    rw [lnAt, List.take_add_one, e, List.map_append]
    split
    · exact List.Sublist.append ih (List.Sublist.refl _)
    · exact ih.trans (List.sublist_append_left _ _)
theorem leansOf_sub {c : Int} {ah : List Change} {z : Str} (h : z ∈ leansOf c ah) : ∃ f ∈ ah, f.n = z := by
  have h1 := (lnAt_sub c ah ah.length (Nat.le_refl _)).subset (sortS_mem.mp h)
  rw [List.take_length] at h1
  obtain ⟨f, hf, e⟩ := List.mem_map.mp h1
  exact ⟨f, hf, e⟩
theorem leansOf_up {c : Int} {ah : List Change} (h : (ah.map Change.n).Nodup) : (leansOf c ah).Pairwise fun a b => cs a < cs b := by
  refine sortS_rise ?_
  have h1 := lnAt_sub c ah ah.length (Nat.le_refl _)
  rw [List.take_length] at h1
  exact h1.nodup h
theorem leansOf_len (c : Int) (ah : List Change) : (leansOf c ah).length ≤ ah.length := by
  unfold leansOf
  rw [sortS_len]
  exact lnAt_len c ah _
/-! deeds -/
def MkIn (n : Str) (ls : List Str) (p : Str × Int) : Prop := (p.1 = n ∨ p.1 ∈ ls) ∧ 0 ≤ p.2 ∧ p.2 < 1000000000
theorem marksOf_in {f : Change} {p : Str × Int} (h : p ∈ marksOf f) : p.1 = f.n ∧ 0 ≤ p.2 ∧ p.2 < adds f.ds := by
  obtain ⟨j, hj, rfl⟩ := List.mem_map.mp h
  have := List.mem_range.mp hj
  exact ⟨rfl, by show 0 ≤ (j : Int); omega, by show (j : Int) < _; omega⟩
theorem leanMarks_in {n : Str} {fs : List Change} {ls : List Str} {p : Str × Int} (hf : ∀ f ∈ fs, f.ds.length ≤ 20) (h : p ∈ leanMarks fs ls) : MkIn n ls p := by
  obtain ⟨f, hf1, hp⟩ := List.mem_flatMap.mp h
  obtain ⟨hf2, hl⟩ := List.mem_filter.mp hf1
  obtain ⟨e, h0, h1⟩ := marksOf_in hp
  have := adds_le f.ds
  have := hf f hf2
  exact ⟨.inr (by rw [e]; exact of_decide_eq_true hl), h0, by omega⟩
theorem known_in {n : Str} {ls : List Str} {ms : List (Str × Int)} {own : Nat} (hm : ∀ p ∈ ms, MkIn n ls p) (ho : own ≤ 20) : ∀ p ∈ knownOf n ms own, MkIn n ls p := fun p hp => by
  rcases List.mem_append.mp hp with hp | hp
  · exact hm p hp
  · obtain ⟨j, hj, rfl⟩ := List.mem_map.mp hp
    have := List.mem_range.mp hj
    exact ⟨.inl rfl, by show 0 ≤ (j : Int); omega, by show (j : Int) < _; omega⟩
theorem deedOf_good {n : Str} {ls : List Str} {ms : List (Str × Int)} {own : Nat} (hn : NameOk n) (hl : ∀ z ∈ ls, NameOk z) (hm : ∀ p ∈ ms, MkIn n ls p) (ho : own ≤ 20) (l : Int) : DeedG n ls (deedOf n ms own l) := by
  have hk := known_in hm ho
  have mk : ∀ {m : Option (Str × Int)}, (∀ p, m = some p → p ∈ knownOf n ms own) → MarkOk m ∧ ∀ x k, m = some (x, k) → x = n ∨ x ∈ ls := fun {m} h => ⟨fun x k e => by
    obtain ⟨h1, h2, h3⟩ := hk _ (h _ e)
    refine ⟨?_, h2, h3⟩
    rcases h1 with e | e
    · exact (show x = n from e) ▸ hn
    · exact hl x e, fun x k e => (hk _ (h _ e)).1⟩
  have a := mk (m := addMark n ms own l) (fun p e => by
    unfold addMark at e
    split at e
    · exact List.mem_of_getElem? e
    · cases e)
  have b := mk (m := othMark n ms own l) (fun p e => List.mem_of_getElem? e)
  unfold deedOf
  split
  · exact ⟨⟨.inl rfl, fun e => absurd (show ("add" : Str) = "cut" from e) (by decide +kernel), fun _ => ⟨_, rfl, line_ok _⟩, a.1⟩, fun e => absurd rfl e, a.2⟩
  · rename_i hadd
    have ne : (knownOf n ms own).isEmpty = false := by
      cases e : (knownOf n ms own).isEmpty with
      | false => rfl
      | true => exact absurd (by unfold isAdd; rw [e]; simp) hadd
    have sm : (othMark n ms own l).isSome = true := by
      unfold othMark
      have pos : 0 < (knownOf n ms own).length := by
        cases e : knownOf n ms own with
        | nil => rw [e] at ne; cases ne
        | cons _ _ => exact Nat.succ_pos _
      have p1 := Int.emod_nonneg (dAt n ms own l) (show ((knownOf n ms own).length : Int) ≠ 0 by omega)
      have p2 := Int.emod_lt_of_pos (dAt n ms own l) (show (0 : Int) < ((knownOf n ms own).length : Int) by omega)
      rw [List.getElem?_eq_getElem (by omega)]; rfl
    split
    · exact ⟨⟨.inr (.inl rfl), fun _ => rfl, fun e => absurd rfl e, b.1⟩, fun _ => sm, b.2⟩
    · exact ⟨⟨.inr (.inr rfl), fun e => absurd (show ("set" : Str) = "cut" from e) (by decide +kernel), fun _ => ⟨_, rfl, line_ok _⟩, b.1⟩, fun _ => sm, b.2⟩
theorem deedsAt_good {n : Str} {ls : List Str} {ms : List (Str × Int)} (hn : NameOk n) (hl : ∀ z ∈ ls, NameOk z) (hm : ∀ p ∈ ms, MkIn n ls p) (c : Int) : ∀ k, k ≤ 20 → ∀ d ∈ (deedsAt n c ms k).1, DeedG n ls d
  | 0, _, d, h => nomatch h
  | k + 1, hk, d, h => by
    rcases List.mem_append.mp (show d ∈ (deedsAt n c ms k).1 ++ [deedOf n ms (deedsAt n c ms k).2 (mixed c (k : Int))] from h) with h | h
    · exact deedsAt_good hn hl hm c k (by omega) d h
    · rw [List.mem_singleton.mp h]
      exact deedOf_good hn hl hm (Nat.le_trans (deedsAt_len n c ms k).2 (by omega)) _
theorem chsAt_good (cells : List Int) : ∀ k, k ≤ 60 → ∀ f ∈ (chsAt cells k).1, Good f
  | 0, _, f, h => nomatch h
  | k + 1, hk, f, h => by
    rcases List.mem_append.mp (show f ∈ (chsAt cells k).1 ++ [chAt cells (chsAt cells k).1 (chsAt cells k).2 k] from h) with h | h
    · exact chsAt_good cells k (by omega) f h
    · rw [List.mem_singleton.mp h]
      have ih := chsAt_good cells k (by omega)
      obtain ⟨⟨t1, t2⟩, t3⟩ := chsAt_taken cells k (by omega)
      obtain ⟨l1, l2, l3⟩ := chsAt_len cells k
      have hn : NameOk (chAt cells (chsAt cells k).1 (chsAt cells k).2 k).n := nameOf_ok _ t2 t1
      have hls : ∀ z ∈ leansOf (cell cells (4 * k + 1)) (chsAt cells k).1, NameOk z := fun z hz => by
        obtain ⟨g, hg, rfl⟩ := leansOf_sub hz
        exact (ih g hg).n
      have hll := leansOf_len (cell cells (4 * k + 1)) (chsAt cells k).1
      have hmb := manyOf_bd (cell cells (4 * k + 3))
      have nd : ((chsAt cells k).1.map Change.n).Nodup := by
        rw [l3] at t3
        exact (List.nodup_cons.mp t3).2
      refine ⟨hn, hls, ?_, ?_, leansOf_up nd, fun q => ?_, ?_⟩
      · show (leansOf _ _).length ≤ 62
        omega
      · show (deedsOf _ _ _ _).length ≤ 20
        rw [deedsOf_len]; omega
      · obtain ⟨g, hg, e⟩ := leansOf_sub (show (chAt cells (chsAt cells k).1 (chsAt cells k).2 k).n ∈ leansOf (cell cells (4 * k + 1)) (chsAt cells k).1 from q)
        refine nameOf_new (cell cells (4 * k)) t2 (taken := (chsAt cells k).2) ?_
        rw [show nameOf (cell cells (4 * k)) (chsAt cells k).2 = g.n from e.symm, l3]
        exact List.mem_cons_of_mem _ (List.mem_map_of_mem hg)
      · exact deedsAt_good hn hls (fun p hp => leanMarks_in (fun f hf => (ih f hf).dl) hp) _ _ (by omega)
theorem changesOf_good {cells : List Int} {most : Int} (h : most ≤ 60) : ∀ f ∈ changesOf cells most, Good f := chsAt_good cells _ (by
  unfold chCount
  split <;> omega)
end K3

set_option maxHeartbeats 4000000
namespace K3
open PySem L2 PD PyProof.Rows LW
theorem lay_all {α : Type} {q : α → PyData} {xs : List α} (h : ∀ x ∈ xs, (q x).canLay0 = true) : PyData.canLayAll0 (xs.map q) = true := by
  induction xs with
  | nil => rfl
  | cons a r ih => rw [List.map_cons, PyData.canLayAll0, h a List.mem_cons_self, ih fun x hx => h x (List.mem_cons_of_mem _ hx)]; rfl
theorem depth_all {α : Type} {q : α → PyData} {xs : List α} {k : Nat} (h : ∀ x ∈ xs, (q x).depth ≤ k) : PyData.depthAll (xs.map q) ≤ k := by
  induction xs with
  | nil => exact Nat.zero_le _
  | cons a r ih =>
    rw [List.map_cons, PyData.depthAll]
    exact Nat.max_le.mpr ⟨h a List.mem_cons_self, ih fun x hx => h x (List.mem_cons_of_mem _ hx)⟩
theorem lay_m {m : Option (Str × Int)} (h : ∀ x k, m = some (x, k) → Tx0 x) : (qM m).canLay0 = true ∧ (qM m).depth ≤ 1 := by
  cases m with
  | none => exact ⟨rfl, Nat.zero_le _⟩
  | some p =>
    obtain ⟨x, k⟩ := p
    refine ⟨?_, ?_⟩
    · show (PyData.strOk x && (true && true)) = true
      rw [str_ok (h x k rfl)]; rfl
    · show max 0 (max 0 0) + 1 ≤ 1
      decide
theorem lay_d {d : Deed} (h : DeedOk d) : (qD d).canLay0 = true ∧ (qD d).depth ≤ 2 := by
  obtain ⟨h1, _, h2, h3⟩ := h
  have hm := lay_m h3
  unfold qD
  cases e : d.l with
  | none =>
    refine ⟨?_, ?_⟩
    · show (PyData.strOk d.w && ((qM d.m).canLay0 && true)) = true
      rw [str_ok h1, hm.1]; rfl
    · show max 0 (max (qM d.m).depth 0) + 1 ≤ 2
      have := hm.2; omega
  | some l =>
    refine ⟨?_, ?_⟩
    · show (PyData.strOk d.w && ((qM d.m).canLay0 && (PyData.strOk l && true))) = true
      rw [str_ok h1, hm.1, str_ok (h2 l e)]; rfl
    · show max 0 (max (qM d.m).depth (max 0 0)) + 1 ≤ 2
      have := hm.2; omega
theorem lay_c {c : Change} (h : ChangeOk c) : (qC c).canLay0 = true ∧ (qC c).depth ≤ 4 := by
  obtain ⟨h1, h2, _, _, h3⟩ := h
  have e1 : PyData.canLayAll0 (c.ls.map .str) = true := lay_all (q := PyData.str) fun x hx => str_ok (h2 x hx)
  have e2 : PyData.canLayAll0 (c.ds.map qD) = true := lay_all fun x hx => (lay_d (h3 x hx)).1
  have e3 : PyData.depthAll (c.ls.map .str) ≤ 0 := depth_all (q := PyData.str) fun x hx => Nat.le_refl _
  have e4 : PyData.depthAll (c.ds.map qD) ≤ 2 := depth_all fun x hx => (lay_d (h3 x hx)).2
  refine ⟨?_, ?_⟩
  · show (PyData.strOk c.n && (PyData.canLayAll0 (c.ls.map .str) && (PyData.canLayAll0 (c.ds.map qD) && true))) = true
    rw [str_ok h1, e1, e2]; rfl
  · show max 0 (max (PyData.depthAll (c.ls.map .str) + 1) (max (PyData.depthAll (c.ds.map qD) + 1) 0)) + 1 ≤ 4
    omega
theorem shaped_c {c : Change} (h : ChangeOk c) : SeqAt.shaped (qC c) = true := by
  have := lay_c h
  unfold SeqAt.shaped
  rw [this.1, decide_eq_true (by omega)]; rfl
theorem eqv_c {c : Change} (h : ChangeOk c) : PyData.eqv (qC c) (qC c) = true := SeqAt.eqv_refl _ (lay_c h).1

theorem lay_ls {ls : List Str} (h : ∀ z ∈ ls, Tx0 z) : PyData.canLay0 (.list (ls.map .str)) = true := lay_all (q := PyData.str) fun x hx => str_ok (h x hx)
theorem shaped_ls {ls : List Str} (h : ∀ z ∈ ls, Tx0 z) : SeqAt.shaped (.list (ls.map .str)) = true := by
  have e3 : PyData.depthAll (ls.map .str) ≤ 0 := depth_all (q := PyData.str) fun x hx => Nat.le_refl _
  unfold SeqAt.shaped
  rw [lay_ls h, decide_eq_true (show (PyData.list (ls.map .str)).depth ≤ 64 by show PyData.depthAll (ls.map .str) + 1 ≤ 64; omega)]; rfl
theorem shaped_d {d : Deed} (h : DeedOk d) : SeqAt.shaped (qD d) = true := by
  have := lay_d h
  unfold SeqAt.shaped
  rw [this.1, decide_eq_true (by omega)]; rfl
theorem eqv_d {d : Deed} (h : DeedOk d) : PyData.eqv (qD d) (qD d) = true := SeqAt.eqv_refl _ (lay_d h).1
theorem eqv_ls {ls : List Str} (h : ∀ z ∈ ls, Tx0 z) : PyData.eqv (.list (ls.map .str)) (.list (ls.map .str)) = true := SeqAt.eqv_refl _ (lay_ls h)
/-- names that the top leaves to the language -/
structure TxK (mg : Str → Option Value) : Prop where
  isi : mg "isinstance" = none
  tuple : mg "tuple" = none
  len : mg "len" = none
  str : mg "str" = none
  int : mg "int" = none
  bool : mg "bool" = none
  list : mg "list" = none
  all : mg "all" = none
  zip : mg "zip" = none
/-! ### a change with other marks -/
def num1 (c : Int) (k : Nat) (m : Option (Str × Int)) : Option (Str × Int) := match m with
  | none => none
  | some p => if decide ((c + (k : Int)) % 3 = 1) = true then some (p.1, mixed c (k : Int) % 1000000000) else some p
def num2 (n : Str) (c : Int) (k : Nat) (m : Option (Str × Int)) : Option (Str × Int) := match m with
  | none => none
  | some p => if decide ((c + (k : Int)) % 5 = 2) = true then some (n, p.2) else some p
def numD (n : Str) (c : Int) (k : Nat) (d : Deed) : Deed := ⟨d.w, num2 n c k (num1 c k d.m), d.l⟩
def numC (ch : Change) (c : Int) : Change := ⟨ch.n, ch.ls, ch.ds.mapIdx fun k d => numD ch.n c k d⟩
theorem numD_good {n : Str} {ls : List Str} {d : Deed} (hn : NameOk n) (h : DeedG n ls d) (c : Int) (k : Nat) : DeedG n ls (numD n c k d) := by
  obtain ⟨⟨w, hc, hl, hm⟩, hs, hi⟩ := h
  have e1 : (num1 c k d.m).isSome = d.m.isSome ∧ MarkOk (num1 c k d.m) ∧ ∀ x j, num1 c k d.m = some (x, j) → x = n ∨ x ∈ ls := by
    cases e : d.m with
    | none => exact ⟨rfl, (fun _ _ q => nomatch q), (fun _ _ q => nomatch q)⟩
    | some p =>
      obtain ⟨x, j⟩ := p
      obtain ⟨a1, a2, a3⟩ := hm x j e
      have b := hi x j e
      show (num1 c k (some (x, j))).isSome = true ∧ _
      unfold num1
      dsimp only
      split
      · have p1 := Int.emod_nonneg (mixed c (k : Int)) (show (1000000000 : Int) ≠ 0 by decide)
        have p2 := Int.emod_lt_of_pos (mixed c (k : Int)) (show (0 : Int) < 1000000000 by decide)
        exact ⟨rfl, fun x' j' q => by cases q; exact ⟨a1, p1, p2⟩, fun x' j' q => by cases q; exact b⟩
      · exact ⟨rfl, fun x' j' q => by cases q; exact ⟨a1, a2, a3⟩, fun x' j' q => by cases q; exact b⟩
  obtain ⟨g1, g2, g3⟩ := e1
  have e2 : (num2 n c k (num1 c k d.m)).isSome = d.m.isSome ∧ MarkOk (num2 n c k (num1 c k d.m)) ∧ ∀ x j, num2 n c k (num1 c k d.m) = some (x, j) → x = n ∨ x ∈ ls := by
    rw [← g1]
    revert g2 g3
    generalize num1 c k d.m = m
    intro g2 g3
    cases m with
    | none => exact ⟨rfl, (fun _ _ q => nomatch q), (fun _ _ q => nomatch q)⟩
    | some p =>
      obtain ⟨x, j⟩ := p
      obtain ⟨a1, a2, a3⟩ := g2 x j rfl
      have b := g3 x j rfl
      show (num2 n c k (some (x, j))).isSome = true ∧ _
      unfold num2
      dsimp only
      split
      · exact ⟨rfl, fun x' j' q => by cases q; exact ⟨hn, a2, a3⟩, fun x' j' q => by cases q; exact .inl rfl⟩
      · exact ⟨rfl, fun x' j' q => by cases q; exact ⟨a1, a2, a3⟩, fun x' j' q => by cases q; exact b⟩
  exact ⟨⟨w, hc, hl, e2.2.1⟩, fun q => e2.1.trans (hs q), e2.2.2⟩
theorem numC_good {ch : Change} (h : Good ch) (c : Int) : Good (numC ch c) := by
  refine ⟨h.n, h.ls, h.ll, by show (ch.ds.mapIdx _).length ≤ 20; rw [List.length_mapIdx]; exact h.dl, h.up, h.own, fun d hd => ?_⟩
  obtain ⟨k, hk, e⟩ := List.mem_iff_getElem.mp (show d ∈ ch.ds.mapIdx _ from hd)
  rw [List.getElem_mapIdx] at e
  rw [← e]
  exact numD_good h.n (h.ds _ (List.getElem_mem _)) c k
def oneOf (cells : List Int) (most : Int) : Change := if (changesOf cells most).isEmpty = true then ⟨"a", [], []⟩ else numC ((changesOf cells most).getD (cell cells 1 % ((changesOf cells most).length : Int)).toNat ⟨"a", [], []⟩) (cell cells 1 / 7)
theorem a_good : Good ⟨"a", [], []⟩ := ⟨⟨by decide +kernel, by decide +kernel, by decide +kernel⟩, (fun _ h => nomatch h), by decide, by decide, List.Pairwise.nil, (fun h => nomatch h), (fun _ h => nomatch h)⟩
theorem oneOf_good {cells : List Int} {most : Int} (h : most ≤ 60) : Good (oneOf cells most) := by
  unfold oneOf
  split
  · exact a_good
  · rename_i hne
    have pos : 0 < (changesOf cells most).length := by
      cases e : changesOf cells most with
      | nil => rw [e] at hne; exact absurd rfl hne
      | cons _ _ => exact Nat.succ_pos _
    have p1 := Int.emod_nonneg (cell cells 1) (show ((changesOf cells most).length : Int) ≠ 0 by omega)
    have p2 := Int.emod_lt_of_pos (cell cells 1) (show (0 : Int) < ((changesOf cells most).length : Int) by omega)
    refine numC_good (changesOf_good (cells := cells) h _ ?_) _
    rw [List.getD_eq_getElem?_getD, List.getElem?_eq_getElem (by omega)]
    exact List.getElem_mem _
theorem num1_t {c : Int} {k : Nat} {x : Str} {j : Int} (h : decide ((c + (k : Int)) % 3 = 1) = true) : num1 c k (some (x, j)) = some (x, mixed c (k : Int) % 1000000000) := if_pos h
theorem num1_f {c : Int} {k : Nat} {x : Str} {j : Int} (h : decide ((c + (k : Int)) % 3 = 1) = false) : num1 c k (some (x, j)) = some (x, j) := if_neg (by rw [h]; exact Bool.false_ne_true)
theorem num2_t {n : Str} {c : Int} {k : Nat} {x : Str} {j : Int} (h : decide ((c + (k : Int)) % 5 = 2) = true) : num2 n c k (some (x, j)) = some (n, j) := if_pos h
theorem num2_f {n : Str} {c : Int} {k : Nat} {x : Str} {j : Int} (h : decide ((c + (k : Int)) % 5 = 2) = false) : num2 n c k (some (x, j)) = some (x, j) := if_neg (by rw [h]; exact Bool.false_ne_true)
theorem cut2_ok (a b : PyData) (r : List PyData) : ¬ (HT.sIx (a :: b :: r).length 0 (some 2) = 0 ∧ HT.sIx (a :: b :: r).length (a :: b :: r).length none = (a :: b :: r).length) := fun h => by
  have h1 := h.1
  rw [show (2 : Int) = ((2 : Nat) : Int) from rfl, HT.sIx_nat, List.length_cons, List.length_cons] at h1
  omega
theorem cut2_eq (a b : PyData) (r : List PyData) : PyData.tuple (cutD (a :: b :: r) (some 2) none) = .tuple r := by
  have := cutD_drop (a :: b :: r) 2
  rw [show ((2 : Nat) : Int) = 2 from rfl] at this
  rw [this]; rfl
theorem qD_num {n : Str} {c : Int} {i : Nat} {m : Option (Str × Int)} (x : Deed) (r : List PyData) (h0 : x.l = none → r = []) (h1 : ∀ l, x.l = some l → r = [.str l]) (e : num2 n c i (num1 c i x.m) = m) : PyData.tuple ([.str x.w, qM m] ++ r) = qD (numD n c i x) := by
  subst e
  unfold numD qD
  dsimp only
  cases hl : x.l with
  | none => rw [h0 hl]; rfl
  | some l => rw [h1 l hl]; rfl
section
variable {P : Program} {w : World} {K : PySem.W.Frag} {mg : Str → Option Value} {base : Heap} {cB cN cX : Addr}
/-! _law_numbered -/
abbrev sNumbered : Stmt := topS 41
abbrev nNumbered : List Str := ["_law_change", "_law_cell_here", "_law_deeds_here", "_law_k", "_law_deed", "_law_mark"]
theorem scNumbered : FnScope nNumbered ["_law_change", "_law_cell_here"] (defScope sNumbered) := ⟨rfl, rfl, rfl, by decide +kernel, rfl, by decide +kernel, by decide +kernel⟩
theorem ndNumbered : (nNumbered).Nodup := scNumbered.nd
theorem loNumbered : (["_law_change", "_law_cell_here", "_law_deeds_here", "_law_k", "_law_deed", "_law_mark"] : List Str).all (locB (defScope sNumbered)) = true := by decide +kernel
theorem glNumbered : (["enumerate", "_law_mixed"] : List Str).all (glB (defScope sNumbered)) = true := by decide +kernel
def rNumbered : List Sl → DOut → Prop := fun as o => ∃ (ch : Change) (c : Int), as = [.sh (qC ch), .sh (.int c)] ∧ ch.ds.length ≤ 20 ∧ o = .val (qC (numC ch c))
theorem okNumbered {f : Addr} {fd : FuncData} (F : Fun K "_law_numbered" "_law_numbered" sNumbered f fd) (T : Blt mg) (cMixed : Cal P w K mg base 1 "_law_mixed" 2 rMixed) : FnOk P w K mg base (L2N.CX P w) 2 f fd ["_law_change", "_law_cell_here"] (spD K 2 rNumbered) := by
  refine fnD F scNumbered (by decide) fun cdv A outer s H E as o hr hl hR => ?_
  obtain ⟨ch, c, rfl, hdl, rfl⟩ := hR
  have hc : (cxOf (L2N.CX P w) P w K mg base nNumbered "_law_numbered" (defScope sNumbered) f cdv A outer s H E).calm = true := rfl
  have tk : L2N.Takes (cxOf (L2N.CX P w) P w K mg base nNumbered "_law_numbered" (defScope sNumbered) f cdv A outer s H E) (fun c d _ H' => E c d H') := L2N.takes_of rfl rfl rfl rfl
  refine sds_cons (sd_setL (i := 2) ndNumbered rfl (loc_of loNumbered 2) (.inl rfl) (el_lst (ds := []) ea_nil le_b) (fun r2 => ?_))
  refine sds_cons (sd_enum (fun i ρ => ∃ s3 s4 s5, ρ = [.sh (qC ch), .sh (.int c), .ow r2 (((ch.ds.take i).mapIdx fun k d => numD ch.n c k d).map qD), s3, s4, s5]) (L2.passes_of rfl) hc
    (gu_tup hc (gus_cons (gu_name (j := 3) ndNumbered rfl (loc_of loNumbered 3) (.inl rfl)) (gus_cons (gu_name (j := 4) ndNumbered rfl (loc_of loNumbered 4) (.inl rfl)) gus_nil))) (gl_of glNumbered 0) T.enumerate (ED.pst (ed_ixT (ds := [_, _, .list (ch.ds.map qD)]) (ed_v loNumbered 0) ed_int (atI_nat (j := 2) rfl))) ⟨_, _, _, rfl⟩ (fun i d ρ1 hi hI => ?_) (fun ρ1 hI => ?_))
  · obtain ⟨s3, s4, s5, rfl⟩ := hI
    rw [List.getElem?_map] at hi
    cases hx : ch.ds[i]? with
    | none => rw [hx] at hi; cases hi
    | some x =>
    rw [hx] at hi
    cases hi
    have hil : i < ch.ds.length := (List.getElem?_eq_some_iff.mp hx).1
    have hlen : (((ch.ds.take i).mapIdx fun k d => numD ch.n c k d).map qD).length < 100000 := by rw [List.length_map, List.length_mapIdx, List.length_take]; omega
    have hnext : ((ch.ds.take (i + 1)).mapIdx fun k d => numD ch.n c k d).map qD = ((ch.ds.take i).mapIdx fun k d => numD ch.n c k d).map qD ++ [qD (numD ch.n c i x)] := by
      rw [List.take_add_one, hx]
      show ((ch.ds.take i ++ [x]).mapIdx _).map qD = _
      rw [List.mapIdx_append, List.map_append, List.length_take, Nat.min_eq_left (by omega)]
      simp
    obtain ⟨r, er, hr2⟩ := qD_tup x
    have rlen : 2 + r.length ≤ 100000 := by
      cases hl : x.l with
      | none => rw [show r = [] from by unfold qD at er; rw [hl] at er; cases er; rfl]; decide
      | some l => rw [hr2 l hl]; show 3 ≤ 100000; decide
    have hr3 : x.l = none → r = [] := fun q => by unfold qD at er; rw [q] at er; cases er; rfl
    refine ⟨_, ⟨_, rfl, rfl, _, _, _, rfl, rfl, _, _, _, rfl, rfl, rfl, rfl⟩, ?_⟩
    rw [er]
    refine sds_cons (sd_set (i := 5) (d := qM x.m) ndNumbered rfl (loc_of loNumbered 5) (.inl rfl) (ed_ixT (ed_v loNumbered 4) ed_int (atI_nat (j := 1) rfl)) ?_)
    cases hm : x.m with
    | none =>
      refine sds_cons (sd_if (et_w (ew_and (l := false) (et_c cd_notN (ed_v loNumbered 5) ed_non) (fun h => by cases h))) (fun hb => by cases hb) (fun hb => ?_))
      refine sds_nil ?_
      refine sds_cons (sd_if (et_w (ew_and (l := false) (et_c cd_notN (ed_v loNumbered 5) ed_non) (fun h => by cases h))) (fun hb => by cases hb) (fun hb => ?_))
      exact sds_nil (sds_one (sd_app (i := 2) rfl (vis_of (loc_of loNumbered 2)) rfl (d := qD (numD ch.n c i x)) (ED.to (ed_catT (xs := [.str x.w, qM none]) (ys := r) (ed_tup (ds := [_, _]) (ea_d (ed_ixT (ed_v loNumbered 4) ed_int (atI_nat (j := 0) rfl)) (ea_d (ed_v loNumbered 5) ea_nil)) le_b) (ED.to (ed_cutT (l := some 2) (u := none) (ed_v loNumbered 4) ed_int trivial (cut2_ok _ _ _)) (cut2_eq _ _ _)) (List.cons_ne_nil _ _) rlen) (qD_num x r hr3 hr2 (by rw [hm]; rfl))) hlen ⟨_, _, _, by rw [hnext]; rfl⟩))
    | some p =>
      obtain ⟨y, j⟩ := p
      refine sds_cons (sd_if (et_w (ew_and (et_c cd_notN (ed_v loNumbered 5) ed_non) (fun _ => (ew_and1 (et_c cd_eqI (ed_mod (ed_add (ed_v loNumbered 1) (ed_v loNumbered 3)) ed_int (by decide)) ed_int))))) (fun hb => ?_) (fun hb => ?_))
      · have e1 : num1 c i (some (y, j)) = some (y, mixed c (i : Int) % 1000000000) := num1_t hb
        refine sds_one (sd_set (i := 5) (d := qM (some (y, mixed c (i : Int) % 1000000000))) ndNumbered rfl (loc_of loNumbered 5) (.inl rfl) (ed_tup (ds := [_, _]) (ea_d (ed_ixT (ds := [.str y, .int j]) (ed_v loNumbered 5) ed_int (atI_nat (j := 0) rfl)) (ea_d (ed_mod (ed_call cMixed (hr.mono (by decide)) (gl_of glNumbered 1) tk (ea_d (ed_v loNumbered 1) (ea_d (ed_v loNumbered 3) ea_nil)) rfl ⟨c, (i : Int), rfl, rfl⟩) ed_int (by decide)) ea_nil)) le_b) ?_)
        refine sds_cons (sd_if (et_w (ew_and (et_c cd_notN (ed_v loNumbered 5) ed_non) (fun _ => (ew_and1 (et_c cd_eqI (ed_mod (ed_add (ed_v loNumbered 1) (ed_v loNumbered 3)) ed_int (by decide)) ed_int))))) (fun hb2 => ?_) (fun hb2 => ?_))
        · have e2 : num2 ch.n c i (some (y, mixed c (i : Int) % 1000000000)) = some (ch.n, mixed c (i : Int) % 1000000000) := num2_t hb2
          exact sds_one (sd_set (i := 5) (d := qM (some (ch.n, mixed c (i : Int) % 1000000000))) ndNumbered rfl (loc_of loNumbered 5) (.inl rfl) (ed_tup (ds := [_, _]) (ea_d (ed_ixT (ds := [.str ch.n, _, _]) (ed_v loNumbered 0) ed_int (atI_nat (j := 0) rfl)) (ea_d (ed_ixT (ds := [_, .int (mixed c (i : Int) % 1000000000)]) (ed_v loNumbered 5) ed_int (atI_nat (j := 1) rfl)) ea_nil)) le_b) (sds_one (sd_app (i := 2) rfl (vis_of (loc_of loNumbered 2)) rfl (d := qD (numD ch.n c i x)) (ED.to (ed_catT (xs := [.str x.w, qM (some (ch.n, mixed c (i : Int) % 1000000000))]) (ys := r) (ed_tup (ds := [_, _]) (ea_d (ed_ixT (ed_v loNumbered 4) ed_int (atI_nat (j := 0) rfl)) (ea_d (ed_v loNumbered 5) ea_nil)) le_b) (ED.to (ed_cutT (l := some 2) (u := none) (ed_v loNumbered 4) ed_int trivial (cut2_ok _ _ _)) (cut2_eq _ _ _)) (List.cons_ne_nil _ _) rlen) (qD_num x r hr3 hr2 (by rw [hm, e1, e2]))) hlen ⟨_, _, _, by rw [hnext]; rfl⟩)))
        · have e2 : num2 ch.n c i (some (y, mixed c (i : Int) % 1000000000)) = some (y, mixed c (i : Int) % 1000000000) := num2_f hb2
          exact sds_nil (sds_one (sd_app (i := 2) rfl (vis_of (loc_of loNumbered 2)) rfl (d := qD (numD ch.n c i x)) (ED.to (ed_catT (xs := [.str x.w, qM (some (y, mixed c (i : Int) % 1000000000))]) (ys := r) (ed_tup (ds := [_, _]) (ea_d (ed_ixT (ed_v loNumbered 4) ed_int (atI_nat (j := 0) rfl)) (ea_d (ed_v loNumbered 5) ea_nil)) le_b) (ED.to (ed_cutT (l := some 2) (u := none) (ed_v loNumbered 4) ed_int trivial (cut2_ok _ _ _)) (cut2_eq _ _ _)) (List.cons_ne_nil _ _) rlen) (qD_num x r hr3 hr2 (by rw [hm, e1, e2]))) hlen ⟨_, _, _, by rw [hnext]; rfl⟩))
      · have e1 : num1 c i (some (y, j)) = some (y, j) := num1_f hb
        refine sds_nil ?_
        refine sds_cons (sd_if (et_w (ew_and (et_c cd_notN (ed_v loNumbered 5) ed_non) (fun _ => (ew_and1 (et_c cd_eqI (ed_mod (ed_add (ed_v loNumbered 1) (ed_v loNumbered 3)) ed_int (by decide)) ed_int))))) (fun hb2 => ?_) (fun hb2 => ?_))
        · have e2 : num2 ch.n c i (some (y, j)) = some (ch.n, j) := num2_t hb2
          exact sds_one (sd_set (i := 5) (d := qM (some (ch.n, j))) ndNumbered rfl (loc_of loNumbered 5) (.inl rfl) (ed_tup (ds := [_, _]) (ea_d (ed_ixT (ds := [.str ch.n, _, _]) (ed_v loNumbered 0) ed_int (atI_nat (j := 0) rfl)) (ea_d (ed_ixT (ds := [.str y, .int j]) (ed_v loNumbered 5) ed_int (atI_nat (j := 1) rfl)) ea_nil)) le_b) (sds_one (sd_app (i := 2) rfl (vis_of (loc_of loNumbered 2)) rfl (d := qD (numD ch.n c i x)) (ED.to (ed_catT (xs := [.str x.w, qM (some (ch.n, j))]) (ys := r) (ed_tup (ds := [_, _]) (ea_d (ed_ixT (ed_v loNumbered 4) ed_int (atI_nat (j := 0) rfl)) (ea_d (ed_v loNumbered 5) ea_nil)) le_b) (ED.to (ed_cutT (l := some 2) (u := none) (ed_v loNumbered 4) ed_int trivial (cut2_ok _ _ _)) (cut2_eq _ _ _)) (List.cons_ne_nil _ _) rlen) (qD_num x r hr3 hr2 (by rw [hm, e1, e2]))) hlen ⟨_, _, _, by rw [hnext]; rfl⟩)))
        · have e2 : num2 ch.n c i (some (y, j)) = some (y, j) := num2_f hb2
          exact sds_nil (sds_one (sd_app (i := 2) rfl (vis_of (loc_of loNumbered 2)) rfl (d := qD (numD ch.n c i x)) (ED.to (ed_catT (xs := [.str x.w, qM (some (y, j))]) (ys := r) (ed_tup (ds := [_, _]) (ea_d (ed_ixT (ed_v loNumbered 4) ed_int (atI_nat (j := 0) rfl)) (ea_d (ed_v loNumbered 5) ea_nil)) le_b) (ED.to (ed_cutT (l := some 2) (u := none) (ed_v loNumbered 4) ed_int trivial (cut2_ok _ _ _)) (cut2_eq _ _ _)) (List.cons_ne_nil _ _) rlen) (qD_num x r hr3 hr2 (by rw [hm, e1, e2]))) hlen ⟨_, _, _, by rw [hnext]; rfl⟩))
  · obtain ⟨s3, s4, s5, rfl⟩ := hI
    rw [List.length_map, List.take_length]
    refine sds_frz (i := 2) rfl ?_
    exact sds_one (sd_ret (ed_tup (ds := [_, _, _]) (ea_d (ed_ixT (ds := [.str ch.n, _, _]) (ed_v loNumbered 0) ed_int (atI_nat (j := 0) rfl)) (ea_d (ed_ixT (ds := [_, .list (ch.ls.map .str), _]) (ed_v loNumbered 0) ed_int (atI_nat (j := 1) rfl)) (ea_d (ed_v loNumbered 2) ea_nil))) le_b) rfl)
end
end K3

set_option maxHeartbeats 4000000
namespace K3
open PySem L2 PD PyProof.Rows LW
section
variable {P : Program} {w : World} {K : PySem.W.Frag} {mg : Str → Option Value} {base : Heap} {cB cN cX : Addr}
/-! _law_one -/
abbrev sOne : Stmt := topS 42
abbrev nOne : List Str := ["_law_script", "_law_most", "_law_changes_here", "_law_cell_here"]
theorem scOne : FnScope nOne ["_law_script", "_law_most"] (defScope sOne) := ⟨rfl, rfl, rfl, by decide +kernel, rfl, by decide +kernel, by decide +kernel⟩
theorem ndOne : (nOne).Nodup := scOne.nd
theorem loOne : (["_law_script", "_law_most", "_law_changes_here", "_law_cell_here"] : List Str).all (locB (defScope sOne)) = true := by decide +kernel
theorem glOne : (["_law_changes", "_law_cell", "_law_numbered", "len"] : List Str).all (glB (defScope sOne)) = true := by decide +kernel
def rOne : List Sl → DOut → Prop := fun as o => ∃ (cells : List Int) (most : Int), as = [.bo (cells.map .int), .sh (.int most)] ∧ cells.length ≤ 100000 ∧ 0 ≤ most ∧ most ≤ 60 ∧ o = .val (qC (oneOf cells most))
theorem okOne {f : Addr} {fd : FuncData} (F : Fun K "_law_one" "_law_one" sOne f fd) (T : Blt mg) (cChanges : Cal P w K mg base 3 "_law_changes" 2 rChanges) (cCell : Cal P w K mg base 1 "_law_cell" 2 rCell) (cNumbered : Cal P w K mg base 2 "_law_numbered" 2 rNumbered) : FnOk P w K mg base (L2N.CX P w) 4 f fd ["_law_script", "_law_most"] (spD K 2 rOne) := by
  refine fnD F scOne (by decide) fun cdv A outer s H E as o hr hl hR => ?_
  obtain ⟨cells, most, rfl, hcl, hm0, hm1, rfl⟩ := hR
  have hc : (cxOf (L2N.CX P w) P w K mg base nOne "_law_one" (defScope sOne) f cdv A outer s H E).calm = true := rfl
  have tk : L2N.Takes (cxOf (L2N.CX P w) P w K mg base nOne "_law_one" (defScope sOne) f cdv A outer s H E) (fun c d _ H' => E c d H') := L2N.takes_of rfl rfl rfl rfl
  refine sds_cons (sd_setL (i := 2) ndOne rfl (loc_of loOne 2) (.inl rfl) (el_call (ds := (changesOf cells most).map qC) cChanges (hr.mono (by decide)) (gl_of glOne 0) tk (ea_b (EP'.rd (ep_v loOne 0)) (ea_d (ed_v loOne 1) ea_nil)) rfl ⟨cells, most, rfl, hcl, (by unfold chCount; split <;> omega), by omega, rfl⟩) (fun r2 => ?_))
  have hg := changesOf_good (cells := cells) (most := most) (by omega)
  unfold oneOf
  generalize changesOf cells most = chs at *
  cases chs with
  | nil =>
    refine sds_cons (sd_if (et_not (et_list (eb_v loOne 2))) (fun hb => ?_) (fun hb => by cases hb))
    exact sds_one (sd_ret (ed_tup (ds := [_, _, _]) (ea_d ed_str (ea_d (EL.dat (el_lst (ds := []) ea_nil le_b)) (ea_d (EL.dat (el_lst (ds := []) ea_nil le_b)) ea_nil))) le_b) rfl)
  | cons a r =>
    refine sds_cons (sd_if (et_not (et_list (eb_v loOne 2))) (fun hb => by cases hb) (fun hb => ?_))
    refine sds_nil ?_
    have hlen : ((a :: r).map qC).length = (a :: r).length := List.length_map _
    have pos : 0 < ((a :: r).length : Int) := by simp
    have p1 := Int.emod_nonneg (cell cells 1) (show ((a :: r).length : Int) ≠ 0 by omega)
    have p2 := Int.emod_lt_of_pos (cell cells 1) pos
    have hget : (a :: r)[(cell cells 1 % ((a :: r).length : Int)).toNat]? = some ((a :: r).getD (cell cells 1 % ((a :: r).length : Int)).toNat ⟨"a", [], []⟩) := by
      rw [List.getD_eq_getElem?_getD, List.getElem?_eq_getElem (by omega)]; rfl
    have hgd := hg _ (List.mem_of_getElem? hget)
    refine sds_cons (sd_set (i := 3) (d := .int (cell cells 1)) ndOne rfl (loc_of loOne 3) (.inl rfl) (ed_call cCell (hr.mono (by decide)) (gl_of glOne 1) tk (ea_b (EP'.rd (ep_v loOne 0)) (ea_d ed_int ea_nil)) rfl ⟨cells, 1, rfl, rfl⟩) ?_)
    refine sds_one (sd_ret (ed_call cNumbered (hr.mono (by decide)) (gl_of glOne 2) tk (ea_d (ed_ixL (eb_v loOne 2) (ed_mod (ed_v loOne 3) (ed_len (eb_v loOne 2) (gl_of glOne 3) T.len) (by rw [hlen]; exact pos)) (d := qC ((a :: r).getD (cell cells 1 % ((a :: r).length : Int)).toNat ⟨"a", [], []⟩)) (by rw [hlen]; exact atI_int p1 (by rw [List.getElem?_map, hget]; rfl))) (ea_d (ed_div (ed_v loOne 3) ed_int ⟨by decide, by decide⟩) ea_nil)) rfl ⟨_, _, rfl, hgd.dl, rfl⟩) rfl)
/-! _law_mark_row -/
abbrev sMarkRow : Stmt := topS 43
abbrev nMarkRow : List Str := ["_law_mark"]
theorem scMarkRow : FnScope nMarkRow ["_law_mark"] (defScope sMarkRow) := ⟨rfl, rfl, rfl, by decide +kernel, rfl, by decide +kernel, by decide +kernel⟩
theorem ndMarkRow : (nMarkRow).Nodup := scMarkRow.nd
theorem loMarkRow : (["_law_mark"] : List Str).all (locB (defScope sMarkRow)) = true := by decide +kernel
theorem glMarkRow : (["str"] : List Str).all (glB (defScope sMarkRow)) = true := by decide +kernel
def rMarkRow : List Sl → DOut → Prop := fun as o => ∃ m, as = [.sh (qM m)] ∧ MarkOk m ∧ o = .val (.str (markT m))
theorem okMarkRow {f : Addr} {fd : FuncData} (F : Fun K "_law_mark_row" "_law_mark_row" sMarkRow f fd) (T : Blt mg) : FnOk P w K mg base (L2N.CX P w) 1 f fd ["_law_mark"] (spD K 1 rMarkRow) := by
  refine fnD F scMarkRow (by decide) fun cdv A outer s H E as o hr hl hR => ?_
  obtain ⟨m, rfl, hm, rfl⟩ := hR
  have hc : (cxOf (L2N.CX P w) P w K mg base nMarkRow "_law_mark_row" (defScope sMarkRow) f cdv A outer s H E).calm = true := rfl
  cases m with
  | none =>
    refine sds_cons (sd_if (et_c cd_isN (ed_v loMarkRow 0) ed_non) (fun hb => ?_) (fun hb => ?_))
    · exact sds_one (sd_ret ed_str rfl)
    · cases hb
  | some p =>
    obtain ⟨x, k⟩ := p
    obtain ⟨hx, h0, h1⟩ := hm x k rfl
    have lx := hx.2.1
    have ln := num_len h0 h1
    have l1 : (" " : Str).length = 1 := by decide +kernel
    refine sds_cons (sd_if (et_c cd_isN (ed_v loMarkRow 0) ed_non) (fun hb => ?_) (fun hb => ?_))
    · cases hb
    refine sds_nil ?_
    exact sds_one (sd_ret (ed_cat (ed_cat (ed_ixT (ds := [.str x, .int k]) (ed_v loMarkRow 0) ed_int (atI_nat (j := 0) rfl)) ed_str (by omega)) (ed_strI (ed_ixT (ds := [.str x, .int k]) (ed_v loMarkRow 0) ed_int (atI_nat (j := 1) rfl)) (lg_nat h0 h1) (gl_of glMarkRow 0) T.str) (by rw [len_app]; show x.length + (" " : Str).length + (numS k).length ≤ 100000; omega)) rfl)
/-! _law_deed_row -/
abbrev sDeedRow : Stmt := topS 44
abbrev nDeedRow : List Str := ["_law_deed"]
theorem scDeedRow : FnScope nDeedRow ["_law_deed"] (defScope sDeedRow) := ⟨rfl, rfl, rfl, by decide +kernel, rfl, by decide +kernel, by decide +kernel⟩
theorem ndDeedRow : (nDeedRow).Nodup := scDeedRow.nd
theorem loDeedRow : (["_law_deed"] : List Str).all (locB (defScope sDeedRow)) = true := by decide +kernel
theorem glDeedRow : (["_law_mark_row"] : List Str).all (glB (defScope sDeedRow)) = true := by decide +kernel
def rDeedRow : List Sl → DOut → Prop := fun as o => ∃ d, as = [.sh (qD d)] ∧ DeedOk' d ∧ o = .val (.str (deedT d))
theorem headT_law (n : Str) (ls : List Str) : (if (!ls.isEmpty) = true then Str.join " " (["change " ++ n, "on"] ++ ls) else "change " ++ n) = headT n ls := by
  have e : ("change " ++ n : Str) = ("change" : Str) ++ (" " : Str) ++ n := by
    refine cs_ext ?_
    rw [cs_app, cs_app, cs_app]; rfl
  unfold headT headW
  cases ls with
  | nil => exact e
  | cons a r =>
    show Str.join " " (("change " ++ n) :: "on" :: a :: r) = Str.join " " ("change" :: n :: "on" :: a :: r)
    refine cs_ext ?_
    show ((("change " : Str) ++ n) ++ (" " : Str) ++ Str.join " " ("on" :: a :: r)).cps.toList = (("change" : Str) ++ (" " : Str) ++ (n ++ (" " : Str) ++ Str.join " " ("on" :: a :: r))).cps.toList
    show cs _ = cs _
    rw [e]
    simp only [cs_app, List.append_assoc]
theorem okDeedRow {f : Addr} {fd : FuncData} (F : Fun K "_law_deed_row" "_law_deed_row" sDeedRow f fd) (cMarkRow : Cal P w K mg base 1 "_law_mark_row" 1 rMarkRow) : FnOk P w K mg base (L2N.CX P w) 2 f fd ["_law_deed"] (spD K 1 rDeedRow) := by
  refine fnD F scDeedRow (by decide) fun cdv A outer s H E as o hr hl hR => ?_
  obtain ⟨d, rfl, hd, rfl⟩ := hR
  have hc : (cxOf (L2N.CX P w) P w K mg base nDeedRow "_law_deed_row" (defScope sDeedRow) f cdv A outer s H E).calm = true := rfl
  have tk : L2N.Takes (cxOf (L2N.CX P w) P w K mg base nDeedRow "_law_deed_row" (defScope sDeedRow) f cdv A outer s H E) (fun c d _ H' => E c d H') := L2N.takes_of rfl rfl rfl rfl
  obtain ⟨r, er, hr2⟩ := qD_tup d
  have lw := word_len hd.w
  have lm := markT_len hd.m
  have l1 : (" " : Str).length = 1 := by decide +kernel
  have l2 : (": " : Str).length = 2 := by decide +kernel
  have l4 : ("cut " : Str).length = 4 := by decide +kernel
  rw [er]
  refine sds_cons (sd_if (et_c (cd_eqS (i := d.w) (j := "cut")) (ed_ixT (ed_v loDeedRow 0) ed_int (atI_nat (j := 0) rfl)) ed_str) (fun hb => ?_) (fun hb => ?_))
  · refine sds_one (sd_ret (ed_cat ed_str (ed_call (d := .str (markT d.m)) cMarkRow (hr.mono (by decide)) (gl_of glDeedRow 0) tk (ea_d (ed_ixT (ed_v loDeedRow 0) ed_int (atI_nat (j := 1) rfl)) ea_nil) rfl ⟨d.m, rfl, hd.m, rfl⟩) (by omega)) ?_)
    show PyData.str _ = .str (deedT d)
    have hw : d.w = "cut" := of_decide_eq_true hb
    unfold deedT
    rw [if_pos hb]
    unfold deedH
    rw [hw]
    rw [show ("cut " : Str) ++ markT d.m = ("cut" : Str) ++ (" " : Str) ++ markT d.m from cs_ext (by simp only [cs_app]; rfl)]
  · refine sds_nil ?_
    obtain ⟨l, el, hl⟩ := hd.l (by simpa using hb)
    have ll := hl.1
    rw [hr2 l el]
    refine sds_one (sd_ret (ed_cat (ed_cat (ed_cat (ed_cat (ed_ixT (ds := [.str d.w, _, _]) (ed_v loDeedRow 0) ed_int (atI_nat (j := 0) rfl)) ed_str (by omega)) (ed_call (d := .str (markT d.m)) cMarkRow (hr.mono (by decide)) (gl_of glDeedRow 0) tk (ea_d (ed_ixT (ds := [_, qM d.m, _]) (ed_v loDeedRow 0) ed_int (atI_nat (j := 1) rfl)) ea_nil) rfl ⟨d.m, rfl, hd.m, rfl⟩) (by rw [len_app]; omega)) ed_str (by rw [len_app, len_app]; omega)) (ed_ixT (ds := [_, _, .str l]) (ed_v loDeedRow 0) ed_int (atI_nat (j := 2) rfl)) (by rw [len_app, len_app, len_app]; omega)) ?_)
    show PyData.str _ = .str (deedT d)
    unfold deedT
    rw [hb, if_neg Bool.false_ne_true, el]; rfl
/-! _law_written -/
abbrev sLWritten : Stmt := topS 45
abbrev nLWritten : List Str := ["_law_change", "_law_rows", "_law_deed"]
theorem scLWritten : FnScope nLWritten ["_law_change"] (defScope sLWritten) := ⟨rfl, rfl, rfl, by decide +kernel, rfl, by decide +kernel, by decide +kernel⟩
theorem ndLWritten : (nLWritten).Nodup := scLWritten.nd
theorem loLWritten : (["_law_change", "_law_rows"] : List Str).all (locB (defScope sLWritten)) = true := by decide +kernel
theorem glLWritten : ([] : List Str).all (glB (defScope sLWritten)) = true := by decide +kernel
def rLWritten : List Sl → DOut → Prop := fun as o => ∃ c, as = [.sh (qC c)] ∧ ChOk c ∧ o = .val (.str (noteT c))
theorem okLWritten {f : Addr} {fd : FuncData} (F : Fun K "_law_written" "_law_written" sLWritten f fd) (cDeedRow : Cal P w K mg base 2 "_law_deed_row" 1 rDeedRow) : FnOk P w K mg base (L2N.CX P w) 3 f fd ["_law_change"] (spD K 1 rLWritten) := by
  refine fnD F scLWritten (by decide) fun cdv A outer s H E as o hr hl hR => ?_
  obtain ⟨c, rfl, ok, rfl⟩ := hR
  have hc : (cxOf (L2N.CX P w) P w K mg base nLWritten "_law_written" (defScope sLWritten) f cdv A outer s H E).calm = true := rfl
  have ln := ok.n.2.1
  have l7 : ("change " : Str).length = 7 := by decide +kernel
  have hdl := ok.dl
  have hll := ok.ll
  have hm : (c.ls.map PyData.str).isEmpty = c.ls.isEmpty := by cases c.ls <;> rfl
  refine sds_cons (sd_setL (i := 1) ndLWritten rfl (loc_of loLWritten 1) (.inl rfl) (el_lst (ds := [.str ("change " ++ c.n)]) (ea_d (ed_cat ed_str (ed_ixT (ds := [.str c.n, _, _]) (ed_v loLWritten 0) ed_int (atI_nat (j := 0) rfl)) (by omega)) ea_nil) le_b) (fun r1 => ?_))
  have fin : ∀ (h : Str), h = headT c.n c.ls → SDs (cxOf (L2N.CX P w) P w K mg base nLWritten "_law_written" (defScope sLWritten) f cdv A outer s H E) (fun c d _ H' => E c d H') ((defBody sLWritten).drop 2) [.sh (qC c), .ow r1 [.str h], .un] (deOf (.val (.str (noteT c)))) := fun h eh => by
    subst eh
    refine sds_frz (i := 1) rfl ?_
    refine sds_one (sd_ret (ed_join (zs := rowsT c) ed_str (EL.rd (EL.to (el_cat (ed_v loLWritten 1) (EL.dat (EL.to (el_lc (j := 2) ⟨hc, ndLWritten, blkOk_by (N := nLWritten) (sc := defScope sLWritten) (by decide +kernel), by decide, rfl, rfl, by intro _; rfl⟩ c.ds qD (fun _ => true) (fun d => .str (deedT d)) (ED.pst (ed_ixT (ds := [_, _, .list (c.ds.map qD)]) (ed_v loLWritten 0) ed_int (atI_nat (j := 2) rfl))) (by omega) (fun x hx s H C cl fp => rfl) (fun x hx _ s H C cl fp => (ed_call cDeedRow (hr.mono (by decide)) gl_b takesN0 (ea_d (ed_b 2) ea_nil) rfl ⟨x, rfl, ok.ds x hx, rfl⟩))) (lc_all _ _))) (by rw [List.length_map]; show 1 + _ ≤ 100000; omega)) (by
      show _ = (headT c.n c.ls :: c.ds.map deedT).map PyData.str
      rw [List.map_cons, List.map_map]; rfl))) ?_) rfl)
    have h1 := sum_len (k := 1000) (zs := rowsT c) (rowsT_len ok)
    have l1 : ("\n" : Str).length = 1 := by decide +kernel
    have e2 : (rowsT c).length = c.ds.length + 1 := by unfold rowsT; rw [List.length_cons, List.length_map]
    rw [l1]
    omega
  have hlaw := headT_law c.n c.ls
  refine sds_cons (sd_if (et_list (ED.rd (ed_ixT (ds := [_, .list (c.ls.map .str), _]) (ed_v loLWritten 0) ed_int (atI_nat (j := 1) rfl)))) (fun hb => ?_) (fun hb => ?_))
  · rw [hm] at hb
    rw [if_pos hb] at hlaw
    refine sds_one (sd_setix (i := 1) (j := 0) (k := 0) (d := .str (headT c.n c.ls)) rfl (vis_of (loc_of loLWritten 1)) rfl (ED.to (ed_join (w := " ") (zs := ["change " ++ c.n, "on"] ++ c.ls) ed_str (EL.rd (EL.to (el_cat (EL.dat (el_lst (ds := [_, _]) (ea_d (ed_ixL (eb_v loLWritten 1) ed_int (atI_nat (j := 0) rfl)) (ea_d ed_str ea_nil)) le_b)) (ed_ixT (ds := [_, .list (c.ls.map .str), _]) (ed_v loLWritten 0) ed_int (atI_nat (j := 1) rfl)) (by rw [List.length_map]; show 2 + _ ≤ 100000; omega)) (by rw [List.map_append]; rfl))) ?_) (by rw [hlaw])) ed_int (ix_nat (n := 1) (j := 0) (by decide)) (fin _ rfl))
    have h1 := sum_len (k := 12) (zs := c.ls) fun z hz => (ok.ls z hz).2.1
    have l1 : (" " : Str).length = 1 := by decide +kernel
    have l2 : ("on" : Str).length = 2 := by decide +kernel
    have l8 : (("change " : Str) ++ c.n).length = 7 + c.n.length := by rw [len_app, l7]
    show (("change " : Str) ++ c.n).length + (("on" : Str).length + (c.ls.map (·.length)).sum) + (c.ls.length + 1 + 1) * (" " : Str).length ≤ 100000
    rw [l1]
    omega
  · rw [hm] at hb
    rw [hb, if_neg Bool.false_ne_true] at hlaw
    exact sds_nil (fin _ hlaw)
/-! _law_deed_like -/
abbrev sDeedLike : Stmt := topS 46
abbrev nDeedLike : List Str := ["_law_found", "_law_due", "_law_mark", "_law_one_here"]
theorem scDeedLike : FnScope nDeedLike ["_law_found", "_law_due"] (defScope sDeedLike) := ⟨rfl, rfl, rfl, by decide +kernel, rfl, by decide +kernel, by decide +kernel⟩
theorem ndDeedLike : (nDeedLike).Nodup := scDeedLike.nd
theorem loDeedLike : (["_law_found", "_law_due", "_law_mark"] : List Str).all (locB (defScope sDeedLike)) = true := by decide +kernel
theorem glDeedLike : (["isinstance", "tuple", "len", "str", "int", "bool", "all"] : List Str).all (glB (defScope sDeedLike)) = true := by decide +kernel
def rDeedLike : List Sl → DOut → Prop := fun as o => ∃ d, as = [.sh (qD d), .sh (qD d)] ∧ DeedOk d ∧ o = .val (.bool true)
theorem okDeedLike {f : Addr} {fd : FuncData} (F : Fun K "_law_deed_like" "_law_deed_like" sDeedLike f fd) (T : TxK mg) : FnOk P w K mg base (L2N.CX P w) 1 f fd ["_law_found", "_law_due"] (spD K 2 rDeedLike) := by
  refine fnD F scDeedLike (by decide) fun cdv A outer s H E as o hr hl hR => ?_
  obtain ⟨d, rfl, hd, rfl⟩ := hR
  have hc : (cxOf (L2N.CX P w) P w K mg base nDeedLike "_law_deed_like" (defScope sDeedLike) f cdv A outer s H E).calm = true := rfl
  obtain ⟨r, er, hr2⟩ := qD_tup d
  have hr3 : d.l = none → r = [] := fun q => by unfold qD at er; rw [q] at er; cases er; rfl
  have hsd := shaped_d hd
  have hev := eqv_d hd
  rw [er] at *
  obtain ⟨zs, ez⟩ : ∃ zs : List Str, r = zs.map PyData.str := by
    cases hl : d.l with
    | none => exact ⟨[], hr3 hl⟩
    | some l => exact ⟨[l], hr2 l hl⟩
  have hzs : zs.length ≤ 1 := by
    cases hl : d.l with
    | none => rw [hr3 hl] at ez; have := congrArg List.length ez; rw [List.length_map] at this; rw [← this]; decide
    | some l => rw [hr2 l hl] at ez; have := congrArg List.length ez; rw [List.length_map] at this; rw [← this]; exact Nat.le_refl 1
  refine sds_cons (sd_if (et_w (ew_or (k := !true) (et_not (et_val (ed_kind (d := .tuple (.str d.w :: qM d.m :: r)) (t := "tuple") (k := true) (ed_v loDeedLike 0) (show kitB "tuple" "tuple" = some true by decide +kernel) (gl_of glDeedLike 0) T.isi (gl_of glDeedLike 1) T.tuple (by decide +kernel)))) (fun _ => (ew_or (k := false) (ET.to (et_c cd_neI (ed_lenT (ed_v loDeedLike 0) (gl_of glDeedLike 2) T.len) (ed_lenT (ed_v loDeedLike 1) (gl_of glDeedLike 2) T.len)) (by simp)) (fun _ => (ew_or1 (k := !true) (et_not (et_val (ed_kind (d := .str d.w) (t := "str") (k := true) (ed_ixT (ed_v loDeedLike 0) ed_int (atI_nat (j := 0) rfl)) (show kitB "str" "str" = some true by decide +kernel) (gl_of glDeedLike 0) T.isi (gl_of glDeedLike 3) T.str (by decide +kernel)))))))))) (fun hb => by cases hb) (fun hb => ?_))
  refine sds_nil ?_
  have fin : ∀ s2, SDs (cxOf (L2N.CX P w) P w K mg base nDeedLike "_law_deed_like" (defScope sDeedLike) f cdv A outer s H E) (fun c d _ H' => E c d H') ((defBody sDeedLike).drop 2) [.sh (.tuple (.str d.w :: qM d.m :: r)), .sh (.tuple (.str d.w :: qM d.m :: r)), s2, .un] (deOf (.val (.bool true))) := fun s2 => by
    refine sds_one (sd_ret (ed_and (k := true) (l := true) (ED.to (ed_all (bs := zs.map fun _ => true) hc (EL.rd (EL.to (el_lcT (j := 3) ⟨hc, ndDeedLike, blkOk_by (N := nDeedLike) (sc := defScope sDeedLike) (by decide +kernel), by decide, rfl, rfl, by intro _; rfl⟩ zs PyData.str (fun _ => true) (fun _ => .bool true) (ED.to (ed_cutT (l := some 2) (u := none) (ed_v loDeedLike 0) ed_int trivial (cut2_ok _ _ _)) (by rw [cut2_eq, ez])) (by omega) (fun x hx s H C cl fp => rfl) (fun x hx _ s H C cl fp => (ed_kind (d := .str x) (t := "str") (k := true) (ed_b 3) (show kitB "str" "str" = some true by decide +kernel) gl_b T.isi gl_b T.str (by decide +kernel)))) (by rw [lc_all, List.map_map]; rfl))) (gl_of glDeedLike 6) T.all) (by rw [List.all_map]; congr 1; rw [List.all_eq_true]; intro _ _; rfl)) (fun _ => (ed_one (ED.to (ed_c (cd_eqD hr.units hsd hsd) (ed_v loDeedLike 0) (ed_v loDeedLike 1)) (by rw [hev]))))) rfl)
  cases hm : d.m with
  | none =>
    rw [hm] at fin
    refine sds_cons (sd_if (et_c cd_notN (ed_ixT (ds := _ :: PyData.none :: _) (ed_v loDeedLike 1) ed_int (atI_nat (j := 1) rfl)) ed_non) (fun hb => by cases hb) (fun hb => ?_))
    exact sds_nil (fin _)
  | some p =>
    obtain ⟨x, k⟩ := p
    rw [hm] at fin
    refine sds_cons (sd_if (et_c cd_notN (ed_ixT (ds := _ :: qM (some (x, k)) :: _) (ed_v loDeedLike 1) ed_int (atI_nat (j := 1) rfl)) ed_non) (fun hb => ?_) (fun hb => by cases hb))
    refine sds_cons (sd_set (i := 2) (d := .tuple [.str x, .int k]) ndDeedLike rfl (loc_of loDeedLike 2) (.inl rfl) (ed_ixT (ds := _ :: qM (some (x, k)) :: _) (ed_v loDeedLike 0) ed_int (atI_nat (j := 1) rfl)) ?_)
    refine sds_cons (sd_if (et_w (ew_or (k := !true) (et_not (et_val (ed_kind (d := .tuple [.str x, .int k]) (t := "tuple") (k := true) (ed_v loDeedLike 2) (show kitB "tuple" "tuple" = some true by decide +kernel) (gl_of glDeedLike 0) T.isi (gl_of glDeedLike 1) T.tuple (by decide +kernel)))) (fun _ => (ew_or (k := false) (et_c cd_neI (ed_lenT (ds := [.str x, .int k]) (ed_v loDeedLike 2) (gl_of glDeedLike 2) T.len) ed_int) (fun _ => (ew_or1 (k := !true) (et_not (et_val (ed_kind (d := .str x) (t := "str") (k := true) (ed_ixT (ds := [.str x, .int k]) (ed_v loDeedLike 2) ed_int (atI_nat (j := 0) rfl)) (show kitB "str" "str" = some true by decide +kernel) (gl_of glDeedLike 0) T.isi (gl_of glDeedLike 3) T.str (by decide +kernel)))))))))) (fun hb => by cases hb) (fun hb => ?_))
    refine sds_nil ?_
    refine sds_one (sd_if (et_w (ew_or (k := !true) (et_not (et_val (ed_kind (d := .int k) (t := "int") (k := true) (ed_ixT (ds := [.str x, .int k]) (ed_v loDeedLike 2) ed_int (atI_nat (j := 1) rfl)) (show kitB "int" "int" = some true by decide +kernel) (gl_of glDeedLike 0) T.isi (gl_of glDeedLike 4) T.int (by decide +kernel)))) (fun _ => (ew_or1 (k := false) (et_val (ed_kind (d := .int k) (t := "bool") (k := false) (ed_ixT (ds := [.str x, .int k]) (ed_v loDeedLike 2) ed_int (atI_nat (j := 1) rfl)) (show kitB "int" "bool" = some false by decide +kernel) (gl_of glDeedLike 0) T.isi (gl_of glDeedLike 5) T.bool (by decide +kernel))))))) (fun hb => by cases hb) (fun hb => ?_))
    exact sds_nil (fin _)
/-! _law_change_like -/
abbrev sChangeLike : Stmt := topS 47
abbrev nChangeLike : List Str := ["_law_found", "_law_due", "_law_lean", "_law_one_here", "_law_other"]
theorem scChangeLike : FnScope nChangeLike ["_law_found", "_law_due"] (defScope sChangeLike) := ⟨rfl, rfl, rfl, by decide +kernel, rfl, by decide +kernel, by decide +kernel⟩
theorem ndChangeLike : (nChangeLike).Nodup := scChangeLike.nd
theorem loChangeLike : (["_law_found", "_law_due"] : List Str).all (locB (defScope sChangeLike)) = true := by decide +kernel
theorem glChangeLike : (["isinstance", "tuple", "len", "str", "list", "all", "zip"] : List Str).all (glB (defScope sChangeLike)) = true := by decide +kernel
def rChangeLike : List Sl → DOut → Prop := fun as o => ∃ c, as = [.sh (qC c), .sh (qC c)] ∧ ChangeOk c ∧ o = .val (.bool true)
theorem okChangeLike {f : Addr} {fd : FuncData} (F : Fun K "_law_change_like" "_law_change_like" sChangeLike f fd) (T : TxK mg) (cDeedLike : Cal P w K mg base 1 "_law_deed_like" 2 rDeedLike) : FnOk P w K mg base (L2N.CX P w) 2 f fd ["_law_found", "_law_due"] (spD K 2 rChangeLike) := by
  refine fnD F scChangeLike (by decide) fun cdv A outer s H E as o hr hl hR => ?_
  obtain ⟨c, rfl, ok, rfl⟩ := hR
  have hc : (cxOf (L2N.CX P w) P w K mg base nChangeLike "_law_change_like" (defScope sChangeLike) f cdv A outer s H E).calm = true := rfl
  obtain ⟨h1, h2, h3, h4, h5⟩ := ok
  have hsl := shaped_ls h2
  have hel := eqv_ls h2
  have q0 : atI [PyData.str c.n, .list (c.ls.map .str), .list (c.ds.map qD)] 0 = some (.str c.n) := atI_nat (j := 0) rfl
  have q1 : atI [PyData.str c.n, .list (c.ls.map .str), .list (c.ds.map qD)] 1 = some (.list (c.ls.map .str)) := atI_nat (j := 1) rfl
  have q2 : atI [PyData.str c.n, .list (c.ls.map .str), .list (c.ds.map qD)] 2 = some (.list (c.ds.map qD)) := atI_nat (j := 2) rfl
  refine sds_cons (sd_if (et_w (ew_or (k := !true) (et_not (et_val (ed_kind (d := qC c) (t := "tuple") (k := true) (ed_v loChangeLike 0) (show kitB "tuple" "tuple" = some true by decide +kernel) (gl_of glChangeLike 0) T.isi (gl_of glChangeLike 1) T.tuple (by decide +kernel)))) (fun _ => (ew_or (k := false) (et_c cd_neI (ed_lenT (ds := [_, _, _]) (ed_v loChangeLike 0) (gl_of glChangeLike 2) T.len) ed_int) (fun _ => (ew_or1 (k := !true) (et_not (et_val (ed_kind (d := .str c.n) (t := "str") (k := true) (ed_ixT (ed_v loChangeLike 0) ed_int q0) (show kitB "str" "str" = some true by decide +kernel) (gl_of glChangeLike 0) T.isi (gl_of glChangeLike 3) T.str (by decide +kernel)))))))))) (fun hb => by cases hb) (fun hb => ?_))
  refine sds_nil ?_
  refine sds_cons (sd_if (et_w (ew_or (k := !true) (et_not (et_val (ed_kind (d := .list (c.ls.map .str)) (t := "list") (k := true) (ed_ixT (ed_v loChangeLike 0) ed_int q1) (show kitB "list" "list" = some true by decide +kernel) (gl_of glChangeLike 0) T.isi (gl_of glChangeLike 4) T.list (by decide +kernel)))) (fun _ => (ew_or1 (k := !true) (et_not (et_val (ed_kind (d := .list (c.ds.map qD)) (t := "list") (k := true) (ed_ixT (ed_v loChangeLike 0) ed_int q2) (show kitB "list" "list" = some true by decide +kernel) (gl_of glChangeLike 0) T.isi (gl_of glChangeLike 4) T.list (by decide +kernel)))))))) (fun hb => by cases hb) (fun hb => ?_))
  refine sds_nil ?_
  refine sds_cons (sd_if (et_w (ew_or (k := !true) (et_not (et_val (ED.to (ed_all (bs := c.ls.map fun _ => true) hc (EL.rd (EL.to (el_lc (j := 2) ⟨hc, ndChangeLike, blkOk_by (N := nChangeLike) (sc := defScope sChangeLike) (by decide +kernel), by decide, rfl, rfl, by intro _; rfl⟩ c.ls PyData.str (fun _ => true) (fun _ => .bool true) (ED.pst (ed_ixT (ed_v loChangeLike 0) ed_int q1)) (by omega) (fun x hx s H C cl fp => rfl) (fun x hx _ s H C cl fp => (ed_kind (d := .str x) (t := "str") (k := true) (ed_b 2) (show kitB "str" "str" = some true by decide +kernel) gl_b T.isi gl_b T.str (by decide +kernel)))) (by rw [lc_all, List.map_map]; rfl))) (gl_of glChangeLike 5) T.all) (show _ = PyData.bool true by rw [List.all_map]; congr 1; rw [List.all_eq_true]; intro _ _; rfl)))) (fun _ => (ew_or1 (k := false) (ET.to (et_c cd_neI (ed_len (ED.rd (ed_ixT (ed_v loChangeLike 0) ed_int q2)) (gl_of glChangeLike 2) T.len) (ed_len (ED.rd (ed_ixT (ed_v loChangeLike 1) ed_int q2)) (gl_of glChangeLike 2) T.len)) (by simp)))))) (fun hb => by cases hb) (fun hb => ?_))
  refine sds_nil ?_
  refine sds_cons (sd_if (et_w (ew_or (k := false) (ET.to (et_c (cd_neS (i := c.n) (j := c.n)) (ed_ixT (ed_v loChangeLike 0) ed_int q0) (ed_ixT (ed_v loChangeLike 1) ed_int q0)) (by simp)) (fun _ => (ew_or1 (k := false) (ET.to (et_c (cd_neD hr.units hsl hsl) (ed_ixT (ed_v loChangeLike 0) ed_int q1) (ed_ixT (ed_v loChangeLike 1) ed_int q1)) (by rw [hel]; rfl)))))) (fun hb => by cases hb) (fun hb => ?_))
  refine sds_nil ?_
  refine sds_one (sd_ret (ED.to (ed_all (bs := (c.ds.zip c.ds).map fun _ => true) hc (EL.rd (EL.to (el_lcZ (j1 := 3) (j2 := 4) (L := ⟨hc, ndChangeLike, blkOk_by (N := nChangeLike) (sc := defScope sChangeLike) (by decide +kernel), rfl, rfl, rfl, rfl, by decide, by intro _; rfl⟩) (gl_of glChangeLike 6) T.zip c.ds c.ds qD qD (fun _ _ => .bool true) (ED.pst (ed_ixT (ed_v loChangeLike 0) ed_int q2)) (ED.pst (ed_ixT (ed_v loChangeLike 1) ed_int q2)) (by omega) (fun i x y hx hy s H C cl fp => by
    rw [hx] at hy
    cases hy
    exact ed_call cDeedLike (hr.mono (by decide)) gl_b takesN0 (ea_d (ed_b 3) (ea_d (ed_b 4) ea_nil)) rfl ⟨x, rfl, h5 x (List.mem_of_getElem? hx), rfl⟩) (tg := fun s H C cl fp => lc_tgt2 hc ndChangeLike rfl rfl rfl rfl s H C cl fp)) (by rw [List.map_map]; rfl))) (gl_of glChangeLike 5) T.all) (show _ = PyData.bool true by rw [List.all_map]; congr 1; rw [List.all_eq_true]; intro _ _; rfl)) rfl)
end
end K3

set_option maxHeartbeats 4000000
namespace K3
open PySem L2 PD PyProof.Rows LW
/-! ### a good change, whatever the number of its leans -/
structure GoodW (c : Change) : Prop where
  n : NameOk c.n
  ls : ∀ z ∈ c.ls, NameOk z
  ll : c.ls.length ≤ 1000
  dl : c.ds.length ≤ 20
  up : c.ls.Pairwise fun a b => cs a < cs b
  own : c.n ∉ c.ls
  ds : ∀ d ∈ c.ds, DeedG c.n c.ls d
theorem Good.w {c : Change} (h : Good c) : GoodW c := ⟨h.n, h.ls, Nat.le_trans h.ll (by decide), h.dl, h.up, h.own, h.ds⟩
theorem isName_back {z : Str} (h : isName z = true) : NameOk z := by
  unfold isName at h
  rw [Bool.and_eq_true, Bool.not_eq_true', Bool.or_eq_false_iff] at h
  obtain ⟨⟨h1, h2⟩, h3⟩ := h
  have h1 := of_decide_eq_false h1
  have h2 := of_decide_eq_false h2
  refine ⟨?_, by omega, fun c hc => of_decide_eq_true (List.all_eq_true.mp h3 c hc)⟩
  have hne : cs z ≠ [] := fun q => h1 (cs_ext (by rw [q]; rfl))
  rw [len_cs]
  exact List.length_pos_iff.mpr hne
theorem ch_lt {a b : Nat} : ([a] : List Nat) < [b] ↔ a < b := by
  constructor
  · intro q
    cases q with
    | rel h => exact h
    | cons h => cases h
  · exact fun h => .rel h
theorem isLine_back {z : Str} (h : isLine z = true) : LineOk z := by
  unfold isLine at h
  rw [Bool.and_eq_true, Bool.not_eq_true'] at h
  obtain ⟨h1, h2⟩ := h
  have h1 := of_decide_eq_false h1
  refine ⟨by omega, fun c hc => ?_⟩
  have h := List.all_eq_true.mp h2 c hc
  have e1 : (" " : Str).cps.toList = [32] := by decide +kernel
  have e2 : ("~" : Str).cps.toList = [126] := by decide +kernel
  have e3 : (⟨#[c]⟩ : Str).cps.toList = [c] := rfl
  rw [e1, e2, e3, Bool.and_eq_true, Bool.not_eq_true', Bool.not_eq_true'] at h
  have a := of_decide_eq_false h.1
  have b := of_decide_eq_false h.2
  rw [ch_lt] at a b
  omega
theorem rising_back : ∀ {ls : List Str}, rising ls = true → ls.Pairwise fun a b => cs a < cs b
  | [], _ => .nil
  | [_], _ => List.pairwise_singleton _ _
  | a :: b :: r, h => by
    have h : (decide (a.cps.toList < b.cps.toList) && rising (b :: r)) = true := h
    rw [Bool.and_eq_true] at h
    have ih := rising_back h.2
    have ab : cs a < cs b := of_decide_eq_true h.1
    refine List.pairwise_cons.mpr ⟨fun x hx => ?_, ih⟩
    rcases List.mem_cons.mp hx with rfl | hx
    · exact ab
    · exact List.lt_trans ab ((List.pairwise_cons.mp ih).1 x hx)
theorem GoodW.chk {c : Change} (h : GoodW c) : K3.chk c = none := by
  have g : Good ⟨c.n, [], []⟩ ∨ True := .inr trivial
  have b1 : badNames c.n c.ls = false := by
    unfold badNames
    have : ((c.n :: c.ls).all isName) = true := by
      rw [List.all_eq_true]
      intro z hz
      rcases List.mem_cons.mp hz with rfl | hz
      · exact isName_of h.n
      · exact isName_of (h.ls z hz)
    rw [this, rising_of h.up, decide_eq_false h.own]; rfl
  have b2 : badDeeds c.ds = false := by
    unfold badDeeds
    have hdl := h.dl
    rw [decide_eq_false (show ¬ 20 < c.ds.length by omega), Bool.false_or, List.any_eq_false]
    intro d hd
    obtain ⟨ok, hs, hm⟩ := h.ds d hd
    unfold badDeed
    have w1 : decide (d.w ∈ (["add", "cut", "set"] : List Str)) = true := decide_eq_true (by rcases ok.w with e | e | e <;> rw [e] <;> simp)
    rw [w1]
    have w2 : (!decide (d.w = ("add" : Str)) && d.m.isNone) = false := by
      by_cases e : d.w = "add"
      · rw [decide_eq_true e]; rfl
      · have := hs e
        cases hm : d.m with
        | none => rw [hm] at this; cases this
        | some _ => simp
    have w3 : (!decide (d.w = ("cut" : Str)) && !(isLine (d.l.getD ""))) = false := by
      by_cases e : d.w = "cut"
      · rw [decide_eq_true e]; rfl
      · obtain ⟨l, el, hl⟩ := ok.l e
        rw [el]
        show (_ && !isLine l) = false
        rw [isLine_of hl]; simp
    rw [w2, w3]; simp
  have b3 : c.ds.any (notLeaned c.n c.ls) = false := by
    rw [List.any_eq_false]
    intro d hd
    unfold notLeaned
    cases hm : d.m with
    | none => simp
    | some p =>
      obtain ⟨x, k⟩ := p
      rcases (h.ds d hd).m x k hm with rfl | q
      · simp
      · simp [q]
  unfold K3.chk
  rw [b1, b2, b3]; rfl
/-- what a read deed is like, whatever its signs -/
def ShD (d : Deed) : Prop := (d.w = "cut" → d.l = none) ∧ (d.w ≠ "cut" → d.l.isSome = true) ∧ ∀ x k, d.m = some (x, k) → 0 ≤ k ∧ k < 1000000000
theorem chk_back {c : Change} (hl : c.ls.length ≤ 1000) (hd : ∀ d ∈ c.ds, ShD d) (h : K3.chk c = none) : GoodW c := by
  unfold K3.chk at h
  by_cases b1 : badNames c.n c.ls = true
  · rw [if_pos b1] at h; cases h
  rw [if_neg b1] at h
  by_cases b2 : badDeeds c.ds = true
  · rw [if_pos b2] at h; cases h
  rw [if_neg b2] at h
  by_cases b3 : c.ds.any (notLeaned c.n c.ls) = true
  · rw [if_pos b3] at h; cases h
  have b1 : badNames c.n c.ls = false := by simpa using b1
  have b2 : badDeeds c.ds = false := by simpa using b2
  unfold badNames at b1
  rw [Bool.or_eq_false_iff, Bool.or_eq_false_iff, Bool.not_eq_false', Bool.not_eq_false'] at b1
  obtain ⟨⟨n1, n2⟩, n3⟩ := b1
  have n1 := List.all_eq_true.mp n1
  have n3 := of_decide_eq_false n3
  unfold badDeeds at b2
  rw [Bool.or_eq_false_iff] at b2
  have d1 := of_decide_eq_false b2.1
  have d2 := List.any_eq_false.mp b2.2
  have d3 : ∀ d ∈ c.ds, ¬ notLeaned c.n c.ls d = true := fun d hd q => b3 (List.any_eq_true.mpr ⟨d, hd, q⟩)
  have nOk : NameOk c.n := isName_back (n1 _ List.mem_cons_self)
  have lsOk : ∀ z ∈ c.ls, NameOk z := fun z hz => isName_back (n1 z (List.mem_cons_of_mem _ hz))
  refine ⟨nOk, lsOk, hl, by omega, rising_back n2, n3, fun d hd' => ?_⟩
  obtain ⟨s1, s2, s3⟩ := hd d hd'
  have bd : badDeed d = false := by simpa using d2 d hd'
  unfold badDeed at bd
  rw [Bool.or_eq_false_iff, Bool.or_eq_false_iff, Bool.not_eq_false'] at bd
  obtain ⟨⟨w1, w2⟩, w3⟩ := bd
  have w1 := of_decide_eq_true w1
  have w1 : d.w = "add" ∨ d.w = "cut" ∨ d.w = "set" := by simpa using w1
  have mm : ∀ x k, d.m = some (x, k) → x = c.n ∨ x ∈ c.ls := fun x k e => by
    have := d3 d hd'
    unfold notLeaned at this
    rw [e] at this
    by_cases q : x = c.n
    · exact .inl q
    · by_cases q2 : x ∈ c.ls
      · exact .inr q2
      · exact absurd (show (!decide (x = c.n) && !decide (x ∈ c.ls)) = true by rw [decide_eq_false q, decide_eq_false q2]; rfl) this
  refine ⟨⟨w1, s1, fun hw => ?_, fun x k e => ⟨?_, s3 x k e⟩⟩, fun hw => ?_, mm⟩
  · obtain ⟨l, el⟩ := Option.isSome_iff_exists.mp (s2 hw)
    refine ⟨l, el, isLine_back ?_⟩
    rw [el, decide_eq_false hw] at w3
    simpa using w3
  · rcases mm x k e with rfl | q
    · exact nOk
    · exact lsOk x q
  · rw [decide_eq_false hw] at w2
    cases em : d.m with
    | none => rw [em] at w2; exact absurd w2 (by decide)
    | some _ => rfl
/-! ### the program's reading -/
def readAll : List Str → Option (List Deed)
  | [] => some []
  | p :: r => match readDeed p with
    | none => none
    | some d => (readAll r).map fun ds => d :: ds
def readF (t : Str) : Option Change := match readHead ((Txt.split t "\n").headD "") with
  | none => none
  | some (n, ls) => match readAll ((Txt.split t "\n").drop 1) with
    | none => none
    | some ds => if (K3.chk ⟨n, ls, ds⟩).isNone = true then some ⟨n, ls, ds⟩ else none
theorem readAll_fwd : ∀ {rs : List Str} {ds : List Deed}, readAll rs = some ds → ds.map deedT = rs ∧ ∀ d ∈ ds, ShD d
  | [], ds, h => by cases h; exact ⟨rfl, fun d hd => nomatch hd⟩
  | p :: r, ds, h => by
    unfold readAll at h
    cases e : readDeed p with
    | none => rw [e] at h; cases h
    | some d =>
      rw [e] at h
      cases e2 : readAll r with
      | none => rw [e2] at h; cases h
      | some ds2 =>
        rw [e2] at h
        cases h
        obtain ⟨a, b⟩ := readAll_fwd e2
        obtain ⟨f1, f2⟩ := readDeed_fwd e
        exact ⟨by rw [List.map_cons, f1, a], fun x hx => by
          rcases List.mem_cons.mp hx with rfl | hx
          · exact f2
          · exact b x hx⟩
theorem readAll_back : ∀ {ds : List Deed}, (∀ d ∈ ds, DeedOk' d) → readAll (ds.map deedT) = some ds
  | [], _ => rfl
  | d :: r, h => by
    show (match readDeed (deedT d) with | none => none | some d => (readAll (r.map deedT)).map fun ds => d :: ds) = _
    rw [readDeed_back (h d List.mem_cons_self), readAll_back fun x hx => h x (List.mem_cons_of_mem _ hx)]; rfl
theorem rowsW_ne {c : Change} (h : GoodW c) : ∀ p ∈ rowsT c, 10 ∉ cs p := fun p hp => by
  rcases List.mem_cons.mp hp with rfl | hp
  · exact headT_ne h.n h.ls
  · obtain ⟨d, hd, rfl⟩ := List.mem_map.mp hp
    exact deedT_ne (h.ds d hd).ok
theorem split_noteW {c : Change} (h : GoodW c) : Txt.split (noteT c) "\n" = rowsT c := by
  have := TL.split_join (y := "\n") (s := 10) (S := []) (by decide +kernel) (by decide +kernel) (parts := rowsT c) (by unfold rowsT; exact List.cons_ne_nil _ _) (rowsW_ne h)
  rw [TL.join_eq] at this
  exact this
theorem readF_back {c : Change} (h : GoodW c) : readF (noteT c) = some c := by
  unfold readF
  rw [split_noteW h]
  show (match readHead (headT c.n c.ls) with | none => none | some (n, ls) => match readAll (c.ds.map deedT) with | none => none | some ds => if (K3.chk ⟨n, ls, ds⟩).isNone = true then some ⟨n, ls, ds⟩ else none) = some c
  rw [readHead_back h.n h.ls, readAll_back fun d hd => (h.ds d hd).ok]
  show (if (K3.chk c).isNone = true then some c else none) = some c
  rw [h.chk]; rfl
theorem nl_cs : cs ("\n" : Str) = [10] := by decide +kernel
theorem nl_k : ("\n" : Str).cps.all (· < 256) = true := by decide +kernel
/-- a text that may be read: short rows of plain signs, not many -/
structure TOk (t : Str) : Prop where
  len : t.length ≤ 30000
  rows : (Txt.split t "\n").length ≤ 100
  row : ∀ p ∈ Txt.split t "\n", Tx0 p
theorem rows_ne (t : Str) : Txt.split t "\n" ≠ [] := split_ne (by rw [nl_cs]; simp) nl_k
theorem rows_at (t : Str) : Txt.split t "\n" = (Txt.split t "\n").headD "" :: (Txt.split t "\n").drop 1 := by
  cases e : Txt.split t "\n" with
  | nil => exact absurd e (rows_ne t)
  | cons a r => rfl
theorem words_len {p : Str} (h : Tx0 p) : (Txt.split p " ").length ≤ 1001 := by
  rw [split_len (s := 32) (by decide +kernel) (by decide +kernel)]
  have h1 : (cs p).count 32 ≤ (cs p).length := List.count_le_length
  have h2 := h.1
  rw [len_cs] at h2
  omega
theorem readF_fwd {t : Str} (ht : TOk t) {c : Change} (h : readF t = some c) : noteT c = t ∧ GoodW c := by
  unfold readF at h
  cases e1 : readHead ((Txt.split t "\n").headD "") with
  | none => rw [e1] at h; cases h
  | some p =>
    obtain ⟨n, ls⟩ := p
    rw [e1] at h
    cases e2 : readAll ((Txt.split t "\n").drop 1) with
    | none => rw [e2] at h; cases h
    | some ds =>
      rw [e2] at h
      have h : (if (K3.chk ⟨n, ls, ds⟩).isNone = true then some (⟨n, ls, ds⟩ : Change) else none) = some c := h
      by_cases hk : (K3.chk ⟨n, ls, ds⟩).isNone = true
      · rw [if_pos hk] at h
        cases h
        obtain ⟨r1, r2⟩ := readAll_fwd e2
        obtain ⟨f1, f2⟩ := readHead_fwd e1
        have hrow : Tx0 ((Txt.split t "\n").headD "") := ht.row _ (by rw [rows_at t]; exact List.mem_cons_self)
        have hl : ls.length ≤ 1000 := by
          have := words_len hrow
          rw [f2, List.length_drop]; omega
        refine ⟨?_, chk_back hl r2 (by
          cases e : K3.chk ⟨n, ls, ds⟩ with
          | none => rfl
          | some _ => rw [e] at hk; cases hk)⟩
        show Str.join "\n" (headT n ls :: ds.map deedT) = t
        rw [f1, r1, ← rows_at t]
        exact join_split nl_cs nl_k
      · rw [if_neg hk] at h; cases h
/-! ### the law's own reading -/
def numW (z : Str) : Int := if (!(decide (1 ≤ (z.length : Int)) && decide ((z.length : Int) ≤ 9)) || !((cs z).all fun c => decide (c ∈ cs figs))) = true then -1 else (PySem.intText? z).getD 0
def markW (told : Str) : Option (Str × Int) := if (!decide (told = ("-" : Str))) = true then some ((Txt.partition told " ").1, numW (Txt.partition told " ").2.2) else none
def takeD (row : Str) : Deed :=
  let w := (Txt.partition row " ").1
  let rest := (Txt.partition row " ").2.2
  let told := (Txt.partition rest ": ").1
  let line := (Txt.partition rest ": ").2.2
  ⟨w, markW told, if decide (w = ("cut" : Str)) = true then none else some line⟩
def takeC (t : Str) : Change :=
  let rows := Txt.split t "\n"
  let ws := Txt.split (rows.headD "") " "
  ⟨ws.getD (min 1 (ws.length - 1)) "", ws.drop 3, (rows.drop 1).map takeD⟩
def sortU (zs : List Str) : List Str := sortS (onceS [] zs)
theorem sortU_rise (zs : List Str) : (sortU zs).Pairwise fun a b => cs a < cs b := sortS_rise (onceS_nd zs [] List.nodup_nil)
theorem rise_nd {zs : List Str} (h : zs.Pairwise fun a b => cs a < cs b) : zs.Nodup := h.imp fun {a b} q e => by
  rw [e] at q
  exact absurd q (List.lt_irrefl _)
theorem sortU_mem {z : Str} {zs : List Str} : z ∈ sortU zs ↔ z ∈ zs := by
  unfold sortU
  rw [sortS_mem, onceS_mem]; simp
theorem rise_uniq {xs ys : List Str} (hx : xs.Pairwise fun a b => cs a < cs b) (hy : ys.Pairwise fun a b => cs a < cs b) (h : ∀ z, z ∈ xs ↔ z ∈ ys) : xs = ys :=
  List.Perm.eq_of_pairwise (fun a b _ _ h k => absurd (List.lt_trans h k) (List.lt_irrefl _)) hx hy ((List.perm_ext_iff_of_nodup (rise_nd hx) (rise_nd hy)).mpr h)
def goodN (z : Str) : Bool := ((cs z).filter fun c => !decide (c ∈ cs sgn)).isEmpty && (decide (1 ≤ (z.length : Int)) && decide ((z.length : Int) ≤ 12))
def goodL (l : Str) : Bool := decide ((l.length : Int) ≤ 200) && (cs l).all fun c => !decide (([c] : List Nat) < [32]) && !decide (([126] : List Nat) < [c])
def badM (ns : List Str) : Option (Str × Int) → Bool
  | none => false
  | some (x, k) => !decide (x ∈ ns) || decide (k < 0)
def goodD (ns : List Str) (d : Deed) : Bool := !(!decide (d.w ∈ (["add", "cut", "set"] : List Str)) || (d.m.isNone && !decide (d.w = ("add" : Str)))) &&
  (!badM ns d.m && (decide (d.w = ("cut" : Str)) || goodL (d.l.getD "")))
def goodC (c : Change) : Bool := ((c.n :: c.ls).all goodN) && (!(!decide (c.ls = sortU c.ls) || decide (c.n ∈ c.ls) || decide (20 < (c.ds.length : Int))) && c.ds.all (goodD (c.n :: c.ls)))
theorem goodN_iff {z : Str} : goodN z = true ↔ NameOk z := by
  unfold goodN NameOk
  rw [Bool.and_eq_true, Bool.and_eq_true, List.isEmpty_iff, List.filter_eq_nil_iff, decide_eq_true_eq, decide_eq_true_eq]
  constructor
  · rintro ⟨h1, h2, h3⟩
    refine ⟨by omega, by omega, fun c hc => ?_⟩
    have := h1 c hc
    simpa using this
  · rintro ⟨h1, h2, h3⟩
    refine ⟨fun c hc => ?_, by omega, by omega⟩
    have := h3 c hc
    simp [this]
theorem goodL_iff {l : Str} : goodL l = true ↔ LineOk l := by
  unfold goodL LineOk
  rw [Bool.and_eq_true, List.all_eq_true, decide_eq_true_eq]
  constructor
  · rintro ⟨h1, h2⟩
    refine ⟨by omega, fun c hc => ?_⟩
    have h := h2 c hc
    rw [Bool.and_eq_true, Bool.not_eq_true', Bool.not_eq_true'] at h
    have a := of_decide_eq_false h.1
    have b := of_decide_eq_false h.2
    rw [ch_lt] at a b
    omega
  · rintro ⟨h1, h2⟩
    refine ⟨by omega, fun c hc => ?_⟩
    have h := h2 c hc
    rw [decide_eq_false (by rw [ch_lt]; omega), decide_eq_false (by rw [ch_lt]; omega)]; rfl
theorem goodC_of {c : Change} (h : GoodW c) : goodC c = true := by
  unfold goodC
  have a : ((c.n :: c.ls).all goodN) = true := by
    rw [List.all_eq_true]
    intro z hz
    rcases List.mem_cons.mp hz with rfl | hz
    · exact goodN_iff.mpr h.n
    · exact goodN_iff.mpr (h.ls z hz)
  have b : decide (c.ls = sortU c.ls) = true := decide_eq_true (rise_uniq h.up (sortU_rise _) fun z => sortU_mem.symm)
  have hdl := h.dl
  rw [a, b, decide_eq_false h.own, decide_eq_false (show ¬ (20 : Int) < (c.ds.length : Int) by omega), Bool.true_and]
  show c.ds.all (goodD (c.n :: c.ls)) = true
  rw [List.all_eq_true]
  intro d hd
  obtain ⟨ok, hs, hm⟩ := h.ds d hd
  unfold goodD
  have w1 : decide (d.w ∈ (["add", "cut", "set"] : List Str)) = true := decide_eq_true (by rcases ok.w with e | e | e <;> rw [e] <;> simp)
  have w2 : (d.m.isNone && !decide (d.w = ("add" : Str))) = false := by
    by_cases e : d.w = "add"
    · rw [decide_eq_true e]; simp
    · have := hs e
      cases hm : d.m with
      | none => rw [hm] at this; cases this
      | some _ => rfl
  have w3 : badM (c.n :: c.ls) d.m = false := by
    cases e : d.m with
    | none => rfl
    | some p =>
      obtain ⟨x, k⟩ := p
      have h1 := (ok.m x k e).2.1
      have h2 : x ∈ c.n :: c.ls := by
        rcases hm x k e with rfl | q
        · exact List.mem_cons_self
        · exact List.mem_cons_of_mem _ q
      show (!decide (x ∈ c.n :: c.ls) || decide (k < 0)) = false
      rw [decide_eq_true h2, decide_eq_false (by omega)]; rfl
  have w4 : (decide (d.w = ("cut" : Str)) || goodL (d.l.getD "")) = true := by
    by_cases e : d.w = "cut"
    · rw [decide_eq_true e]; rfl
    · obtain ⟨l, el, hl⟩ := ok.l e
      rw [el, decide_eq_false e]
      show (false || goodL l) = true
      rw [goodL_iff.mpr hl]; rfl
  rw [w1, w2, w3, w4]; rfl
/-- what the law's reading gives, whatever the text -/
def ShW (d : Deed) : Prop := (d.w = "cut" → d.l = none) ∧ (d.w ≠ "cut" → d.l.isSome = true) ∧ ∀ x k, d.m = some (x, k) → k < 1000000000
theorem goodC_back {c : Change} (hl : c.ls.length ≤ 1000) (hd : ∀ d ∈ c.ds, ShW d) (h : goodC c = true) : GoodW c := by
  unfold goodC at h
  rw [Bool.and_eq_true, Bool.and_eq_true, Bool.not_eq_true', Bool.or_eq_false_iff, Bool.or_eq_false_iff, Bool.not_eq_false'] at h
  obtain ⟨h1, ⟨⟨h2, h3⟩, h4⟩, h5⟩ := h
  have h1 := List.all_eq_true.mp h1
  have h2 := of_decide_eq_true h2
  have h3 := of_decide_eq_false h3
  have h4 := of_decide_eq_false h4
  have h5 := List.all_eq_true.mp h5
  have nOk : NameOk c.n := goodN_iff.mp (h1 _ List.mem_cons_self)
  have lsOk : ∀ z ∈ c.ls, NameOk z := fun z hz => goodN_iff.mp (h1 z (List.mem_cons_of_mem _ hz))
  refine ⟨nOk, lsOk, hl, by omega, by rw [h2]; exact sortU_rise _, h3, fun d hd' => ?_⟩
  obtain ⟨s1, s2, s3⟩ := hd d hd'
  have g := h5 d hd'
  unfold goodD at g
  rw [Bool.and_eq_true, Bool.and_eq_true, Bool.not_eq_true', Bool.not_eq_true', Bool.or_eq_false_iff, Bool.not_eq_false'] at g
  obtain ⟨⟨w1, w2⟩, w3, w4⟩ := g
  have w1 := of_decide_eq_true w1
  have w1 : d.w = "add" ∨ d.w = "cut" ∨ d.w = "set" := by simpa using w1
  have mm : ∀ x k, d.m = some (x, k) → x ∈ c.n :: c.ls ∧ 0 ≤ k := fun x k e => by
    rw [e] at w3
    have w3 : (!decide (x ∈ c.n :: c.ls) || decide (k < 0)) = false := w3
    rw [Bool.or_eq_false_iff, Bool.not_eq_false'] at w3
    have := of_decide_eq_false w3.2
    exact ⟨of_decide_eq_true w3.1, by omega⟩
  refine ⟨⟨w1, s1, fun hw => ?_, fun x k e => ⟨?_, (mm x k e).2, s3 x k e⟩⟩, fun hw => ?_, fun x k e => ?_⟩
  · obtain ⟨l, el⟩ := Option.isSome_iff_exists.mp (s2 hw)
    refine ⟨l, el, goodL_iff.mp ?_⟩
    rw [el, decide_eq_false hw] at w4
    simpa using w4
  · rcases List.mem_cons.mp (mm x k e).1 with rfl | q
    · exact nOk
    · exact lsOk x q
  · rw [decide_eq_false hw] at w2
    cases em : d.m with
    | none => rw [em] at w2; exact absurd w2 (by decide)
    | some _ => rfl
  · rcases List.mem_cons.mp (mm x k e).1 with q | q
    · exact .inl q
    · exact .inr q
theorem numW_num {k : Int} (h0 : 0 ≤ k) (h1 : k < 1000000000) : numW (numS k) = k := by
  obtain ⟨a, b⟩ := num_ok h0 h1
  have l := num_len h0 h1
  unfold isNum at a
  rw [Bool.and_eq_true, Bool.and_eq_true, Bool.not_eq_true', Bool.or_eq_false_iff] at a
  have l0 : 1 ≤ (numS k).length := by
    have := of_decide_eq_false a.1.1
    rw [len_cs]
    exact List.length_pos_iff.mpr fun q => this (cs_ext (by rw [q]; rfl))
  unfold numW
  rw [decide_eq_true (show (1 : Int) ≤ ((numS k).length : Int) by omega), decide_eq_true (show ((numS k).length : Int) ≤ 9 by omega), a.2.2, if_neg (by decide), b]; rfl
theorem part_sp {a b : Str} (h : 32 ∉ cs a) : Txt.partition (a ++ (" " : Str) ++ b) (" " : Str) = (a, (" " : Str), b) := TL.partition_app (s := 32) (S := []) (by decide +kernel) h
theorem markW_back {m : Option (Str × Int)} (h : MarkOk m) : markW (markT m) = m := by
  unfold markW
  cases m with
  | none => rfl
  | some p =>
    obtain ⟨x, k⟩ := p
    obtain ⟨hx, h0, h1⟩ := h x k rfl
    have hd : decide (markT (some (x, k)) = ("-" : Str)) = false := decide_eq_false fun q => by
      have q := congrArg List.length (congrArg cs q)
      rw [cs_markT, List.length_append, List.length_cons, ← len_cs] at q
      have := hx.1
      have e : (cs ("-" : Str)).length = 1 := by decide +kernel
      rw [e] at q
      omega
    rw [hd, if_pos (show (!false) = true from rfl)]
    have e : Txt.partition (markT (some (x, k))) " " = (x, (" " : Str), numS k) := part_sp (name_ne hx (by omega))
    rw [e, numW_num h0 h1]
theorem takeD_back {d : Deed} (h : DeedOk' d) : takeD (deedT d) = d := by
  have sp : 32 ∉ cs d.w := word_ne h.w (.inr (.inr rfl))
  have col : 58 ∉ cs (markT d.m) := markT_ne h.m (.inr rfl)
  unfold takeD deedT deedH
  by_cases hw : d.w = "cut"
  · rw [decide_eq_true hw, if_pos rfl, part_sp sp]
    have e : Txt.partition (markT d.m) ": " = (markT d.m, Str.empty, Str.empty) := TL.partition_none (s := 58) (S := [32]) (by decide +kernel) col
    show (⟨d.w, markW (Txt.partition (markT d.m) ": ").1, if decide (d.w = ("cut" : Str)) = true then none else some (Txt.partition (markT d.m) ": ").2.2⟩ : Deed) = d
    rw [e, decide_eq_true hw, if_pos rfl]
    show (⟨d.w, markW (markT d.m), none⟩ : Deed) = d
    rw [markW_back h.m]
    obtain ⟨w, m, l⟩ := d
    have := h.c hw
    dsimp only at this
    subst this
    rfl
  · obtain ⟨l, el, hl⟩ := h.l hw
    rw [decide_eq_false hw, if_neg Bool.false_ne_true]
    have e : d.w ++ " " ++ markT d.m ++ ": " ++ d.l.getD "" = d.w ++ " " ++ (markT d.m ++ ": " ++ l) := by
      refine cs_ext ?_
      rw [el]
      show cs (d.w ++ " " ++ markT d.m ++ ": " ++ l) = _
      simp only [cs_app, List.append_assoc]
    rw [e, part_sp sp]
    have p2 : Txt.partition (markT d.m ++ (": " : Str) ++ l) (": " : Str) = (markT d.m, (": " : Str), l) := TL.partition_app (s := 58) (S := [32]) (by decide +kernel) col
    show (⟨d.w, markW (Txt.partition (markT d.m ++ ": " ++ l) ": ").1, if decide (d.w = ("cut" : Str)) = true then none else some (Txt.partition (markT d.m ++ ": " ++ l) ": ").2.2⟩ : Deed) = d
    rw [p2, decide_eq_false hw, if_neg Bool.false_ne_true]
    show (⟨d.w, markW (markT d.m), some l⟩ : Deed) = d
    rw [markW_back h.m]
    obtain ⟨w, m, l'⟩ := d
    dsimp only at el
    subst el
    rfl
theorem takeC_back {c : Change} (h : GoodW c) : takeC (noteT c) = c := by
  unfold takeC
  rw [split_noteW h]
  show (⟨(Txt.split (headT c.n c.ls) " ").getD (min 1 ((Txt.split (headT c.n c.ls) " ").length - 1)) "", (Txt.split (headT c.n c.ls) " ").drop 3, (c.ds.map deedT).map takeD⟩ : Change) = c
  rw [split_head h.n h.ls, List.map_map]
  have e1 : (c.ds.map (takeD ∘ deedT)) = c.ds := by
    conv => rhs; rw [← List.map_id c.ds]
    exact List.map_congr_left fun d hd => takeD_back (h.ds d hd).ok
  rw [e1]
  obtain ⟨n, ls, ds⟩ := c
  cases ls with
  | nil => rfl
  | cons a r => rfl
/-- THE PROMISE: a text is read just where it is what is written of what the law takes it for -/
theorem read_iff {t : Str} (ht : TOk t) (hl : (takeC t).ls.length ≤ 1000) (hd : ∀ d ∈ (takeC t).ds, ShW d) :
    readF t = if (goodC (takeC t) && decide (noteT (takeC t) = t)) = true then some (takeC t) else none := by
  by_cases h : (goodC (takeC t) && decide (noteT (takeC t) = t)) = true
  · rw [if_pos h]
    rw [Bool.and_eq_true] at h
    have e := of_decide_eq_true h.2
    have g := goodC_back hl hd h.1
    conv => lhs; rw [← e]
    exact readF_back g
  · rw [if_neg h]
    cases e : readF t with
    | none => rfl
    | some c =>
      exfalso
      obtain ⟨h1, h2⟩ := readF_fwd ht e
      refine h ?_
      have e2 : takeC t = c := by rw [← h1]; exact takeC_back h2
      rw [e2, goodC_of h2, decide_eq_true h1]; rfl
end K3

set_option maxHeartbeats 4000000
namespace PD
open PySem L2 PyProof.Rows
section
variable {X : Cx} {W : WX} {e tg : Expr} {ρ : List Sl} {pos : Pos} {T : De} {f : List Sl → PyData → List Sl → Prop}
theorem sd_asgX (h : EX X W (fun C => T.ex C ρ) e ρ) (g : GU X tg f) (h1 : swapsWithSole [tg] e pos.line X.env = pure false := by rfl) (h2 : swappedStores [tg] e X.env = pure none := by rfl) (h3 : (assignEach [tg] X.env).map (·.2) = [assign tg X.env] := by rfl) : SD X W (.Assign [tg] e pos) ρ T := by
  obtain ⟨g1, p1, _⟩ := g
  exact fun F0 H0 F H σ D s l => w_s (ps_asg pe_w p1 h1 h2 h3) (h H0 F H σ _ s.e (l.xc s))
end
end PD
namespace K3
open PySem L2 PD PyProof.Rows LW
theorem readAll_none : ∀ {rs : List Str}, readAll rs = none → ∃ (k : Nat) (p : Str), rs[k]? = some p ∧ readDeed p = none ∧ ∀ (i : Nat) (x : Str), i < k → rs[i]? = some x → ∃ d, readDeed x = some d
  | [], h => nomatch h
  | p :: r, h => by
    unfold readAll at h
    cases e : readDeed p with
    | none => exact ⟨0, p, rfl, e, fun i x hi => absurd hi (Nat.not_lt_zero _)⟩
    | some d =>
      rw [e] at h
      cases e2 : readAll r with
      | some ds => rw [e2] at h; cases h
      | none =>
        obtain ⟨k, q, h1, h2, h3⟩ := readAll_none e2
        refine ⟨k + 1, q, h1, h2, fun i x hi hx => ?_⟩
        cases i with
        | zero => cases hx; exact ⟨d, e⟩
        | succ i => exact h3 i x (by omega) hx
theorem readAll_map : ∀ {rs : List Str} {ds : List Deed}, readAll rs = some ds → rs.map (fun p => qD ((readDeed p).getD ⟨"", none, none⟩)) = ds.map qD ∧ ∀ p ∈ rs, ∃ d, readDeed p = some d ∧ d ∈ ds
  | [], ds, h => by cases h; exact ⟨rfl, fun p hp => nomatch hp⟩
  | p :: r, ds, h => by
    unfold readAll at h
    cases e : readDeed p with
    | none => rw [e] at h; cases h
    | some d =>
      rw [e] at h
      cases e2 : readAll r with
      | none => rw [e2] at h; cases h
      | some ds2 =>
        rw [e2] at h
        cases h
        obtain ⟨a, b⟩ := readAll_map e2
        refine ⟨by rw [List.map_cons, List.map_cons, a, e]; rfl, fun x hx => ?_⟩
        rcases List.mem_cons.mp hx with rfl | hx
        · exact ⟨d, e, List.mem_cons_self⟩
        · obtain ⟨y, h1, h2⟩ := b x hx
          exact ⟨y, h1, List.mem_cons_of_mem _ h2⟩
theorem part_rd {p y : Str} (hp : Tx0 p) (hy : cs y ≠ []) : Tx0 (Txt.partition p y).1 ∧ Tx0 (Txt.partition p y).2.2 := ⟨(part_sub hy).1.tx hp, (part_sub hy).2.tx hp⟩
theorem readMark_rd {t : Str} (ht : Tx0 t) {x : Str} {k : Int} (h : readMark t = some (some (x, k))) : Tx0 x := by
  unfold readMark at h
  by_cases e : t = ("-" : Str)
  · rw [if_pos (decide_eq_true e)] at h; cases h
  · rw [if_neg (by rw [decide_eq_false e]; exact Bool.false_ne_true)] at h
    cases es : Txt.split t " " with
    | nil => rw [es] at h; first | exact nomatch h | simp at h
    | cons a r =>
      cases r with
      | nil => rw [es] at h; first | exact nomatch h | simp at h
      | cons b r =>
        cases r with
        | cons c r => rw [es] at h; first | exact nomatch h | simp at h
        | nil =>
          rw [es] at h
          have h : (if isNum b = true then some (some (a, (PySem.intText? b).getD 0)) else none) = some (some (x, k)) := h
          by_cases hn : isNum b = true
          · rw [if_pos hn] at h
            cases h
            exact words_rd ht (by rw [es]; exact List.mem_cons_self)
          · rw [if_neg hn] at h; cases h
theorem readDeed_rd {p : Str} (hp : Tx0 p) {d : Deed} (h : readDeed p = some d) : DeedOk d := by
  obtain ⟨_, s1, s2, _⟩ := readDeed_fwd h
  have q1 := part_rd (y := " ") hp (by decide +kernel)
  have q2 := part_rd (y := ": ") q1.2 (by decide +kernel)
  unfold readDeed at h
  by_cases hw : (Txt.partition p " ").1 = ("cut" : Str)
  · rw [if_pos (decide_eq_true hw)] at h
    cases em : readMark (Txt.partition p " ").2.2 with
    | none => rw [em] at h; cases h
    | some m =>
      rw [em] at h
      cases h
      exact ⟨q1.1, s2, (fun l e => nomatch e), fun x k e => readMark_rd q1.2 (by rw [em]; exact congrArg some e)⟩
  · rw [if_neg (by rw [decide_eq_false hw]; exact Bool.false_ne_true)] at h
    by_cases hc : (Txt.partition (Txt.partition p " ").2.2 ": ").2.1 = ("" : Str)
    · rw [if_pos (decide_eq_true hc)] at h; cases h
    · rw [if_neg (by rw [decide_eq_false hc]; exact Bool.false_ne_true)] at h
      cases em : readMark (Txt.partition (Txt.partition p " ").2.2 ": ").1 with
      | none => rw [em] at h; cases h
      | some m =>
        rw [em] at h
        cases h
        exact ⟨q1.1, s2, (fun l e => by cases e; exact q2.2), fun x k e => readMark_rd q2.1 (by rw [em]; exact congrArg some e)⟩
theorem readHead_rd {p n : Str} {ls : List Str} (hp : Tx0 p) (h : readHead p = some (n, ls)) : Tx0 n ∧ (∀ z ∈ ls, Tx0 z) ∧ ls.length ≤ 1000 := by
  obtain ⟨_, f2⟩ := readHead_fwd h
  have wl := words_len hp
  refine ⟨?_, fun z hz => words_rd hp (List.mem_of_mem_drop (f2 ▸ hz)), by rw [f2, List.length_drop]; omega⟩
  have en : n = (Txt.split p " ").getD 1 "" := by
    unfold readHead at h
    dsimp only at h
    split at h
    · cases h
    · split at h
      · exact (Prod.mk.inj (Option.some.inj h)).1.symm
      · split at h
        · cases h
        · exact (Prod.mk.inj (Option.some.inj h)).1.symm
  rw [en, List.getD_eq_getElem?_getD]
  cases e : (Txt.split p " ")[1]? with
  | none => exact ⟨Nat.zero_le _, fun c hc => nomatch hc⟩
  | some z => exact words_rd hp (List.mem_of_getElem? e)
/-! ### read -/
structure ExK (K : PySem.W.Frag) (mg : Str → Option Value) (cB cN cX : Addr) : Prop where
  bad : mg "BadChange" = some (.ref cB)
  not : mg "NotLeaned" = some (.ref cN)
  b : PySem.W.exmAny K (.ref cB) [.ref cB, .ref cN] = some true
  n : PySem.W.exmAny K (.ref cN) [.ref cB, .ref cN] = some true
section
variable {P : Program} {w : World} {K : PySem.W.Frag} {mg : Str → Option Value} {base : Heap} {cB cN cX : Addr}
abbrev sRead : Stmt := topS 27
abbrev nRead : List Str := ["text", "rows", "name", "leans", "change", "row"]
theorem scRead : FnScope nRead ["text"] (defScope sRead) := ⟨rfl, rfl, rfl, by decide +kernel, rfl, by decide +kernel, by decide +kernel⟩
theorem ndRead : (nRead).Nodup := scRead.nd
theorem loRead : (["text", "rows", "name", "leans", "change"] : List Str).all (locB (defScope sRead)) = true := by decide +kernel
theorem glRead : (["read_head", "check", "BadChange", "NotLeaned", "NoNote"] : List Str).all (glB (defScope sRead)) = true := by decide +kernel
def outR (cX : Addr) : Option Change → DOut
  | none => .exc cX
  | some c => .val (qC c)
def rRead (cX : Addr) : List Sl → DOut → Prop := fun as o => ∃ t, as = [.sh (.str t)] ∧ TOk t ∧ o = outR cX (readF t)
theorem okRead {f : Addr} {fd : FuncData} (F : Fun K "read" "read" sRead f fd) (T : TxN K mg cX) (XK : ExK K mg cB cN cX) (cReadHead : Cal P w K mg base 1 "read_head" 1 (rReadHead K cX)) (cReadDeed : Cal P w K mg base 3 "read_deed" 1 (rReadDeed cX)) (cCheck : Cal P w K mg base 4 "check" 1 (rCheck cB cN)) : FnOk P w K mg base (CM P w) 5 f fd ["text"] (spM K 1 (rRead cX)) := by
  refine fnM F scRead (by decide) fun cdv A outer s H E as o hr hl hR => ?_
  obtain ⟨t, rfl, ok, rfl⟩ := hR
  have hc : (cxOf (CM P w) P w K mg base nRead "read" (defScope sRead) f cdv A outer s H E).calm = true := rfl
  have tkM : TakesM (cxOf (CM P w) P w K mg base nRead "read" (defScope sRead) f cdv A outer s H E) (fun c d _ H' => E c d H') := takesM_of rfl rfl rfl rfl
  have tk : L2N.Takes (cxOf (CM P w) P w K mg base nRead "read" (defScope sRead) f cdv A outer s H E) (Wr E) := takes_wr tkM
  have lt := ok.len
  have lrows := ok.rows
  have hrow : Tx0 ((Txt.split t "\n").headD "") := ok.row _ (by rw [rows_at t]; exact List.mem_cons_self)
  have hat : atI ((Txt.split t "\n").map PyData.str) (0 : Int) = some (.str ((Txt.split t "\n").headD "")) := by
    have e := rows_at t
    exact atI_nat (j := 0) (by rw [List.getElem?_map, e]; rfl)
  refine sds_cons (sd_setL (i := 1) ndRead rfl (loc_of loRead 1) (.inl rfl) (el_split (ed_v loRead 0) ed_str one_end (by omega)) (fun r1 => ?_))
  unfold readF
  cases e1 : readHead ((Txt.split t "\n").headD "") with
  | none =>
    refine sds_cons (sd_asgX (ex_call cReadHead (hr.mono (by decide)) (gl_of glRead 0) tk (ea_d (ed_ixL (eb_v loRead 1) ed_int hat) ea_nil) rfl (D := cX) ⟨_, rfl, hrow, by rw [e1]; rfl⟩ rfl) (gu_tup hc (gus_cons (gu_name (j := 2) ndRead rfl (loc_of loRead 2) (.inl rfl)) (gus_cons (gu_name (j := 3) ndRead rfl (loc_of loRead 3) (.inl rfl)) gus_nil))))
  | some p =>
    obtain ⟨n, ls⟩ := p
    obtain ⟨tn, tls, lls⟩ := readHead_rd hrow e1
    refine sds_cons (sd_asgPr (i := 2) (j := 3) hc ndRead rfl (loc_of loRead 2) (.inl rfl) rfl (loc_of loRead 3) (.inl rfl) (eo_call (P := prP K n (ls.map .str)) cReadHead (hr.mono (by decide)) (gl_of glRead 0) tk (ea_d (ed_ixL (eb_v loRead 1) ed_int hat) ea_nil) rfl ⟨_, rfl, hrow, by rw [e1]; rfl⟩) (fun l3 => ?_))
    refine sds_frz (i := 3) rfl ?_
    have cutRows : cutD ((Txt.split t "\n").map PyData.str) (some (1 : Int)) none = ((Txt.split t "\n").drop 1).map PyData.str := by
      have := cutD_drop ((Txt.split t "\n").map PyData.str) 1
      rw [show ((1 : Nat) : Int) = 1 from rfl] at this
      rw [this, List.map_drop]
    have ldrop : ((Txt.split t "\n").drop 1).length ≤ 50000 := by rw [List.length_drop]; omega
    have rowTx : ∀ p ∈ (Txt.split t "\n").drop 1, Tx0 p := fun p hp => ok.row p (List.mem_of_mem_drop hp)
    cases e2 : readAll ((Txt.split t "\n").drop 1) with
    | none =>
      obtain ⟨kx, p0, g1, g2, g3⟩ := readAll_none e2
      refine sds_cons (sd_setX (i := 4) ndRead rfl (loc_of loRead 4) (.inl rfl) (ex_tup (eax_next (ed_v loRead 2) (eax_next (ed_v loRead 3) (eax_here (ex_lcX (j := 5) ⟨hc, ndRead, blkOk_by (N := nRead) (sc := defScope sRead) (by decide +kernel), by decide, rfl, rfl, by intro _; rfl⟩ rfl rfl tk ((Txt.split t "\n").drop 1) PyData.str (fun _ => true) (fun p => qD ((readDeed p).getD ⟨"", none, none⟩)) (EL.pst (EL.to (el_cut (l := some 1) (u := none) (eb_v loRead 1) ed_int trivial) cutRows)) ldrop kx p0 g1 rfl (C := cX) rfl (fun x hx s H C cl fp => rfl) (fun i x hi hx _ Wb s H C cl fp pn xe tkb => ?_) (fun Wb s H C cl fp pn xe tkb => ?_)))))))
      · obtain ⟨d, ed⟩ := g3 i x hi hx
        exact ed_call cReadDeed (hr.mono (by decide)) gl_bt tkb (ea_d (ed_bt 5) ea_nil) rfl ⟨x, rfl, rowTx x (List.mem_of_getElem? hx), by rw [ed]; rfl⟩
      · exact ex_call cReadDeed (hr.mono (by decide)) gl_bt tkb (ea_d (ed_bt 5) ea_nil) rfl (D := cX) ⟨p0, rfl, rowTx p0 (List.mem_of_getElem? g1), by rw [g2]; rfl⟩ rfl
    | some ds =>
      obtain ⟨m1, m2⟩ := readAll_map e2
      obtain ⟨f1, f2⟩ := readAll_fwd e2
      have dlen : ds.length ≤ 1000 := by
        have := congrArg List.length f1
        rw [List.length_map, List.length_drop] at this
        omega
      have cOk : ChangeOk ⟨n, ls, ds⟩ := ⟨tn, tls, lls, dlen, fun d hd => by
        have hm : deedT d ∈ (Txt.split t "\n").drop 1 := by rw [← f1]; exact List.mem_map_of_mem hd
        have hp := rowTx _ hm
        obtain ⟨d2, e3, _⟩ := m2 _ hm
        have all : ∀ {rs : List Str} {xs : List Deed}, readAll rs = some xs → ∀ x ∈ xs, ∃ p ∈ rs, readDeed p = some x := by
          intro rs
          induction rs with
          | nil => intro xs h x hx; cases h; cases hx
          | cons p r ih =>
            intro xs h x hx
            unfold readAll at h
            cases e : readDeed p with
            | none => rw [e] at h; cases h
            | some d =>
              rw [e] at h
              cases e2 : readAll r with
              | none => rw [e2] at h; cases h
              | some ys =>
                rw [e2] at h
                cases h
                rcases List.mem_cons.mp hx with rfl | hx
                · exact ⟨p, List.mem_cons_self, e⟩
                · obtain ⟨p2, h1, h2⟩ := ih e2 x hx
                  exact ⟨p2, List.mem_cons_of_mem _ h1, h2⟩
        obtain ⟨p2, h1, h2⟩ := all e2 d hd
        exact readDeed_rd (rowTx p2 h1) h2⟩
      refine sds_cons (sd_set (i := 4) (d := qC ⟨n, ls, ds⟩) ndRead rfl (loc_of loRead 4) (.inl rfl) (ed_tup (ds := [_, _, _]) (ea_d (ed_v loRead 2) (ea_d (ed_v loRead 3) (ea_d (EL.dat (EL.to (el_lc (j := 5) ⟨hc, ndRead, blkOk_by (N := nRead) (sc := defScope sRead) (by decide +kernel), by decide, rfl, rfl, by intro _; rfl⟩ ((Txt.split t "\n").drop 1) PyData.str (fun _ => true) (fun p => qD ((readDeed p).getD ⟨"", none, none⟩)) (EL.pst (EL.to (el_cut (l := some 1) (u := none) (eb_v loRead 1) ed_int trivial) cutRows)) ldrop (fun x hx s H C cl fp => rfl) (fun x hx _ s H C cl fp => by
        obtain ⟨d, ed, _⟩ := m2 x hx
        exact ed_call cReadDeed (hr.mono (by decide)) gl_b takesN0 (ea_d (ed_b 5) ea_nil) rfl ⟨x, rfl, rowTx x hx, by rw [ed]; rfl⟩)) ((lc_all _ _).trans m1))) ea_nil))) le_b) ?_)
      show SDs _ _ _ _ (deOf (outR cX (if (K3.chk ⟨n, ls, ds⟩).isNone = true then some ⟨n, ls, ds⟩ else none)))
      cases ek : K3.chk ⟨n, ls, ds⟩ with
      | none =>
        rw [if_pos (show (none : Option Bool).isNone = true from rfl)]
        refine sds_cons (sd_tryTup (x1 := "BadChange") (x2 := "NotLeaned") (c1 := .ref cB) (c2 := .ref cN) (fun _ _ => False) rfl rfl ⟨gl_of glRead 2, by decide, .inl XK.bad⟩ ⟨gl_of glRead 3, by decide, .inl XK.not⟩ (L2H.passesAt_of rfl) tkM (fun W0 pn xe tk0 po => ?_) (fun C ρ1 z => z.elim))
        · refine sds_one (sd_expr (ed_call cCheck (hr.mono (by decide)) (gl_of glRead 1) tk0 (ea_d (ed_v loRead 4) ea_nil) rfl ⟨_, rfl, cOk, by rw [ek]; rfl⟩) ?_)
          exact sds_one (sd_ret (ed_v loRead 4) rfl)
      | some b =>
        rw [if_neg (show ¬ (some b : Option Bool).isNone = true from Bool.false_ne_true)]
        refine sds_cons (sd_tryTup (x1 := "BadChange") (x2 := "NotLeaned") (c1 := .ref cB) (c2 := .ref cN) (fun C _ => C = cB ∨ C = cN) rfl rfl ⟨gl_of glRead 2, by decide, .inl XK.bad⟩ ⟨gl_of glRead 3, by decide, .inl XK.not⟩ (L2H.passesAt_of rfl) tkM (fun W0 pn xe tk0 po => ?_) (fun C ρ1 z => ?_))
        · cases b with
          | true => exact sds_one (sd_exprX (ex_call cCheck (hr.mono (by decide)) (gl_of glRead 1) tk0 (ea_d (ed_v loRead 4) ea_nil) rfl (D := cB) ⟨_, rfl, cOk, by rw [ek]; rfl⟩ (.inl rfl)))
          | false => exact sds_one (sd_exprX (ex_call cCheck (hr.mono (by decide)) (gl_of glRead 1) tk0 (ea_d (ed_v loRead 4) ea_nil) rfl (D := cN) ⟨_, rfl, cOk, by rw [ek]; rfl⟩ (.inr rfl)))
        · refine ⟨(by rcases z with rfl | rfl <;> first | exact XK.b | exact XK.n), fun a pn hot tkS => ?_⟩
          exact sds_one (sd_rzM T.note hot tkS (gl_of glRead 4) ed_str rfl)
end
end K3

set_option maxHeartbeats 4000000
namespace PD
open PySem L2 PyProof.Rows
section
variable {X : Cx} {W : WX} {ex : Addr → Prop} {elt iter : Expr} {ifs : List Expr} {ρ : List Sl} {p pos spos tpos : Pos} {T : De} {scope : Scope} {n y : Str} {i j : Nat}
/-- y = [.. for n in a text ..] -/
theorem sd_lcS {z : Str} (L : LcOk X scope ifs n j iter) (hy : X.N[i]? = some y) (hyl : X.env.scope.names.lookup y = some .local) (bt : Nat → Bool) (g : Nat → PyData) (h : ED X W (fun C => T.ex C ρ) iter ρ (.str z)) (hz : z.length ≤ 50000)
    (hT : ∀ x ∈ z.cps.toList, Blk X scope fun Y => TsD Y ifs ((ρ.set j .un).set j (.sh (.str ⟨#[x]⟩))) (bt x)) (hG : ∀ x ∈ z.cps.toList, bt x = true → Blk X scope fun Y => ED Y noW noX elt ((ρ.set j .un).set j (.sh (.str ⟨#[x]⟩))) (g x))
    (hsw : swapsWith (.ListComp elt [⟨.Name n tpos, iter, ifs, 0⟩] scope pos) (some (.Name y p)) spos.line X.env = pure true) (k : ∀ r, T.nx (ρ.set i (.ow r ((z.cps.toList.filter bt).map g)))) :
    SD X W (.Assign [.Name y p] (.ListComp elt [⟨.Name n tpos, iter, ifs, 0⟩] scope pos) spos) ρ T := fun F0 H0 F H σ D s l =>
  w_s (ps_setLc (own := [(n, j)]) L.calm L.nd hy hyl hsw (pi_str pe_w) L.blk (lc_tgt L) (fun _ _ _ _ _ => pts_wb L.one) (fun _ _ _ _ _ => pe_wb) L.fset) (by
    refine h H0 F H σ _ s.e (l.xc s) fun v F1 H1 x1 i1 => ⟨z, i1.str_eq, fun D1 hD => ?_⟩
    have sz : z.cps.size = z.cps.toList.length := by simp
    have fin : ∀ H', Cm X.K F1 H1 D1 ((z.cps.toList.filter bt).map g) H' → D.nx (σ.set i (some (.ref D1))) H' := fun H' ⟨F', acc, x2, f0, h0, ia⟩ =>
      l.nx _ _ F' H' (k D1) ⟨s.x.trans (x1.trans x2), s.e.own (x1.trans x2) (x1.h.back hD) f0 h0 ia⟩
    refine ⟨fun i m H' => m = z.cps.size - i ∧ Cm X.K F1 H1 D1 (((z.cps.toList.take i).filter bt).map g) H', ⟨z.cps.size, by omega, F1, [], Ext.kept x1.i hD, x1.i.back hD, upd_same, .nil⟩, ?_⟩
    rintro i m H' ⟨rfl, hc⟩
    by_cases hi : i < z.cps.size
    · refine .inr ⟨hi, fun H2 => Cm X.K F1 H1 D1 (((z.cps.toList.take (i + 1)).filter bt).map g) H2, fun H2 q => ⟨z.cps.size - (i + 1), by omega, rfl, q⟩, ?_⟩
      rintro x H2 ⟨rfl, cc, hcc, rfl⟩
      have hi2 : z.cps.toList[i]? = some cc := by rw [Array.getElem?_toList]; exact hcc
      exact lc_run (wi := iStr (WE X iter)) (J := Its z) (Q := fun v H' => ∃ D1, v = .ref D1 ∧ Cm X.K F1 H1 D1 ((z.cps.toList.filter bt).map g) H') z.cps.toList (fun x => .str ⟨#[x]⟩) bt g (by rw [← sz]; exact hz) (s.e.ext x1) hT hG hD (fun H' c => ⟨D1, rfl, c⟩) i cc _ H2 hi2 (.str _) hc
    · refine .inl ⟨by show z.cps.size ≤ i; omega, ?_⟩
      rw [List.take_of_length_le (by rw [← sz]; omega)] at hc
      exact fin H' hc)
end
theorem eqv_strs : ∀ (xs ys : List Str), PyData.eqv (.list (xs.map .str)) (.list (ys.map .str)) = decide (xs = ys) := by
  intro xs ys
  have go : ∀ (xs ys : List Str), PyData.eqvAll (xs.map .str) (ys.map .str) = decide (xs = ys) := by
    intro xs
    induction xs with
    | nil => intro ys; cases ys <;> simp [PyData.eqvAll]
    | cons x r ih =>
      intro ys
      cases ys with
      | nil => simp [PyData.eqvAll]
      | cons y s =>
        have e : PyData.eqv (.str x) (.str y) = decide (x = y) := by
          rw [Bool.eq_iff_iff]
          simp [PyData.eqv]
        simp only [List.map_cons, PyData.eqvAll, e, ih s, List.cons.injEq, Bool.decide_and]
  simp only [PyData.eqv, go]
end PD
namespace K3
open PySem L2 PD PyProof.Rows LW
theorem dv_lt : ∀ (l : List Nat), (∀ c ∈ l, 48 ≤ c ∧ c ≤ 57) → NumText.digitsVal l < 10 ^ l.length := by
  intro l
  generalize hn : l.length = n
  induction n generalizing l with
  | zero => intro _; rw [List.length_eq_zero_iff.mp hn]; decide
  | succ n ih =>
    intro h
    have hne : l ≠ [] := fun q => by rw [q] at hn; cases hn
    obtain ⟨r, c, rfl⟩ : ∃ r c, l = r ++ [c] := ⟨l.dropLast, l.getLast hne, (List.dropLast_concat_getLast hne).symm⟩
    rw [List.length_append, List.length_singleton] at hn
    have hr := ih r (by omega) fun d hd => h d (List.mem_append_left _ hd)
    have hc := h c (by simp)
    rw [NumText.digitsVal_snoc, Nat.pow_succ]
    omega
theorem numW_lt (z : Str) : numW z < 1000000000 := by
  unfold numW
  split
  · decide
  · rename_i h
    have h : (!(decide (1 ≤ (z.length : Int)) && decide ((z.length : Int) ≤ 9)) || !((cs z).all fun c => decide (c ∈ cs figs))) = false := by simpa using h
    rw [Bool.or_eq_false_iff, Bool.not_eq_false', Bool.not_eq_false', Bool.and_eq_true] at h
    obtain ⟨⟨h1, h2⟩, h3⟩ := h
    have h1 := of_decide_eq_true h1
    have h2 := of_decide_eq_true h2
    have hd : ∀ c ∈ cs z, 48 ≤ c ∧ c ≤ 57 := fun c hc => fig_iff.mp (of_decide_eq_true (List.all_eq_true.mp h3 c hc))
    have hne : cs z ≠ [] := fun q => by rw [len_cs, q] at h1; exact absurd h1 (by decide)
    rw [intText_digits (x := z) hd hne (by omega)]
    show ((NumText.digitsVal (cs z) : Nat) : Int) < 1000000000
    have l9 : (cs z).length ≤ 9 := by rw [← len_cs]; omega
    have b := dv_lt (cs z) hd
    have m : 10 ^ (cs z).length ≤ 10 ^ 9 := Nat.pow_le_pow_right (by decide) l9
    omega
theorem numW_int {z : Str} (h : (!(decide (1 ≤ (z.length : Int)) && decide ((z.length : Int) ≤ 9)) || !((cs z).all fun c => decide (c ∈ cs figs))) = false) : PySem.intText? z = some (numW z) ∧ z.length ≤ 9 := by
  have e : numW z = (PySem.intText? z).getD 0 := by unfold numW; rw [h]; rfl
  rw [Bool.or_eq_false_iff, Bool.not_eq_false', Bool.not_eq_false', Bool.and_eq_true] at h
  obtain ⟨⟨h1, h2⟩, h3⟩ := h
  have h1 := of_decide_eq_true h1
  have h2 := of_decide_eq_true h2
  have hd : ∀ c ∈ cs z, 48 ≤ c ∧ c ≤ 57 := fun c hc => fig_iff.mp (of_decide_eq_true (List.all_eq_true.mp h3 c hc))
  have hne : cs z ≠ [] := fun q => by rw [len_cs, q] at h1; exact absurd h1 (by decide)
  have i := intText_digits (x := z) hd hne (by omega)
  exact ⟨by rw [e, i]; rfl, by omega⟩
theorem takeD_sh (row : Str) : ShW (takeD row) := by
  refine ⟨fun h => ?_, fun h => ?_, fun x k h => ?_⟩
  · show (if decide ((Txt.partition row " ").1 = ("cut" : Str)) = true then none else _) = none
    exact if_pos (decide_eq_true h)
  · show (if decide ((Txt.partition row " ").1 = ("cut" : Str)) = true then none else some _).isSome = true
    have h : (Txt.partition row " ").1 ≠ "cut" := h
    rw [if_neg (by rw [decide_eq_false h]; exact Bool.false_ne_true)]; rfl
  · have h : markW (Txt.partition (Txt.partition row " ").2.2 ": ").1 = some (x, k) := h
    unfold markW at h
    split at h
    · cases h
      exact numW_lt _
    · cases h
theorem takeD_ok {row : Str} (hp : Tx0 row) : DeedOk (takeD row) := by
  have q1 := part_rd (y := " ") hp (by decide +kernel)
  have q2 := part_rd (y := ": ") q1.2 (by decide +kernel)
  have q3 := part_rd (y := " ") q2.1 (by decide +kernel)
  refine ⟨q1.1, (takeD_sh row).2.1, fun l h => ?_, fun x k h => ?_⟩
  · have h : (if decide ((Txt.partition row " ").1 = ("cut" : Str)) = true then none else some (Txt.partition (Txt.partition row " ").2.2 ": ").2.2) = some l := h
    split at h
    · cases h
    · cases h; exact q2.2
  · have h : markW (Txt.partition (Txt.partition row " ").2.2 ": ").1 = some (x, k) := h
    unfold markW at h
    split at h
    · cases h
      exact q3.1
    · cases h
theorem takeC_ok {t : Str} (ht : TOk t) : ChangeOk (takeC t) ∧ ∀ d ∈ (takeC t).ds, ShW d := by
  have hrow : Tx0 ((Txt.split t "\n").headD "") := ht.row _ (by rw [rows_at t]; exact List.mem_cons_self)
  have wl := words_len hrow
  have lr := ht.rows
  refine ⟨⟨?_, fun z hz => words_rd hrow (List.mem_of_mem_drop hz), ?_, ?_, fun d hd => ?_⟩, fun d hd => ?_⟩
  · show Tx0 ((Txt.split ((Txt.split t "\n").headD "") " ").getD _ "")
    rw [List.getD_eq_getElem?_getD]
    cases e : (Txt.split ((Txt.split t "\n").headD "") " ")[min 1 ((Txt.split ((Txt.split t "\n").headD "") " ").length - 1)]? with
    | none => exact ⟨Nat.zero_le _, fun c hc => nomatch hc⟩
    | some z => exact words_rd hrow (List.mem_of_getElem? e)
  · show ((Txt.split ((Txt.split t "\n").headD "") " ").drop 3).length ≤ 1000
    rw [List.length_drop]; omega
  · show (((Txt.split t "\n").drop 1).map takeD).length ≤ 1000
    rw [List.length_map, List.length_drop]; omega
  · obtain ⟨p, hp, rfl⟩ := List.mem_map.mp (show d ∈ ((Txt.split t "\n").drop 1).map takeD from hd)
    exact takeD_ok (ht.row p (List.mem_of_mem_drop hp))
  · obtain ⟨p, hp, rfl⟩ := List.mem_map.mp (show d ∈ ((Txt.split t "\n").drop 1).map takeD from hd)
    exact takeD_sh p
/-- what the law's own defs use of the top -/
structure TxL (mg : Str → Option Value) : Prop where
  len : mg "len" = none
  all : mg "all" = none
  int : mg "int" = none
  sorted : mg "sorted" = none
  set : mg "set" = none
  min : mg "min" = none
  range : mg "range" = none
section
variable {P : Program} {w : World} {K : PySem.W.Frag} {mg : Str → Option Value} {base : Heap} {cB cN cX : Addr}
/-! _law_number -/
abbrev sNumber : Stmt := topS 53
abbrev nNumber : List Str := ["_law_word", "_law_sign"]
theorem scNumber : FnScope nNumber ["_law_word"] (defScope sNumber) := ⟨rfl, rfl, rfl, by decide +kernel, rfl, by decide +kernel, by decide +kernel⟩
theorem ndNumber : (nNumber).Nodup := scNumber.nd
theorem loNumber : (["_law_word"] : List Str).all (locB (defScope sNumber)) = true := by decide +kernel
theorem glNumber : (["len", "all", "int"] : List Str).all (glB (defScope sNumber)) = true := by decide +kernel
def rNumber : List Sl → DOut → Prop := fun as o => ∃ z, as = [.sh (.str z)] ∧ Tx0 z ∧ o = .val (.int (numW z))
theorem okNumber {f : Addr} {fd : FuncData} (F : Fun K "_law_number" "_law_number" sNumber f fd) (T : TxL mg) : FnOk P w K mg base (L2N.CX P w) 1 f fd ["_law_word"] (spD K 1 rNumber) := by
  refine fnD F scNumber (by decide) fun cdv A outer s H E as o hr hl hR => ?_
  obtain ⟨z, rfl, hz, rfl⟩ := hR
  have hc : (cxOf (L2N.CX P w) P w K mg base nNumber "_law_number" (defScope sNumber) f cdv A outer s H E).calm = true := rfl
  have lz : z.length ≤ 1000 := hz.1
  refine sds_cons (sd_if (et_w (ew_or (et_not (et_ch cd_le cd_le ed_int (ed_lenS (ed_v loNumber 0) (by omega) (gl_of glNumber 0) T.len) ed_int)) (fun _ => (ew_or1 (et_not (et_val (ed_all (bs := z.cps.toList.map fun c => decide (c ∈ figs.cps.toList)) hc (EL.rd (EL.to (el_lcS (j := 1) ⟨hc, ndNumber, blkOk_by (N := nNumber) (sc := defScope sNumber) (by decide +kernel), by decide, rfl, rfl, by intro _; rfl⟩ (fun _ => true) _ (ed_v loNumber 0) (by omega) (fun x hx s H C cl fp => rfl) (fun x hx _ s H C cl fp => (ed_c (cd_inC (w := figs)) (ed_b 1) ed_str))) (by rw [lc_all, List.map_map]; rfl))) (gl_of glNumber 1) T.all))))))) (fun hb => ?_) (fun hb => ?_))
  · refine sds_one (sd_ret (ed_neg ed_int) ?_)
    show PyData.int (-1) = .int (numW z)
    rw [List.all_map] at hb
    unfold numW
    rw [show (!(decide (1 ≤ (z.length : Int)) && decide ((z.length : Int) ≤ 9)) || !((cs z).all fun c => decide (c ∈ cs figs))) = true from hb]; rfl
  · rw [List.all_map] at hb
    obtain ⟨h1, h2⟩ := numW_int (z := z) hb
    exact sds_nil (sds_one (sd_ret (ed_intS (ed_v loNumber 0) h1 (by omega) (gl_of glNumber 2) T.int) rfl))
/-! _law_good_deed -/
abbrev sGoodDeed : Stmt := topS 51
abbrev nGoodDeed : List Str := ["_law_deed", "_law_names", "_law_sign"]
theorem scGoodDeed : FnScope nGoodDeed ["_law_deed", "_law_names"] (defScope sGoodDeed) := ⟨rfl, rfl, rfl, by decide +kernel, rfl, by decide +kernel, by decide +kernel⟩
theorem ndGoodDeed : (nGoodDeed).Nodup := scGoodDeed.nd
theorem loGoodDeed : (["_law_deed", "_law_names"] : List Str).all (locB (defScope sGoodDeed)) = true := by decide +kernel
theorem glGoodDeed : (["len", "all"] : List Str).all (glB (defScope sGoodDeed)) = true := by decide +kernel
def rGoodDeed : List Sl → DOut → Prop := fun as o => ∃ (d : Deed) (ns : List Str), as = [.sh (qD d), .sh (.list (ns.map .str))] ∧ DeedOk d ∧ o = .val (.bool (goodD ns d))
theorem okGoodDeed {f : Addr} {fd : FuncData} (F : Fun K "_law_good_deed" "_law_good_deed" sGoodDeed f fd) (T : TxL mg) : FnOk P w K mg base (L2N.CX P w) 1 f fd ["_law_deed", "_law_names"] (spD K 2 rGoodDeed) := by
  refine fnD F scGoodDeed (by decide) fun cdv A outer s H E as o hr hl hR => ?_
  obtain ⟨d, ns, rfl, hd, rfl⟩ := hR
  have hc : (cxOf (L2N.CX P w) P w K mg base nGoodDeed "_law_good_deed" (defScope sGoodDeed) f cdv A outer s H E).calm = true := rfl
  obtain ⟨r, er, hl2⟩ := qD_tup d
  obtain ⟨hw, hcut, htl, hm⟩ := hd
  rw [er]
  have hN : isNone (qM d.m) = d.m.isNone := none_qM _
  refine sds_cons (sd_if (et_w (ew_or (et_c (cd_niT (zs := ["add", "cut", "set"])) (ed_ixT (ed_v loGoodDeed 0) ed_int (atI_nat (j := 0) rfl)) (ed_tup (ds := [_, _, _]) (ea_d ed_str (ea_d ed_str (ea_d ed_str ea_nil))) le_b)) (fun _ => (ew_or1 (et_w (ew_and (et_c cd_isN (ed_ixT (ed_v loGoodDeed 0) ed_int (atI_nat (j := 1) rfl)) ed_non) (fun _ => (ew_and1 (et_c cd_neS (ed_ixT (ed_v loGoodDeed 0) ed_int (atI_nat (j := 0) rfl)) ed_str))))))))) (fun hb => ?_) (fun hb => ?_))
  · refine sds_one (sd_ret ed_bl ?_)
    show PyData.bool false = .bool (goodD ns d)
    rw [hN] at hb
    unfold goodD
    rw [hb]; rfl
  refine sds_nil ?_
  rw [hN] at hb
  refine sds_cons (sd_if (k := badM ns d.m) ?_ (fun hb2 => ?_) (fun hb2 => ?_))
  · cases em : d.m with
    | none => exact ET.to (et_w (ew_and (l := false) (et_c cd_notN (ed_ixT (ed_v loGoodDeed 0) ed_int (atI_nat (j := 1) rfl)) ed_non) (fun h => absurd h (by decide)))) rfl
    | some p =>
      obtain ⟨x, k⟩ := p
      exact ET.to (et_w (ew_and (et_c cd_notN (ed_ixT (ed_v loGoodDeed 0) ed_int (atI_nat (j := 1) rfl)) ed_non) (fun _ => (ew_and1 (et_w (ew_or (et_niL (zs := ns) (ed_ixT (ed_ixT (ed_v loGoodDeed 0) ed_int (atI_nat (j := 1) rfl)) ed_int (atI_nat (j := 0) rfl)) (ED.rd (ed_v loGoodDeed 1))) (fun _ => (ew_or1 (et_c cd_lt (ed_ixT (ed_ixT (ed_v loGoodDeed 0) ed_int (atI_nat (j := 1) rfl)) ed_int (atI_nat (j := 1) rfl)) ed_int))))))))) rfl
  · refine sds_one (sd_ret ed_bl ?_)
    show PyData.bool false = .bool (goodD ns d)
    unfold goodD
    rw [hb, hb2]; rfl
  refine sds_nil ?_
  by_cases hcw : d.w = "cut"
  · refine sds_one (sd_ret (ed_or (l := true) (ed_c (cd_eqS (i := d.w) (j := "cut")) (ed_ixT (ed_v loGoodDeed 0) ed_int (atI_nat (j := 0) rfl)) ed_str) (fun h => absurd h (by rw [decide_eq_true hcw]; decide))) ?_)
    show PyData.bool _ = .bool (goodD ns d)
    unfold goodD
    rw [hb, hb2, decide_eq_true hcw]; rfl
  · obtain ⟨l, el⟩ := Option.isSome_iff_exists.mp (hcut hcw)
    have er2 := hl2 l el
    subst er2
    have ll : l.length ≤ 1000 := (htl l el).1
    refine sds_one (sd_ret (ed_or (ed_c (cd_eqS (i := d.w) (j := "cut")) (ed_ixT (ed_v loGoodDeed 0) ed_int (atI_nat (j := 0) rfl)) ed_str) (fun _ => (ed_one (ed_and (ed_c cd_le (ed_lenS (ed_ixT (ed_v loGoodDeed 0) ed_int (atI_nat (j := 2) rfl)) (by omega) (gl_of glGoodDeed 0) T.len) ed_int) (fun _ => (ed_one (ed_all (bs := l.cps.toList.map fun c => !decide (([c] : List Nat) < [32]) && !decide (([126] : List Nat) < [c])) hc (EL.rd (EL.to (el_lcS (j := 2) ⟨hc, ndGoodDeed, blkOk_by (N := nGoodDeed) (sc := defScope sGoodDeed) (by decide +kernel), by decide, rfl, rfl, by intro _; rfl⟩ (fun _ => true) _ (ed_ixT (ed_v loGoodDeed 0) ed_int (atI_nat (j := 2) rfl)) (by omega) (fun x hx s H C cl fp => rfl) (fun x hx _ s H C cl fp => (ed_ch (cd_leS (i := " ") (j := ⟨#[x]⟩)) (cd_leS (i := ⟨#[x]⟩) (j := "~")) ed_str (ed_b 2) ed_str))) (by rw [lc_all, List.map_map]; rfl))) (gl_of glGoodDeed 1) T.all))))))) ?_)
    show PyData.bool _ = .bool (goodD ns d)
    unfold goodD goodL
    rw [hb, hb2, el, List.all_map]; rfl
end
end K3

set_option maxHeartbeats 4000000
namespace K3
open PySem L2 PD PyProof.Rows LW
section
variable {P : Program} {w : World} {K : PySem.W.Frag} {mg : Str → Option Value} {base : Heap} {cB cN cX : Addr}
/-! _law_good -/
abbrev sGood : Stmt := topS 52
abbrev nGood : List Str := ["_law_change", "_law_signs", "_law_name_here", "_law_leans_here", "_law_deeds_here", "_law_one_here", "_law_odd_here", "_law_sign", "_law_deed"]
theorem scGood : FnScope nGood ["_law_change"] (defScope sGood) := ⟨rfl, rfl, rfl, by decide +kernel, rfl, by decide +kernel, by decide +kernel⟩
theorem ndGood : (nGood).Nodup := scGood.nd
theorem loGood : (["_law_change", "_law_signs", "_law_name_here", "_law_leans_here", "_law_deeds_here", "_law_one_here", "_law_odd_here"] : List Str).all (locB (defScope sGood)) = true := by decide +kernel
theorem glGood : (["len", "sorted", "set", "all"] : List Str).all (glB (defScope sGood)) = true := by decide +kernel
def rGood : List Sl → DOut → Prop := fun as o => ∃ c, as = [.sh (qC c)] ∧ ChangeOk c ∧ o = .val (.bool (goodC c))
theorem sortU_of {ys zs : List Str} (hn : ys.Nodup) (hm : ∀ z, z ∈ ys ↔ z ∈ zs) (hs : PyProof.Rows.sortedS ys = true) : ys = sortU zs :=
  sortS_uniq ((List.perm_ext_iff_of_nodup hn (onceS_nd zs [] List.nodup_nil)).mpr fun z => by rw [hm, onceS_mem]; simp) hs
theorem okGood {f : Addr} {fd : FuncData} (F : Fun K "_law_good" "_law_good" sGood f fd) (T : TxL mg) (cGoodDeed : Cal P w K mg base 1 "_law_good_deed" 2 rGoodDeed) : FnOk P w K mg base (L2N.CX P w) 2 f fd ["_law_change"] (spD K 1 rGood) := by
  refine fnD F scGood (by decide) fun cdv A outer s H E as o hr hl hR => ?_
  obtain ⟨c, rfl, cok, rfl⟩ := hR
  have hc : (cxOf (L2N.CX P w) P w K mg base nGood "_law_good" (defScope sGood) f cdv A outer s H E).calm = true := rfl
  obtain ⟨hn, hls, hll, hdl, hds⟩ := cok
  have hall : ∀ z ∈ c.n :: c.ls, Tx0 z := fun z hz => by
    rcases List.mem_cons.mp hz with rfl | hz
    · exact hn
    · exact hls z hz
  refine sds_cons (sd_set (i := 1) (d := .str sgn) ndGood rfl (loc_of loGood 1) (.inl rfl) ed_str ?_)
  refine sds_cons (sd_asg (ed_v loGood 0) (gu_tup hc (gus_cons (gu_name (j := 2) ndGood rfl (loc_of loGood 2) (.inl rfl)) (gus_cons (gu_name (j := 3) ndGood rfl (loc_of loGood 3) (.inl rfl)) (gus_cons (gu_name (j := 4) ndGood rfl (loc_of loGood 4) (.inl rfl)) gus_nil)))) ⟨_, rfl, rfl, _, _, _, rfl, rfl, _, _, _, rfl, rfl, _, _, _, rfl, rfl, rfl, rfl⟩ ?_)
  refine sds_cons (sd_for (fun i ρ => ∃ s5 s6, ρ = [.sh (qC c), .sh (.str sgn), .sh (.str c.n), .sh (.list (c.ls.map .str)), .sh (.list (c.ds.map qD)), s5, s6, .un, .un] ∧ ((c.n :: c.ls).take i).all goodN = true) (L2.passes_of rfl) hc (j := 5) ndGood rfl (loc_of loGood 5) (.inl rfl)
    (EL.pst (EL.to (el_cat (EL.dat (el_lst (ds := [.str c.n]) (ea_d (ed_v loGood 2) ea_nil) le_b)) (ed_v loGood 3) (by simp; omega)) (show [PyData.str c.n] ++ c.ls.map PyData.str = (c.n :: c.ls).map PyData.str from rfl))) ⟨_, _, rfl, by simp⟩ (fun i d ρ1 hi hI => ?_) (fun ρ1 hI => ?_))
  · obtain ⟨s5, s6, rfl, hI⟩ := hI
    rw [List.getElem?_map] at hi
    cases hx : (c.n :: c.ls)[i]? with
    | none => rw [hx] at hi; cases hi
    | some x =>
      rw [hx] at hi
      cases hi
      have hm : x ∈ c.n :: c.ls := List.mem_of_getElem? hx
      have lx : x.length ≤ 1000 := (hall x hm).1
      refine sds_cons (sd_lcS (i := 6) (j := 7) ⟨hc, ndGood, blkOk_by (N := nGood) (sc := defScope sGood) (by decide +kernel), by decide, rfl, rfl, by intro _; rfl⟩ rfl rfl (fun c => !decide (c ∈ cs sgn)) (fun c => .str ⟨#[c]⟩) (ed_v loGood 5) (by omega) (fun x hx s H C cl fp => (et_c (cd_niC (w := sgn)) (ed_b 7) (ed_b 1))) (fun x hx _ s H C cl fp => (ed_b 7)) rfl fun r6 => ?_)
      refine sds_cons (sd_if (et_w (ew_or (et_list (eb_v loGood 6)) (fun _ => (ew_or1 (et_not (et_ch cd_le cd_le ed_int (ed_lenS (ed_v loGood 5) (by omega) (gl_of glGood 0) T.len) ed_int)))))) (fun hb => ?_) (fun hb => ?_))
      · refine sds_one (sd_ret ed_bl ?_)
        show PyData.bool false = .bool (goodC c)
        have hx0 : goodN x = false := by
          unfold goodN
          rw [show (cs x).filter (fun c => !decide (c ∈ cs sgn)) = x.cps.toList.filter (fun c => !decide (c ∈ cs sgn)) from rfl]
          cases e : x.cps.toList.filter (fun c => !decide (c ∈ cs sgn)) with
          | nil =>
            rw [e] at hb
            have hb : (false || !(decide ((1 : Int) ≤ (x.length : Int)) && decide ((x.length : Int) ≤ 12))) = true := hb
            have hb2 : (decide ((1 : Int) ≤ (x.length : Int)) && decide ((x.length : Int) ≤ 12)) = false := by simpa only [Bool.false_or, Bool.not_eq_true'] using hb
            show (true && (decide ((1 : Int) ≤ (x.length : Int)) && decide ((x.length : Int) ≤ 12))) = false
            rw [hb2]; rfl
          | cons a r => rfl
        have : ((c.n :: c.ls).all goodN) = false := by
          rw [← Bool.not_eq_true, List.all_eq_true]
          intro h
          rw [h x hm] at hx0; cases hx0
        unfold goodC
        rw [this]; rfl
      · refine sds_nil (sds_nil ⟨_, _, rfl, ?_⟩)
        have hx1 : goodN x = true := by
          unfold goodN
          rw [show (cs x).filter (fun c => !decide (c ∈ cs sgn)) = x.cps.toList.filter (fun c => !decide (c ∈ cs sgn)) from rfl]
          rw [Bool.or_eq_false_iff] at hb
          obtain ⟨h1, h2⟩ := hb
          cases e : x.cps.toList.filter (fun c => !decide (c ∈ cs sgn)) with
          | nil => rw [Bool.not_eq_false'] at h2; exact h2
          | cons a r => rw [e] at h1; exact absurd h1 (by simp)
        rw [List.take_add_one, hx, List.all_append, hI]
        show (true && (goodN x && true)) = true
        rw [hx1]; rfl
  · obtain ⟨s5, s6, rfl, hI⟩ := hI
    have hI : (c.n :: c.ls).all goodN = true := by
      have l : ((c.n :: c.ls).map PyData.str).length = (c.n :: c.ls).length := List.length_map _
      rw [l, List.take_length] at hI
      exact hI
    have sh : ∀ zs : List Str, (∀ z ∈ zs, Tx0 z) → SeqAt.shaped (.list (zs.map .str)) = true := fun zs h => shaped_ls h
    have hU : ∀ z ∈ sortU c.ls, Tx0 z := fun z hz => hls z (sortU_mem.mp hz)
    refine sds_cons (sd_if (ET.to (et_w (ew_or (et_c (cd_neD hr.units (sh c.ls hls) (sh (sortU c.ls) hU)) (ed_v loGood 3) (EL.dat (el_sortSet hc (ED.rd (ed_v loGood 3)) (by omega) (gl_of glGood 1) T.sorted (gl_of glGood 2) T.set (fun ys h1 h2 h3 => by rw [sortU_of h1 h2 h3])))) (fun _ => (ew_or (et_inL (ed_v loGood 2) (ED.rd (ed_v loGood 3))) (fun _ => (ew_or1 (et_c cd_gt (ed_len (ED.rd (ed_v loGood 4)) (gl_of glGood 0) T.len) ed_int))))))) (by rw [eqv_strs, List.length_map])) (fun hb => ?_) (fun hb => ?_))
    · refine sds_one (sd_ret ed_bl ?_)
      show PyData.bool false = .bool (goodC c)
      unfold goodC
      have hb : (!decide (c.ls = sortU c.ls) || decide (c.n ∈ c.ls) || decide (20 < (c.ds.length : Int))) = true := by rw [Bool.or_assoc]; exact hb
      rw [hI, hb]; rfl
    · refine sds_nil ?_
      have hb : (!decide (c.ls = sortU c.ls) || decide (c.n ∈ c.ls) || decide (20 < (c.ds.length : Int))) = false := by rw [Bool.or_assoc]; exact hb
      refine sds_one (sd_ret (ed_all (bs := c.ds.map (goodD (c.n :: c.ls))) hc (EL.rd (EL.to (el_lc (j := 8) ⟨hc, ndGood, blkOk_by (N := nGood) (sc := defScope sGood) (by decide +kernel), by decide, rfl, rfl, by intro _; rfl⟩ c.ds qD (fun _ => true) (fun d => .bool (goodD (c.n :: c.ls) d)) (ED.pst (ed_v loGood 4)) (by omega) (fun x hx s H C cl fp => rfl) (fun x hx _ s H C cl fp => (ed_call cGoodDeed (hr.mono (by decide)) gl_b takesN0 (ea_d (ed_b 8) (ea_d (EL.dat (EL.to (el_cat (EL.dat (el_lst (ds := [.str c.n]) (ea_d (ed_b 2) ea_nil) le_b)) (ed_b 3) (by simp; omega)) (show [PyData.str c.n] ++ c.ls.map PyData.str = (c.n :: c.ls).map PyData.str from rfl))) ea_nil)) rfl ⟨x, _, rfl, hds x hx, rfl⟩))) (by rw [lc_all, List.map_map]; rfl))) (gl_of glGood 3) T.all) ?_)
      show PyData.bool _ = .bool (goodC c)
      unfold goodC
      rw [hI, hb, List.all_map]; rfl
end
end K3

set_option maxHeartbeats 4000000
namespace K3
open PySem L2 PD PyProof.Rows LW
theorem name_at {ws : List Str} (h : ws ≠ []) : atI (ws.map PyData.str) (if ((ws.map PyData.str).length : Int) - 1 < 1 then ((ws.map PyData.str).length : Int) - 1 else 1) = some (.str (ws.getD (min 1 (ws.length - 1)) "")) := by
  rw [List.length_map]
  cases ws with
  | nil => exact absurd rfl h
  | cons a r =>
    cases r with
    | nil => rfl
    | cons b r =>
      have e : ¬ (((a :: b :: r).length : Int) - 1 < 1) := by simp; omega
      rw [if_neg e]
      have m : min 1 ((a :: b :: r).length - 1) = 1 := by simp
      rw [m]
      exact atI_nat (j := 1) rfl
section
variable {P : Program} {w : World} {K : PySem.W.Frag} {mg : Str → Option Value} {base : Heap} {cB cN cX : Addr}
/-! _law_taken_for -/
abbrev sTakenFor : Stmt := topS 54
abbrev nTakenFor : List Str := ["_law_text", "_law_rows", "_law_words", "_law_deeds_here", "_law_row", "_law_word", "_law_blank", "_law_rest", "_law_told", "_law_colon", "_law_line_here", "_law_name_here", "_law_gap", "_law_number_here", "_law_mark"]
theorem scTakenFor : FnScope nTakenFor ["_law_text"] (defScope sTakenFor) := ⟨rfl, rfl, rfl, by decide +kernel, rfl, by decide +kernel, by decide +kernel⟩
theorem ndTakenFor : (nTakenFor).Nodup := scTakenFor.nd
theorem loTakenFor : (["_law_text", "_law_rows", "_law_words", "_law_deeds_here", "_law_row", "_law_word", "_law_blank", "_law_rest", "_law_told", "_law_colon", "_law_line_here", "_law_name_here", "_law_gap", "_law_number_here", "_law_mark"] : List Str).all (locB (defScope sTakenFor)) = true := by decide +kernel
theorem glTakenFor : (["_law_number", "min", "len"] : List Str).all (glB (defScope sTakenFor)) = true := by decide +kernel
def rTakenFor : List Sl → DOut → Prop := fun as o => ∃ t, as = [.sh (.str t)] ∧ TOk t ∧ o = .val (qC (takeC t))
theorem okTakenFor {f : Addr} {fd : FuncData} (F : Fun K "_law_taken_for" "_law_taken_for" sTakenFor f fd) (T : TxL mg) (cNumber : Cal P w K mg base 1 "_law_number" 1 rNumber) : FnOk P w K mg base (L2N.CX P w) 2 f fd ["_law_text"] (spD K 1 rTakenFor) := by
  refine fnD F scTakenFor (by decide) fun cdv A outer s H E as o hr hl hR => ?_
  obtain ⟨t, rfl, ok, rfl⟩ := hR
  have hc : (cxOf (L2N.CX P w) P w K mg base nTakenFor "_law_taken_for" (defScope sTakenFor) f cdv A outer s H E).calm = true := rfl
  have tk : L2N.Takes (cxOf (L2N.CX P w) P w K mg base nTakenFor "_law_taken_for" (defScope sTakenFor) f cdv A outer s H E) (fun c d _ H' => E c d H') := L2N.takes_of rfl rfl rfl rfl
  have lt := ok.len
  have lrows := ok.rows
  have hrow : Tx0 ((Txt.split t "\n").headD "") := ok.row _ (by rw [rows_at t]; exact List.mem_cons_self)
  have lr : ((Txt.split t "\n").headD "").length ≤ 1000 := hrow.1
  have wl := words_len hrow
  have wne : Txt.split ((Txt.split t "\n").headD "") " " ≠ [] := split_ne (by decide +kernel) (by decide +kernel)
  have hat : atI ((Txt.split t "\n").map PyData.str) (0 : Int) = some (.str ((Txt.split t "\n").headD "")) := by
    have e := rows_at t
    exact atI_nat (j := 0) (by rw [List.getElem?_map, e]; rfl)
  have cutRows : cutD ((Txt.split t "\n").map PyData.str) (some (1 : Int)) none = ((Txt.split t "\n").drop 1).map PyData.str := by
    have := cutD_drop ((Txt.split t "\n").map PyData.str) 1
    rw [show ((1 : Nat) : Int) = 1 from rfl] at this
    rw [this, List.map_drop]
  have cutWords : cutD ((Txt.split ((Txt.split t "\n").headD "") " ").map PyData.str) (some (3 : Int)) none = ((Txt.split ((Txt.split t "\n").headD "") " ").drop 3).map PyData.str := by
    have := cutD_drop ((Txt.split ((Txt.split t "\n").headD "") " ").map PyData.str) 3
    rw [show ((3 : Nat) : Int) = 3 from rfl] at this
    rw [this, List.map_drop]
  have ldrop : ((Txt.split t "\n").drop 1).length ≤ 100 := by rw [List.length_drop]; omega
  refine sds_cons (sd_setL (i := 1) ndTakenFor rfl (loc_of loTakenFor 1) (.inl rfl) (el_split (ed_v loTakenFor 0) ed_str one_end (by omega)) (fun r1 => ?_))
  refine sds_cons (sd_setL (i := 2) ndTakenFor rfl (loc_of loTakenFor 2) (.inl rfl) (el_split (ed_ixL (eb_v loTakenFor 1) ed_int hat) ed_str one_blank (by omega)) (fun r2 => ?_))
  refine sds_cons (sd_setL (i := 3) ndTakenFor rfl (loc_of loTakenFor 3) (.inl rfl) (el_lst (ds := []) ea_nil le_b) (fun r3 => ?_))
  refine sds_cons (sd_for (fun i ρ => ∃ s4 s5 s6 s7 s8 s9 s10 s11 s12 s13 s14, ρ = [.sh (.str t), .ow r1 ((Txt.split t "\n").map .str), .ow r2 ((Txt.split ((Txt.split t "\n").headD "") " ").map .str), .ow r3 ((((Txt.split t "\n").drop 1).take i).map fun p => qD (takeD p)), s4, s5, s6, s7, s8, s9, s10, s11, s12, s13, s14]) (L2.passes_of rfl) hc (j := 4) ndTakenFor rfl (loc_of loTakenFor 4) (.inl rfl)
    (EL.pst (EL.to (el_cut (l := some 1) (u := none) (eb_v loTakenFor 1) ed_int trivial) cutRows)) ⟨_, _, _, _, _, _, _, _, _, _, _, rfl⟩ (fun i d ρ1 hi hI => ?_) (fun ρ1 hI => ?_))
  · obtain ⟨s4, s5, s6, s7, s8, s9, s10, s11, s12, s13, s14, rfl⟩ := hI
    rw [List.getElem?_map] at hi
    cases hx : ((Txt.split t "\n").drop 1)[i]? with
    | none => rw [hx] at hi; cases hi
    | some p =>
      rw [hx] at hi
      cases hi
      have hp : Tx0 p := ok.row p (List.mem_of_mem_drop (List.mem_of_getElem? hx))
      have q1 := part_rd (y := " ") hp (by decide +kernel)
      have q2 := part_rd (y := ": ") q1.2 (by decide +kernel)
      have q3 := part_rd (y := " ") q2.1 (by decide +kernel)
      have lp : p.length ≤ 1000 := hp.1
      have li : i < ((Txt.split t "\n").drop 1).length := (List.getElem?_eq_some_iff.mp hx).1
      have step : (((Txt.split t "\n").drop 1).take (i + 1)).map (fun p => qD (takeD p)) = (((Txt.split t "\n").drop 1).take i).map (fun p => qD (takeD p)) ++ [qD (takeD p)] := by
        rw [List.take_add_one, hx, List.map_append]; rfl
      have ltake : ((((Txt.split t "\n").drop 1).take i).map fun p => qD (takeD p)).length < 100000 := by
        rw [List.length_map, List.length_take]; omega
      have eD : takeD p = ⟨(Txt.partition p " ").1, markW (Txt.partition (Txt.partition p " ").2.2 ": ").1, if decide ((Txt.partition p " ").1 = ("cut" : Str)) = true then none else some (Txt.partition (Txt.partition p " ").2.2 ": ").2.2⟩ := rfl
      generalize hP : Txt.partition p " " = P1 at *
      obtain ⟨w1, b1, rest1⟩ := P1
      dsimp only at q1 q2 q3 eD
      have lrest : rest1.length ≤ 1000 := q1.2.1
      refine sds_cons (sd_asg (ED.to (ed_part (z := p) (ed_v loTakenFor 4) ed_str one_blank (by omega)) (by rw [hP])) (gu_tup hc (gus_cons (gu_name (j := 5) ndTakenFor rfl (loc_of loTakenFor 5) (.inl rfl)) (gus_cons (gu_name (j := 6) ndTakenFor rfl (loc_of loTakenFor 6) (.inl rfl)) (gus_cons (gu_name (j := 7) ndTakenFor rfl (loc_of loTakenFor 7) (.inl rfl)) gus_nil)))) ⟨_, rfl, rfl, _, _, _, rfl, rfl, _, _, _, rfl, rfl, _, _, _, rfl, rfl, rfl, rfl⟩ ?_)
      generalize hQ : Txt.partition rest1 ": " = Q1 at *
      obtain ⟨told, colon, line1⟩ := Q1
      dsimp only at q2 q3 eD
      have ltold : told.length ≤ 1000 := q2.1.1
      refine sds_cons (sd_asg (ED.to (ed_part (z := rest1) (ed_v loTakenFor 7) ed_str one_colon (by omega)) (by rw [hQ])) (gu_tup hc (gus_cons (gu_name (j := 8) ndTakenFor rfl (loc_of loTakenFor 8) (.inl rfl)) (gus_cons (gu_name (j := 9) ndTakenFor rfl (loc_of loTakenFor 9) (.inl rfl)) (gus_cons (gu_name (j := 10) ndTakenFor rfl (loc_of loTakenFor 10) (.inl rfl)) gus_nil)))) ⟨_, rfl, rfl, _, _, _, rfl, rfl, _, _, _, rfl, rfl, _, _, _, rfl, rfl, rfl, rfl⟩ ?_)
      have eM : markW told = if (!decide (told = ("-" : Str))) = true then some ((Txt.partition told " ").1, numW (Txt.partition told " ").2.2) else none := rfl
      generalize hR : Txt.partition told " " = R1 at *
      obtain ⟨name1, gap, num1⟩ := R1
      dsimp only at q3 eM
      refine sds_cons (sd_asg (ED.to (ed_part (z := told) (ed_v loTakenFor 8) ed_str one_blank (by omega)) (by rw [hR])) (gu_tup hc (gus_cons (gu_name (j := 11) ndTakenFor rfl (loc_of loTakenFor 11) (.inl rfl)) (gus_cons (gu_name (j := 12) ndTakenFor rfl (loc_of loTakenFor 12) (.inl rfl)) (gus_cons (gu_name (j := 13) ndTakenFor rfl (loc_of loTakenFor 13) (.inl rfl)) gus_nil)))) ⟨_, rfl, rfl, _, _, _, rfl, rfl, _, _, _, rfl, rfl, _, _, _, rfl, rfl, rfl, rfl⟩ ?_)
      refine sds_cons (sd_set (i := 14) ndTakenFor rfl (loc_of loTakenFor 14) (.inl rfl) ed_non ?_)
      refine sds_cons (sd_ifsetD (i := 14) (d := .tuple [.str name1, .int (numW num1)]) (d1 := qM (markW told)) ndTakenFor rfl (loc_of loTakenFor 14) (.inl rfl) (et_c (cd_neS (i := told) (j := "-")) (ed_v loTakenFor 8) ed_str) rfl (fun _ => ed_tup (ds := [_, _]) (ea_d (ed_v loTakenFor 11) (ea_d (ed_call cNumber (hr.mono (by decide)) (gl_of glTakenFor 0) tk (ea_d (ed_v loTakenFor 13) ea_nil) rfl ⟨num1, rfl, q3.2, rfl⟩) ea_nil)) le_b) (by rw [eM]; by_cases h : told = ("-" : Str) <;> simp [h, qM, qMk]) ?_)
      refine sds_one (sd_if (et_c (cd_eqS (i := w1) (j := "cut")) (ed_v loTakenFor 5) ed_str) (fun hb => ?_) (fun hb => ?_))
      · have hw := of_decide_eq_true hb
        refine sds_one (sd_app (i := 3) rfl (vis_of (loc_of loTakenFor 3)) rfl (d := qD (takeD p)) (ED.to (ed_tup (ds := [_, _]) (ea_d ed_str (ea_d (ed_v loTakenFor 14) ea_nil)) le_b) (by rw [eD, hb, if_pos rfl, hw]; rfl)) ltake ⟨_, _, _, _, _, _, _, _, _, _, _, by rw [step]; rfl⟩)
      · refine sds_one (sd_app (i := 3) rfl (vis_of (loc_of loTakenFor 3)) rfl (d := qD (takeD p)) (ED.to (ed_tup (ds := [_, _, _]) (ea_d (ed_v loTakenFor 5) (ea_d (ed_v loTakenFor 14) (ea_d (ed_v loTakenFor 10) ea_nil))) le_b) (by rw [eD, hb, if_neg Bool.false_ne_true]; rfl)) ltake ⟨_, _, _, _, _, _, _, _, _, _, _, by rw [step]; rfl⟩)
  · obtain ⟨s4, s5, s6, s7, s8, s9, s10, s11, s12, s13, s14, rfl⟩ := hI
    rw [List.length_map, List.take_length]
    refine sds_frz (i := 3) rfl ?_
    refine sds_one (sd_ret (ed_tup (ds := [_, _, _]) (ea_d (ed_ixL (eb_v loTakenFor 2) (ed_min hc ed_int (ed_sub (ed_len (eb_v loTakenFor 2) (gl_of glTakenFor 2) T.len) ed_int) (gl_of glTakenFor 1) T.min) (name_at wne)) (ea_d (EL.dat (EL.to (el_cut (l := some 3) (u := none) (eb_v loTakenFor 2) ed_int trivial) cutWords)) (ea_d (ed_v loTakenFor 3) ea_nil))) le_b) ?_)
    show _ = qC (takeC t)
    unfold takeC qC
    simp only [List.map_map]
    rfl
end
end K3

set_option maxHeartbeats 4000000
namespace K3
open PySem L2 PD PyProof.Rows LW
/-! ### texts that may be read, turned -/
structure TSt (t : Str) : Prop where
  len : t.length ≤ 12000
  cnt : (cs t).count 10 ≤ 25
  bd : Bd 10 300 (cs t)
  pl : ∀ c ∈ cs t, c < 256
theorem tok_of {t : Str} {k : Nat} (hl : t.length ≤ 30000) (hc : (cs t).count 10 ≤ 90) (hb : Bd 10 k (cs t)) (hk : k ≤ 1000) (hp : ∀ c ∈ cs t, c < 256) : TOk t := by
  refine ⟨hl, by rw [split_len nl_cs nl_k]; omega, fun p hpm => ⟨?_, fun c hcm => hp c ?_⟩⟩
  · have h : cs p ∈ cut1 10 [] (cs t) := split_cs (t := t) nl_cs nl_k ▸ List.mem_map_of_mem hpm
    rw [len_cs]
    exact Nat.le_trans (hb _ h) hk
  · exact (split_sub (y := "\n") (by rw [nl_cs]; simp) nl_k hpm).2 c hcm
theorem TSt.ok {t : Str} (h : TSt t) : TOk t := tok_of (k := 300) (Nat.le_trans h.len (by decide)) (Nat.le_trans h.cnt (by decide)) h.bd (by decide) h.pl
theorem tst_cut {t u : Str} (h : TSt t) {i j : Nat} {x : List Nat} (e : cs u = (cs t).take i ++ x ++ (cs t).drop j) (hx : x.length ≤ 1) (hp : ∀ c ∈ x, c < 256) : TOk u := by
  have hl := h.len
  rw [len_cs] at hl
  have b1 : Bd 10 300 ((cs t).take i) := (bd_app (u := (cs t).take i) (v := (cs t).drop i) (by rw [List.take_append_drop]; exact h.bd)).1
  have b2 : Bd 10 300 ((cs t).drop j) := (bd_app (u := (cs t).take j) (v := (cs t).drop j) (by rw [List.take_append_drop]; exact h.bd)).2
  have hc := h.cnt
  have c1 : ((cs t).take i).count 10 ≤ 25 := Nat.le_trans (List.Sublist.count_le _ (List.take_sublist _ _)) hc
  have c2 : ((cs t).drop j).count 10 ≤ 25 := Nat.le_trans (List.Sublist.count_le _ (List.drop_sublist _ _)) hc
  have c3 : x.count 10 ≤ x.length := List.count_le_length
  have l1 : ((cs t).take i).length ≤ (cs t).length := by rw [List.length_take]; exact Nat.min_le_right _ _
  have l2 : ((cs t).drop j).length ≤ (cs t).length := by rw [List.length_drop]; omega
  refine tok_of (k := 300 + 1 + 300) ?_ ?_ ?_ (by decide) ?_
  · rw [len_cs, e, List.length_append, List.length_append]; omega
  · rw [e, List.count_append, List.count_append]; omega
  · rw [e]; exact bd_cat (bd_cat b1 (bd_le (bd_any x) hx)) b2
  · rw [e]
    intro c hcm
    rcases List.mem_append.mp hcm with hcm | hcm
    · rcases List.mem_append.mp hcm with hcm | hcm
      · exact h.pl c (List.mem_of_mem_take hcm)
      · exact hp c hcm
    · exact h.pl c (List.mem_of_mem_drop hcm)
theorem tst_rows {t : Str} (h : TSt t) {rs : List Str} (hr : ∀ p ∈ rs, p ∈ Txt.split t "\n") (hl : rs.length ≤ 60) : TOk (Str.join "\n" rs) := by
  by_cases hne : rs = []
  · subst hne
    exact ⟨by decide +kernel, by decide +kernel, fun p hp => by
      have : Txt.split (Str.join "\n" []) "\n" = ([""] : List Str) := by decide +kernel
      rw [this] at hp
      rw [List.mem_singleton.mp hp]
      exact ⟨by decide +kernel, fun c hc => nomatch hc⟩⟩
  · have e : Txt.split (Str.join "\n" rs) "\n" = rs := by
      have := TL.split_join (y := "\n") (s := 10) (S := []) nl_cs nl_k (parts := rs) hne (fun p hp => split_free (t := t) nl_cs nl_k (hr p hp))
      rw [TL.join_eq] at this
      exact this
    have k300 : ∀ p ∈ rs, p.length ≤ 300 := fun p hp => by
      have q : cs p ∈ cut1 10 [] (cs t) := split_cs (t := t) nl_cs nl_k ▸ List.mem_map_of_mem (hr p hp)
      rw [len_cs]
      exact h.bd _ q
    refine ⟨?_, by rw [e]; omega, fun p hp => ?_⟩
    · have := join_len (w := "\n") (zs := rs) k300
      have l1 : ("\n" : Str).length = 1 := by decide +kernel
      rw [l1] at this
      have m : rs.length * (300 + 1) ≤ 60 * 301 := Nat.mul_le_mul_right _ hl
      omega
    · rw [e] at hp
      have := k300 p hp
      exact ⟨by omega, fun c hc => h.pl c ((split_sub (y := "\n") (by rw [nl_cs]; simp) nl_k (hr p hp)).2 c hc)⟩
def tb1 : Str := "a0 -:\nbcdnsuz9.A"
def tb2 : Str := " !\"#$&'()*+,-./:;<=>?@\x5b\\]^_`{|}~BCDEFGHIJKLMNOPQRSTUVWXYZefghijklm"
def tsome (c : Int) : Str := if decide (c % 2 = 1) = true then tb1 ++ tb2 else tb1
def tat (t : Str) (c : Int) : Int := c / 8 % ((t.length : Int) + 1)
def tsgn (t : Str) (c : Int) : Nat := (cs (tsome c)).getD ((c / 8 / ((t.length : Int) + 1)) % ((tsome c).length : Int)).toNat 0
def turnT (t : Str) (c : Int) : Str :=
  if decide (c / 2 % 4 = 0) = true then cutS t none (some (tat t c)) ++ chS (tsgn t c) ++ cutS t (some (tat t c)) none
  else if decide (c / 2 % 4 = 1) = true then cutS t none (some (tat t c)) ++ cutS t (some (tat t c + 1)) none
  else cutS t none (some (tat t c)) ++ chS (tsgn t c) ++ cutS t (some (tat t c + 1)) none
theorem tat_nat (t : Str) (c : Int) : ∃ n : Nat, tat t c = (n : Int) ∧ n ≤ t.length := by
  have p1 := Int.emod_nonneg (c / 8) (show ((t.length : Int) + 1) ≠ 0 by omega)
  have p2 := Int.emod_lt_of_pos (c / 8) (show (0 : Int) < (t.length : Int) + 1 by omega)
  refine ⟨(tat t c).toNat, (Int.toNat_of_nonneg p1).symm, ?_⟩
  unfold tat
  omega
theorem tsome_pl (c : Int) : (∀ k ∈ cs (tsome c), k < 256) ∧ 0 < (tsome c).length ∧ (tsome c).length ≤ 100 := by
  unfold tsome
  split <;> exact ⟨by decide +kernel, by decide +kernel, by decide +kernel⟩
theorem tsgn_at (t : Str) (c : Int) : atI (cs (tsome c)) ((c / 8 / ((t.length : Int) + 1)) % ((tsome c).length : Int)) = some (tsgn t c) := by
  obtain ⟨_, h0, _⟩ := tsome_pl c
  have p1 := Int.emod_nonneg (c / 8 / ((t.length : Int) + 1)) (show ((tsome c).length : Int) ≠ 0 by omega)
  have p2 := Int.emod_lt_of_pos (c / 8 / ((t.length : Int) + 1)) (show (0 : Int) < ((tsome c).length : Int) by omega)
  unfold tsgn
  generalize (c / 8 / ((t.length : Int) + 1)) % ((tsome c).length : Int) = m at *
  obtain ⟨n, rfl⟩ := Int.eq_ofNat_of_zero_le p1
  have hn : n < (cs (tsome c)).length := by rw [← len_cs]; omega
  rw [Int.toNat_natCast, List.getD_eq_getElem?_getD, List.getElem?_eq_getElem hn]
  exact atI_nat (List.getElem?_eq_getElem hn)
theorem tsgn_pl (t : Str) (c : Int) : tsgn t c < 256 := by
  have h := tsgn_at t c
  refine (tsome_pl c).1 _ ?_
  unfold tsgn
  obtain ⟨_, h0, _⟩ := tsome_pl c
  have p1 := Int.emod_nonneg (c / 8 / ((t.length : Int) + 1)) (show ((tsome c).length : Int) ≠ 0 by omega)
  have p2 := Int.emod_lt_of_pos (c / 8 / ((t.length : Int) + 1)) (show (0 : Int) < ((tsome c).length : Int) by omega)
  have hn : ((c / 8 / ((t.length : Int) + 1)) % ((tsome c).length : Int)).toNat < (cs (tsome c)).length := by rw [← len_cs]; omega
  rw [List.getD_eq_getElem?_getD, List.getElem?_eq_getElem hn]
  exact List.getElem_mem hn
theorem turnT_ok {t : Str} (h : TSt t) (c : Int) : TOk (turnT t c) := by
  obtain ⟨n, e, _⟩ := tat_nat t c
  have e1 : tat t c + 1 = ((n + 1 : Nat) : Int) := by rw [e]; rfl
  unfold turnT
  split
  · exact tst_cut h (i := n) (j := n) (x := [tsgn t c]) (by rw [e, cs_app, cs_app, cs_ch, cs_take, cs_drop]) (Nat.le_refl _) (fun k hk => by rw [List.mem_singleton.mp hk]; exact tsgn_pl t c)
  · split
    · exact tst_cut h (i := n) (j := n + 1) (x := []) (by rw [e1, e, cs_app, cs_take, cs_drop, List.append_nil]) (Nat.zero_le _) (fun k hk => nomatch hk)
    · exact tst_cut h (i := n) (j := n + 1) (x := [tsgn t c]) (by rw [e1, e, cs_app, cs_app, cs_ch, cs_take, cs_drop]) (Nat.le_refl _) (fun k hk => by rw [List.mem_singleton.mp hk]; exact tsgn_pl t c)
def rat (t : Str) (c : Int) : Nat := (c / 3 % ((Txt.split t "\n").length : Int)).toNat
def rowsU (t : Str) (c : Int) : List Str :=
  let rs := Txt.split t "\n"
  let k := rat t c
  if decide (c % 3 = 0) = true then rs.take k ++ rs.drop (k + 1)
  else if decide (c % 3 = 1) = true then rs.take k ++ [rs.getD k ""] ++ rs.drop k
  else rs.take k ++ ((rs.drop (k + 1)).take 1) ++ [rs.getD k ""] ++ rs.drop (k + 2)
theorem rat_lt (t : Str) (c : Int) : c / 3 % ((Txt.split t "\n").length : Int) = ((rat t c : Nat) : Int) ∧ rat t c < (Txt.split t "\n").length := by
  have pos : 0 < (Txt.split t "\n").length := List.length_pos_iff.mpr (rows_ne t)
  have p1 := Int.emod_nonneg (c / 3) (show ((Txt.split t "\n").length : Int) ≠ 0 by omega)
  have p2 := Int.emod_lt_of_pos (c / 3) (show (0 : Int) < ((Txt.split t "\n").length : Int) by omega)
  unfold rat
  omega
theorem rowsU_ok {t : Str} (h : TSt t) (c : Int) : TOk (Str.join "\n" (rowsU t c)) := by
  obtain ⟨_, lk⟩ := rat_lt t c
  have ln : (Txt.split t "\n").length ≤ 26 := by rw [split_len nl_cs nl_k]; have := h.cnt; omega
  have gm : (Txt.split t "\n").getD (rat t c) "" ∈ Txt.split t "\n" := by
    rw [List.getD_eq_getElem?_getD, List.getElem?_eq_getElem lk]
    exact List.getElem_mem lk
  refine tst_rows h (fun p hp => ?_) ?_
  · unfold rowsU at hp
    dsimp only at hp
    split at hp
    · rcases List.mem_append.mp hp with hp | hp
      · exact List.mem_of_mem_take hp
      · exact List.mem_of_mem_drop hp
    · split at hp
      · rcases List.mem_append.mp hp with hp | hp
        · rcases List.mem_append.mp hp with hp | hp
          · exact List.mem_of_mem_take hp
          · rw [List.mem_singleton.mp hp]; exact gm
        · exact List.mem_of_mem_drop hp
      · rcases List.mem_append.mp hp with hp | hp
        · rcases List.mem_append.mp hp with hp | hp
          · rcases List.mem_append.mp hp with hp | hp
            · exact List.mem_of_mem_take hp
            · exact List.mem_of_mem_drop (List.mem_of_mem_take hp)
          · rw [List.mem_singleton.mp hp]; exact gm
        · exact List.mem_of_mem_drop hp
  · unfold rowsU
    dsimp only
    split
    · rw [List.length_append, List.length_take, List.length_drop]; omega
    · split
      · rw [List.length_append, List.length_append, List.length_take, List.length_drop, List.length_singleton]; omega
      · rw [List.length_append, List.length_append, List.length_append, List.length_take, List.length_take, List.length_drop, List.length_drop, List.length_singleton]; omega
section
variable {P : Program} {w : World} {K : PySem.W.Frag} {mg : Str → Option Value} {base : Heap} {cB cN cX : Addr}
/-! _law_turned_text -/
abbrev sTurnedText : Stmt := topS 49
abbrev nTurnedText : List Str := ["_law_text", "_law_cell_here", "_law_some", "_law_at", "_law_sign"]
theorem scTurnedText : FnScope nTurnedText ["_law_text", "_law_cell_here"] (defScope sTurnedText) := ⟨rfl, rfl, rfl, by decide +kernel, rfl, by decide +kernel, by decide +kernel⟩
theorem ndTurnedText : (nTurnedText).Nodup := scTurnedText.nd
theorem loTurnedText : (["_law_text", "_law_cell_here", "_law_some", "_law_at", "_law_sign"] : List Str).all (locB (defScope sTurnedText)) = true := by decide +kernel
theorem glTurnedText : (["len"] : List Str).all (glB (defScope sTurnedText)) = true := by decide +kernel
def rTurnedText : List Sl → DOut → Prop := fun as o => ∃ (t : Str) (c : Int), as = [.sh (.str t), .sh (.int c)] ∧ t.length ≤ 12000 ∧ o = .val (.str (turnT t c))
theorem okTurnedText {f : Addr} {fd : FuncData} (F : Fun K "_law_turned_text" "_law_turned_text" sTurnedText f fd) (T : TxL mg) : FnOk P w K mg base (L2N.CX P w) 1 f fd ["_law_text", "_law_cell_here"] (spD K 2 rTurnedText) := by
  refine fnD F scTurnedText (by decide) fun cdv A outer s H E as o hr hl hR => ?_
  obtain ⟨t, c, rfl, lt, rfl⟩ := hR
  have hc : (cxOf (L2N.CX P w) P w K mg base nTurnedText "_law_turned_text" (defScope sTurnedText) f cdv A outer s H E).calm = true := rfl
  obtain ⟨n, en, hn⟩ := tat_nat t c
  obtain ⟨sp1, sp2, sp3⟩ := tsome_pl c
  have l1 : (chS (tsgn t c)).length = 1 := rfl
  have lTake : (cutS t none (some (tat t c))).length ≤ 12000 := by rw [en, len_cs, cs_take, List.length_take]; rw [len_cs] at lt; omega
  have lDrop : (cutS t (some (tat t c)) none).length ≤ 12000 := by rw [en, len_cs, cs_drop, List.length_drop]; rw [len_cs] at lt; omega
  have lDrop1 : (cutS t (some (tat t c + 1)) none).length ≤ 12000 := by
    rw [show tat t c + 1 = ((n + 1 : Nat) : Int) by rw [en]; rfl, len_cs, cs_drop, List.length_drop]; rw [len_cs] at lt; omega
  refine sds_cons (sd_set (i := 2) (d := .str tb1) ndTurnedText rfl (loc_of loTurnedText 2) (.inl rfl) ed_str ?_)
  refine sds_cons (sd_ifsetD (i := 2) (d := .str (tb1 ++ tb2)) (d1 := .str (tsome c)) ndTurnedText rfl (loc_of loTurnedText 2) (.inl rfl) (et_c cd_eqI (ed_mod (ed_v loTurnedText 1) ed_int (by decide)) ed_int) rfl (fun _ => ed_cat (j := tb2) (ed_v loTurnedText 2) ed_str (by decide +kernel)) (by unfold tsome; by_cases h : c % 2 = 1 <;> simp [h]) ?_)
  refine sds_cons (sd_set (i := 3) (d := .int (tat t c)) ndTurnedText rfl (loc_of loTurnedText 3) (.inl rfl) (ed_mod (ed_div (ed_v loTurnedText 1) ed_int ⟨by decide, by decide⟩) (ed_add (ed_lenS (ed_v loTurnedText 0) (by omega) (gl_of glTurnedText 0) T.len) ed_int) (by omega)) ?_)
  refine sds_cons (sd_set (i := 4) (d := .str (chS (tsgn t c))) ndTurnedText rfl (loc_of loTurnedText 4) (.inl rfl) (ed_ixS (w := tsome c) (ed_v loTurnedText 2) (ed_mod (ed_div (ed_div (ed_v loTurnedText 1) ed_int ⟨by decide, by decide⟩) (ed_add (ed_lenS (ed_v loTurnedText 0) (by omega) (gl_of glTurnedText 0) T.len) ed_int) ⟨by omega, by omega⟩) (ed_lenS (ed_v loTurnedText 2) (by omega) (gl_of glTurnedText 0) T.len) (by omega)) (by omega) (tsgn_at t c)) ?_)
  refine sds_cons (sd_if (et_c cd_eqI (ed_mod (ed_div (ed_v loTurnedText 1) ed_int ⟨by decide, by decide⟩) ed_int (by decide)) ed_int) (fun hb => ?_) (fun hb => ?_))
  · refine sds_one (sd_ret (ed_cat (ed_cat (ed_cutS (l := none) (u := some (tat t c)) (ed_v loTurnedText 0) trivial (ed_v loTurnedText 3) (by omega)) (ed_v loTurnedText 4) (by omega)) (ed_cutS (l := some (tat t c)) (u := none) (ed_v loTurnedText 0) (ed_v loTurnedText 3) trivial (by omega)) (by rw [len_app]; omega)) ?_)
    show PyData.str _ = .str (turnT t c)
    unfold turnT
    rw [if_pos hb]
  refine sds_nil ?_
  refine sds_cons (sd_if (et_c cd_eqI (ed_mod (ed_div (ed_v loTurnedText 1) ed_int ⟨by decide, by decide⟩) ed_int (by decide)) ed_int) (fun hb2 => ?_) (fun hb2 => ?_))
  · refine sds_one (sd_ret (ed_cat (ed_cutS (l := none) (u := some (tat t c)) (ed_v loTurnedText 0) trivial (ed_v loTurnedText 3) (by omega)) (ed_cutS (l := some (tat t c + 1)) (u := none) (ed_v loTurnedText 0) (ed_add (ed_v loTurnedText 3) ed_int) trivial (by omega)) (by omega)) ?_)
    show PyData.str _ = .str (turnT t c)
    unfold turnT
    rw [if_neg (by rw [hb]; exact Bool.false_ne_true), if_pos hb2]
  refine sds_nil ?_
  refine sds_one (sd_ret (ed_cat (ed_cat (ed_cutS (l := none) (u := some (tat t c)) (ed_v loTurnedText 0) trivial (ed_v loTurnedText 3) (by omega)) (ed_v loTurnedText 4) (by omega)) (ed_cutS (l := some (tat t c + 1)) (u := none) (ed_v loTurnedText 0) (ed_add (ed_v loTurnedText 3) ed_int) trivial (by omega)) (by rw [len_app]; omega)) ?_)
  show PyData.str _ = .str (turnT t c)
  unfold turnT
  rw [if_neg (by rw [hb]; exact Bool.false_ne_true), if_neg (by rw [hb2]; exact Bool.false_ne_true)]
end
end K3

set_option maxHeartbeats 4000000
namespace K3
open PySem L2 PD PyProof.Rows LW
theorem cutD_one {α : Type} (xs : List α) (k : Nat) : PD.cutD xs (some ((k + 1 : Nat) : Int)) (some ((k + 2 : Nat) : Int)) = (xs.drop (k + 1)).take 1 := by
  unfold PD.cutD
  rw [HT.sIx_nat, HT.sIx_nat]
  rcases Nat.lt_or_ge (k + 1) xs.length with h | h
  · rw [Nat.min_eq_left (by omega), Nat.min_eq_left (by omega), show k + 2 - (k + 1) = 1 by omega]
  · rw [Nat.min_eq_right (by omega), Nat.min_eq_right (by omega), Nat.sub_self, List.take_zero, List.drop_eq_nil_of_le h, List.take_nil]
def oddT : List Str := (["", "change", "change ", "change b on", "change b on ", "change b at a", "Change b"] : List Str) ++ (["change b\n", "add -:x", "add - : x", "add  -: x", "cut -", "set -: x", "cut b 0: x"] : List Str) ++ (["add b 00: x", "add b +1: x", "add b 1234567890: x", "add a 0: x", "put -: x"] : List Str) ++ (["add -", "add b: x", "", "add - x", "cut b", "change b on b", "change c on b a"] : List Str) ++ (["change c on a a", " change b", "change b  on a", "add -: x\t"] : List Str)
def oddOf (k : Nat) : Str := if (decide ((7 : Int) < (k : Int)) && decide ((k : Int) < 24) || decide ((k : Int) = 29)) = true then "change b\n" ++ oddT.getD k "" else oddT.getD k ""
theorem odd_facts : ((List.range 30).all fun k => (readF (oddOf k)).isNone && (decide ((oddOf k).length ≤ 30000) && decide ((Txt.split (oddOf k) "\n").length ≤ 100) && (Txt.split (oddOf k) "\n").all fun p => decide (p.length ≤ 1000) && (cs p).all fun c => decide (c < 256)) && decide ((oddT.getD k "").length ≤ 1000)) = true := by decide +kernel
theorem odd_ok {k : Nat} (h : k < 30) : readF (oddOf k) = none ∧ TOk (oddOf k) ∧ (oddT.getD k "").length ≤ 1000 := by
  have f := List.all_eq_true.mp odd_facts k (List.mem_range.mpr h)
  rw [Bool.and_eq_true, Bool.and_eq_true, Bool.and_eq_true, Bool.and_eq_true] at f
  obtain ⟨⟨f1, ⟨f2, f3⟩, f4⟩, f5⟩ := f
  refine ⟨Option.isNone_iff_eq_none.mp f1, ⟨of_decide_eq_true f2, of_decide_eq_true f3, fun p hp => ?_⟩, of_decide_eq_true f5⟩
  have g := List.all_eq_true.mp f4 p hp
  rw [Bool.and_eq_true] at g
  exact ⟨of_decide_eq_true g.1, fun c hc => of_decide_eq_true (List.all_eq_true.mp g.2 c hc)⟩
section
variable {P : Program} {w : World} {K : PySem.W.Frag} {mg : Str → Option Value} {base : Heap} {cB cN cX : Addr}
/-! _law_rows_turned -/
abbrev sRowsTurned : Stmt := topS 50
abbrev nRowsTurned : List Str := ["_law_text", "_law_cell_here", "_law_rows", "_law_at", "_law_behind"]
theorem scRowsTurned : FnScope nRowsTurned ["_law_text", "_law_cell_here"] (defScope sRowsTurned) := ⟨rfl, rfl, rfl, by decide +kernel, rfl, by decide +kernel, by decide +kernel⟩
theorem ndRowsTurned : (nRowsTurned).Nodup := scRowsTurned.nd
theorem loRowsTurned : (["_law_text", "_law_cell_here", "_law_rows", "_law_at", "_law_behind"] : List Str).all (locB (defScope sRowsTurned)) = true := by decide +kernel
theorem glRowsTurned : (["len"] : List Str).all (glB (defScope sRowsTurned)) = true := by decide +kernel
def rRowsTurned : List Sl → DOut → Prop := fun as o => ∃ (t : Str) (c : Int), as = [.sh (.str t), .sh (.int c)] ∧ TSt t ∧ o = .val (.str (Str.join "\n" (rowsU t c)))
theorem okRowsTurned {f : Addr} {fd : FuncData} (F : Fun K "_law_rows_turned" "_law_rows_turned" sRowsTurned f fd) (T : TxL mg) : FnOk P w K mg base (L2N.CX P w) 1 f fd ["_law_text", "_law_cell_here"] (spD K 2 rRowsTurned) := by
  refine fnD F scRowsTurned (by decide) fun cdv A outer s H E as o hr hl hR => ?_
  obtain ⟨t, c, rfl, ht, rfl⟩ := hR
  have hc : (cxOf (L2N.CX P w) P w K mg base nRowsTurned "_law_rows_turned" (defScope sRowsTurned) f cdv A outer s H E).calm = true := rfl
  have lt := ht.len
  obtain ⟨ek, lk⟩ := rat_lt t c
  have ln : (Txt.split t "\n").length ≤ 26 := by rw [split_len nl_cs nl_k]; have := ht.cnt; omega
  have lU : (rowsU t c).length ≤ 60 := by
    unfold rowsU
    dsimp only
    split
    · rw [List.length_append, List.length_take, List.length_drop]; omega
    · split
      · rw [List.length_append, List.length_append, List.length_take, List.length_drop, List.length_singleton]; omega
      · rw [List.length_append, List.length_append, List.length_append, List.length_take, List.length_take, List.length_drop, List.length_drop, List.length_singleton]; omega
  have l300 : ∀ p ∈ Txt.split t "\n", p.length ≤ 300 := fun p hp => by
    have q : cs p ∈ cut1 10 [] (cs t) := split_cs (t := t) nl_cs nl_k ▸ List.mem_map_of_mem hp
    rw [len_cs]
    exact ht.bd _ q
  have gm : (Txt.split t "\n").getD (rat t c) "" ∈ Txt.split t "\n" := by
    rw [List.getD_eq_getElem?_getD, List.getElem?_eq_getElem lk]
    exact List.getElem_mem lk
  have mU : ∀ p ∈ rowsU t c, p ∈ Txt.split t "\n" := fun p hp => by
    unfold rowsU at hp
    dsimp only at hp
    split at hp
    · rcases List.mem_append.mp hp with hp | hp
      · exact List.mem_of_mem_take hp
      · exact List.mem_of_mem_drop hp
    · split at hp
      · rcases List.mem_append.mp hp with hp | hp
        · rcases List.mem_append.mp hp with hp | hp
          · exact List.mem_of_mem_take hp
          · rw [List.mem_singleton.mp hp]; exact gm
        · exact List.mem_of_mem_drop hp
      · rcases List.mem_append.mp hp with hp | hp
        · rcases List.mem_append.mp hp with hp | hp
          · rcases List.mem_append.mp hp with hp | hp
            · exact List.mem_of_mem_take hp
            · exact List.mem_of_mem_drop (List.mem_of_mem_take hp)
          · rw [List.mem_singleton.mp hp]; exact gm
        · exact List.mem_of_mem_drop hp
  have sz : ((rowsU t c).map (·.length)).sum + (rowsU t c).length * ("\n" : Str).length ≤ 100000 := by
    have h1 := sum_len (k := 300) (zs := rowsU t c) fun p hp => l300 p (mU p hp)
    have l1 : ("\n" : Str).length = 1 := by decide +kernel
    have m : (rowsU t c).length * 300 ≤ 60 * 300 := Nat.mul_le_mul_right _ lU
    rw [l1]
    omega
  have at_ : atI ((Txt.split t "\n").map PyData.str) ((rat t c : Nat) : Int) = some (.str ((Txt.split t "\n").getD (rat t c) "")) := atI_nat (by rw [List.getElem?_map, List.getD_eq_getElem?_getD, List.getElem?_eq_getElem lk]; rfl)
  have d1 : cutD ((Txt.split t "\n").map PyData.str) none (some ((rat t c : Nat) : Int)) = ((Txt.split t "\n").take (rat t c)).map PyData.str := by rw [cutD_take, List.map_take]
  have d2 : cutD ((Txt.split t "\n").map PyData.str) (some (((rat t c : Nat) : Int) + 1)) none = ((Txt.split t "\n").drop (rat t c + 1)).map PyData.str := by
    rw [show ((rat t c : Nat) : Int) + 1 = ((rat t c + 1 : Nat) : Int) from rfl, cutD_drop, List.map_drop]
  have d3 : cutD ((Txt.split t "\n").map PyData.str) (some ((rat t c : Nat) : Int)) none = ((Txt.split t "\n").drop (rat t c)).map PyData.str := by rw [cutD_drop, List.map_drop]
  have d4 : cutD ((Txt.split t "\n").map PyData.str) (some (((rat t c : Nat) : Int) + 2)) none = ((Txt.split t "\n").drop (rat t c + 2)).map PyData.str := by
    rw [show ((rat t c : Nat) : Int) + 2 = ((rat t c + 2 : Nat) : Int) from rfl, cutD_drop, List.map_drop]
  have d5 : cutD ((Txt.split t "\n").map PyData.str) (some (((rat t c : Nat) : Int) + 1)) (some (((rat t c : Nat) : Int) + 2)) = (((Txt.split t "\n").drop (rat t c + 1)).take 1).map PyData.str := by
    rw [show ((rat t c : Nat) : Int) + 1 = ((rat t c + 1 : Nat) : Int) from rfl, show ((rat t c : Nat) : Int) + 2 = ((rat t c + 2 : Nat) : Int) from rfl, cutD_one, List.map_take, List.map_drop]
  have b1 : ∀ a : Nat, ((Txt.split t "\n").take a).length ≤ 26 := fun a => by rw [List.length_take]; omega
  have b2 : ∀ a : Nat, ((Txt.split t "\n").drop a).length ≤ 26 := fun a => by rw [List.length_drop]; omega
  refine sds_cons (sd_setL (i := 2) ndRowsTurned rfl (loc_of loRowsTurned 2) (.inl rfl) (el_split (ed_v loRowsTurned 0) ed_str one_end (by omega)) (fun r2 => ?_))
  refine sds_cons (sd_set (i := 3) (d := .int ((rat t c : Nat) : Int)) ndRowsTurned rfl (loc_of loRowsTurned 3) (.inl rfl) (ED.to (ed_mod (ed_div (ed_v loRowsTurned 1) ed_int ⟨by decide, by decide⟩) (ed_len (eb_v loRowsTurned 2) (gl_of glRowsTurned 0) T.len) (by rw [List.length_map]; omega)) (by rw [List.length_map, ek])) ?_)
  refine sds_cons (sd_if (et_c cd_eqI (ed_mod (ed_v loRowsTurned 1) ed_int (by decide)) ed_int) (fun hb => ?_) (fun hb => ?_))
  · refine sds_one (sd_ret (ed_join (zs := rowsU t c) ed_str (EL.rd (EL.to (el_cat (EL.dat (EL.to (el_cut (l := none) (u := some ((rat t c : Nat) : Int)) (eb_v loRowsTurned 2) trivial (ed_v loRowsTurned 3)) d1)) (EL.dat (EL.to (el_cut (l := some (((rat t c : Nat) : Int) + 1)) (u := none) (eb_v loRowsTurned 2) (ed_add (ed_v loRowsTurned 3) ed_int) trivial) d2)) (by rw [List.length_map, List.length_map]; have := b1 (rat t c); have := b2 (rat t c + 1); omega)) (by rw [← List.map_append]; unfold rowsU; rw [if_pos hb]))) sz) rfl)
  refine sds_nil ?_
  refine sds_cons (sd_if (et_c cd_eqI (ed_mod (ed_v loRowsTurned 1) ed_int (by decide)) ed_int) (fun hb2 => ?_) (fun hb2 => ?_))
  · refine sds_one (sd_ret (ed_join (zs := rowsU t c) ed_str (EL.rd (EL.to (el_cat (EL.dat (el_cat (EL.dat (EL.to (el_cut (l := none) (u := some ((rat t c : Nat) : Int)) (eb_v loRowsTurned 2) trivial (ed_v loRowsTurned 3)) d1)) (EL.dat (el_lst (ds := [.str ((Txt.split t "\n").getD (rat t c) "")]) (ea_d (ed_ixL (eb_v loRowsTurned 2) (ed_v loRowsTurned 3) at_) ea_nil) le_b)) (by rw [List.length_map]; have := b1 (rat t c); show _ + 1 ≤ _; omega))) (EL.dat (EL.to (el_cut (l := some ((rat t c : Nat) : Int)) (u := none) (eb_v loRowsTurned 2) (ed_v loRowsTurned 3) trivial) d3)) (by rw [List.length_append, List.length_map, List.length_map]; have := b1 (rat t c); have := b2 (rat t c); show _ + 1 + _ ≤ _; omega)) (by unfold rowsU; rw [if_neg (by rw [hb]; exact Bool.false_ne_true), if_pos hb2, List.map_append, List.map_append]; rfl))) sz) rfl)
  refine sds_nil ?_
  refine sds_cons (sd_setL (i := 4) ndRowsTurned rfl (loc_of loRowsTurned 4) (.inl rfl) (EL.to (el_cut (l := some (((rat t c : Nat) : Int) + 2)) (u := none) (eb_v loRowsTurned 2) (ed_add (ed_v loRowsTurned 3) ed_int) trivial) d4) (fun r4 => ?_))
  refine sds_frz (i := 4) rfl ?_
  refine sds_one (sd_ret (ed_join (zs := rowsU t c) ed_str (EL.rd (EL.to (el_cat (EL.dat (el_cat (EL.dat (el_cat (EL.dat (EL.to (el_cut (l := none) (u := some ((rat t c : Nat) : Int)) (eb_v loRowsTurned 2) trivial (ed_v loRowsTurned 3)) d1)) (EL.dat (EL.to (el_cut (l := some (((rat t c : Nat) : Int) + 1)) (u := some (((rat t c : Nat) : Int) + 2)) (eb_v loRowsTurned 2) (ed_add (ed_v loRowsTurned 3) ed_int) (ed_add (ed_v loRowsTurned 3) ed_int)) d5)) (by rw [List.length_map, List.length_map, List.length_take (i := 1)]; have := b1 (rat t c); omega))) (EL.dat (el_lst (ds := [.str ((Txt.split t "\n").getD (rat t c) "")]) (ea_d (ed_ixL (eb_v loRowsTurned 2) (ed_v loRowsTurned 3) at_) ea_nil) le_b)) (by rw [List.length_append, List.length_map, List.length_map, List.length_take (i := 1)]; have := b1 (rat t c); show _ + 1 ≤ _; omega))) (ed_v loRowsTurned 4) (by rw [List.length_append, List.length_append, List.length_map, List.length_map, List.length_map, List.length_take (i := 1)]; have := b1 (rat t c); have := b2 (rat t c + 2); show _ + 1 + _ ≤ _; omega)) (by unfold rowsU; rw [if_neg (by rw [hb]; exact Bool.false_ne_true), if_neg (by rw [hb2]; exact Bool.false_ne_true), List.map_append, List.map_append, List.map_append]; rfl))) sz) rfl)
/-! _law_odd -/
abbrev sOdd : Stmt := topS 48
abbrev nOdd : List Str := ["_law_way", "_law_some"]
theorem scOdd : FnScope nOdd ["_law_way"] (defScope sOdd) := ⟨rfl, rfl, rfl, by decide +kernel, rfl, by decide +kernel, by decide +kernel⟩
theorem ndOdd : (nOdd).Nodup := scOdd.nd
theorem loOdd : (["_law_way", "_law_some"] : List Str).all (locB (defScope sOdd)) = true := by decide +kernel
def rOdd : List Sl → DOut → Prop := fun as o => ∃ k : Nat, as = [.sh (.int (k : Int))] ∧ k < 30 ∧ o = .val (.str (oddOf k))
theorem okOdd {f : Addr} {fd : FuncData} (F : Fun K "_law_odd" "_law_odd" sOdd f fd) : FnOk P w K mg base (L2N.CX P w) 1 f fd ["_law_way"] (spD K 1 rOdd) := by
  refine fnD F scOdd (by decide) fun cdv A outer s H E as o hr hl hR => ?_
  obtain ⟨k, rfl, hk, rfl⟩ := hR
  have hc : (cxOf (L2N.CX P w) P w K mg base nOdd "_law_odd" (defScope sOdd) f cdv A outer s H E).calm = true := rfl
  obtain ⟨_, _, lo⟩ := odd_ok hk
  have at_ : atI (oddT.map PyData.str) ((k : Nat) : Int) = some (.str (oddT.getD k "")) := atI_nat (by
    have : k < oddT.length := by
      have : oddT.length = 30 := by decide +kernel
      omega
    rw [List.getElem?_map, List.getD_eq_getElem?_getD, List.getElem?_eq_getElem this]; rfl)
  refine sds_cons (sd_setL (i := 1) ndOdd rfl (loc_of loOdd 1) (.inl rfl) (el_lst (ds := [_, _, _, _, _, _, _]) (ea_d ed_str (ea_d ed_str (ea_d ed_str (ea_d ed_str (ea_d ed_str (ea_d ed_str (ea_d ed_str ea_nil))))))) le_b) (fun r1 => sds_frz (i := 1) rfl ?_))
  refine sds_cons (sd_setL (i := 1) ndOdd rfl (loc_of loOdd 1) (.inl rfl) (el_cat (ed_v loOdd 1) (EL.dat (el_lst (ds := [_, _, _, _, _, _, _]) (ea_d ed_str (ea_d ed_str (ea_d ed_str (ea_d ed_str (ea_d ed_str (ea_d ed_str (ea_d ed_str ea_nil))))))) le_b)) le_b) (fun r1 => sds_frz (i := 1) rfl ?_))
  refine sds_cons (sd_setL (i := 1) ndOdd rfl (loc_of loOdd 1) (.inl rfl) (el_cat (ed_v loOdd 1) (EL.dat (el_lst (ds := [_, _, _, _, _]) (ea_d ed_str (ea_d ed_str (ea_d ed_str (ea_d ed_str (ea_d ed_str ea_nil))))) le_b)) le_b) (fun r1 => sds_frz (i := 1) rfl ?_))
  refine sds_cons (sd_setL (i := 1) ndOdd rfl (loc_of loOdd 1) (.inl rfl) (el_cat (ed_v loOdd 1) (EL.dat (el_lst (ds := [_, _, _, _, _, _, _]) (ea_d ed_str (ea_d ed_str (ea_d ed_str (ea_d ed_str (ea_d ed_str (ea_d ed_str (ea_d ed_str ea_nil))))))) le_b)) le_b) (fun r1 => sds_frz (i := 1) rfl ?_))
  refine sds_cons (sd_setL (i := 1) ndOdd rfl (loc_of loOdd 1) (.inl rfl) (EL.to (el_cat (ed_v loOdd 1) (EL.dat (el_lst (ds := [_, _, _, _]) (ea_d ed_str (ea_d ed_str (ea_d ed_str (ea_d ed_str ea_nil)))) le_b)) le_b) (show _ = oddT.map PyData.str from rfl)) (fun r1 => ?_))
  refine sds_cons (sd_if (et_w (ew_or (et_ch cd_lt cd_lt ed_int (ed_v loOdd 0) ed_int) (fun _ => (ew_or1 (et_c cd_eqI (ed_v loOdd 0) ed_int))))) (fun hb => ?_) (fun hb => ?_))
  · refine sds_one (sd_ret (ed_cat ed_str (ed_ixL (eb_v loOdd 1) (ed_v loOdd 0) at_) (by have : ("change b\n" : Str).length = 9 := by decide +kernel
                                                                                         omega)) ?_)
    show PyData.str _ = .str (oddOf k)
    unfold oddOf
    rw [if_pos hb]
  · refine sds_nil (sds_one (sd_ret (ed_ixL (eb_v loOdd 1) (ed_v loOdd 0) at_) ?_))
    show PyData.str _ = .str (oddOf k)
    unfold oddOf
    rw [if_neg (by rw [hb]; exact Bool.false_ne_true)]
end
end K3

set_option maxHeartbeats 4000000
namespace K3
open PySem L2 PD PyProof.Rows LW
theorem headW_lenT {c : Change} (h : GoodW c) : (headT c.n c.ls).length ≤ (c.ls.length + 3) * 13 := by
  have h1 := join_len (w := " ") (k := 12) (zs := headW c.n c.ls) fun z hz => (headW_mem h.n h.ls z hz).1
  have h2 := headW_len c.n c.ls
  have e : (" " : Str).length = 1 := by decide +kernel
  rw [e] at h1
  exact Nat.le_trans h1 (Nat.mul_le_mul_right _ h2)
def rLWrittenW : List Sl → DOut → Prop := fun as o => ∃ c, as = [.sh (qC c)] ∧ GoodW c ∧ o = .val (.str (noteT c))
section
variable {P : Program} {w : World} {K : PySem.W.Frag} {mg : Str → Option Value} {base : Heap} {cB cN cX : Addr}
theorem okLWrittenW {f : Addr} {fd : FuncData} (F : Fun K "_law_written" "_law_written" sLWritten f fd) (cDeedRow : Cal P w K mg base 2 "_law_deed_row" 1 rDeedRow) : FnOk P w K mg base (L2N.CX P w) 3 f fd ["_law_change"] (spD K 1 rLWrittenW) := by
  refine fnD F scLWritten (by decide) fun cdv A outer s H E as o hr hl hR => ?_
  obtain ⟨c, rfl, ok, rfl⟩ := hR
  have hc : (cxOf (L2N.CX P w) P w K mg base nLWritten "_law_written" (defScope sLWritten) f cdv A outer s H E).calm = true := rfl
  have ln := ok.n.2.1
  have l7 : ("change " : Str).length = 7 := by decide +kernel
  have hdl := ok.dl
  have hll := ok.ll
  have hm : (c.ls.map PyData.str).isEmpty = c.ls.isEmpty := by cases c.ls <;> rfl
  refine sds_cons (sd_setL (i := 1) ndLWritten rfl (loc_of loLWritten 1) (.inl rfl) (el_lst (ds := [.str ("change " ++ c.n)]) (ea_d (ed_cat ed_str (ed_ixT (ds := [.str c.n, _, _]) (ed_v loLWritten 0) ed_int (atI_nat (j := 0) rfl)) (by omega)) ea_nil) le_b) (fun r1 => ?_))
  have fin : ∀ (h : Str), h = headT c.n c.ls → SDs (cxOf (L2N.CX P w) P w K mg base nLWritten "_law_written" (defScope sLWritten) f cdv A outer s H E) (fun c d _ H' => E c d H') ((defBody sLWritten).drop 2) [.sh (qC c), .ow r1 [.str h], .un] (deOf (.val (.str (noteT c)))) := fun h eh => by
    subst eh
    refine sds_frz (i := 1) rfl ?_
    refine sds_one (sd_ret (ed_join (zs := rowsT c) ed_str (EL.rd (EL.to (el_cat (ed_v loLWritten 1) (EL.dat (EL.to (el_lc (j := 2) ⟨hc, ndLWritten, blkOk_by (N := nLWritten) (sc := defScope sLWritten) (by decide +kernel), by decide, rfl, rfl, by intro _; rfl⟩ c.ds qD (fun _ => true) (fun d => .str (deedT d)) (ED.pst (ed_ixT (ds := [_, _, .list (c.ds.map qD)]) (ed_v loLWritten 0) ed_int (atI_nat (j := 2) rfl))) (by omega) (fun x hx s H C cl fp => rfl) (fun x hx _ s H C cl fp => (ed_call cDeedRow (hr.mono (by decide)) gl_b takesN0 (ea_d (ed_b 2) ea_nil) rfl ⟨x, rfl, (ok.ds x hx).ok, rfl⟩))) (lc_all _ _))) (by rw [List.length_map]; show 1 + _ ≤ 100000; omega)) (by
      show _ = (headT c.n c.ls :: c.ds.map deedT).map PyData.str
      rw [List.map_cons, List.map_map]; rfl))) ?_) rfl)
    have h1 := sum_len (k := 228) (zs := c.ds.map deedT) fun p hp => by
      obtain ⟨d, hd, rfl⟩ := List.mem_map.mp hp
      exact deedT_len (ok.ds d hd).ok
    have h2 := headW_lenT ok
    have l1 : ("\n" : Str).length = 1 := by decide +kernel
    have e2 : (rowsT c).length = c.ds.length + 1 := by unfold rowsT; rw [List.length_cons, List.length_map]
    have e3 : ((rowsT c).map (·.length)).sum = (headT c.n c.ls).length + ((c.ds.map deedT).map (·.length)).sum := rfl
    rw [List.length_map] at h1
    rw [l1, e3]
    omega
  have hlaw := headT_law c.n c.ls
  refine sds_cons (sd_if (et_list (ED.rd (ed_ixT (ds := [_, .list (c.ls.map .str), _]) (ed_v loLWritten 0) ed_int (atI_nat (j := 1) rfl)))) (fun hb => ?_) (fun hb => ?_))
  · rw [hm] at hb
    rw [if_pos hb] at hlaw
    refine sds_one (sd_setix (i := 1) (j := 0) (k := 0) (d := .str (headT c.n c.ls)) rfl (vis_of (loc_of loLWritten 1)) rfl (ED.to (ed_join (w := " ") (zs := ["change " ++ c.n, "on"] ++ c.ls) ed_str (EL.rd (EL.to (el_cat (EL.dat (el_lst (ds := [_, _]) (ea_d (ed_ixL (eb_v loLWritten 1) ed_int (atI_nat (j := 0) rfl)) (ea_d ed_str ea_nil)) le_b)) (ed_ixT (ds := [_, .list (c.ls.map .str), _]) (ed_v loLWritten 0) ed_int (atI_nat (j := 1) rfl)) (by rw [List.length_map]; show 2 + _ ≤ 100000; omega)) (by rw [List.map_append]; rfl))) ?_) (by rw [hlaw])) ed_int (ix_nat (n := 1) (j := 0) (by decide)) (fin _ rfl))
    have h1 := sum_len (k := 12) (zs := c.ls) fun z hz => (ok.ls z hz).2.1
    have l1 : (" " : Str).length = 1 := by decide +kernel
    have l2 : ("on" : Str).length = 2 := by decide +kernel
    have l8 : (("change " : Str) ++ c.n).length = 7 + c.n.length := by rw [len_app, l7]
    show (("change " : Str) ++ c.n).length + (("on" : Str).length + (c.ls.map (·.length)).sum) + (c.ls.length + 1 + 1) * (" " : Str).length ≤ 100000
    rw [l1]
    omega
  · rw [hm] at hb
    rw [hb, if_neg Bool.false_ne_true] at hlaw
    exact sds_nil (fin _ hlaw)
/-! ### _law_alone -/
abbrev sAlone : Stmt := topS 55
abbrev nAlone : List Str := ["_law_e", "_law_some", "_law_one_here"]
theorem scAlone : FnScope nAlone ["_law_e"] (defScope sAlone) := ⟨rfl, rfl, rfl, by decide +kernel, rfl, by decide +kernel, by decide +kernel⟩
theorem loAlone : (["_law_e", "_law_some"] : List Str).all (locB (defScope sAlone)) = true := by decide +kernel
theorem glAlone : (["isinstance", "BadChange", "NotLeaned", "Twice", "Missing", "NoLine", "Other", "Ring", "NoNote", "WeaveError", "ValueError", "len"] : List Str).all (glB (defScope sAlone)) = true := by decide +kernel
theorem okAlone {f : Addr} {fd : FuncData} (F : Fun K "_law_alone" "_law_alone" sAlone f fd) : FnE2 P w K mg base 1 f fd ["_law_e"] (spAlone2 K mg) := by
  refine fnE2 F scAlone (fun pl a vs H Q E ⟨D, _, _, _, _, _, _, _, _, _, e, _⟩ => by rw [e]; rfl) fun cdv A outer s H vs Q pl a hot hr h => ?_
  obtain ⟨D, d0, b1, b2, b3, b4, b5, b6, b7, b8, rfl, hat, k, q⟩ := h
  obtain ⟨oe, ws, pin0, hz, hd, hctx⟩ := hat
  have hf : ∃ vs, oe.data = .fields vs := ⟨ws, hd⟩
  have pin : (a, oe) ∈ (cxL P w K mg base nAlone "_law_alone" (defScope sAlone) f cdv A outer s H pl).pn := pin0
  have hotC : HotD (cxL P w K mg base nAlone "_law_alone" (defScope sAlone) f cdv A outer s H pl) := ⟨a, d0, oe, ws, hot, pin0, hd, hz.2.2 ws hd, hctx⟩
  have en : En K H H H (L2.start nAlone [.ref a]) [.raw (.ref a), .un, .un] := en_start nAlone (as := [.raw (.ref a)]) (Ex.refl H) (.cons rfl .nil) le_b
  have nd := scAlone.nd
  have go : SDs (cxL P w K mg base nAlone "_law_alone" (defScope sAlone) f cdv A outer s H pl) (fun _ _ _ _ => False) (defBody sAlone) [.raw (.ref a), .un, .un] { nx := fun _ => False, rt := fun d => d = .bool true } := by
    refine sds_cons (sd_setL (i := 1) nd rfl (loc_of loAlone 1) (.inl rfl) (el_lst (ds := [_, _, _, _]) (ea_d (ed_isiC loAlone glAlone 0 0 1 pin k.cls hz.zc hf k.k1 k.is) (ea_d (ed_isiC loAlone glAlone 0 0 2 pin k.cls hz.zc hf k.k2 k.is) (ea_d (ed_isiC loAlone glAlone 0 0 3 pin k.cls hz.zc hf k.k3 k.is) (ea_d (ed_isiC loAlone glAlone 0 0 4 pin k.cls hz.zc hf k.k4 k.is) ea_nil)))) le_b) fun r => ?_)
    refine sds_frz (i := 1) rfl ?_
    refine sds_cons (sd_setL (i := 1) nd rfl (loc_of loAlone 1) (.inl rfl) (el_cat (ed_v loAlone 1) (EL.dat (el_lst (ds := [_, _, _, _]) (ea_d (ed_isiC loAlone glAlone 0 0 5 pin k.cls hz.zc hf k.k5 k.is) (ea_d (ed_isiC loAlone glAlone 0 0 6 pin k.cls hz.zc hf k.k6 k.is) (ea_d (ed_isiC loAlone glAlone 0 0 7 pin k.cls hz.zc hf k.k7 k.is) (ea_d (ed_isiC loAlone glAlone 0 0 8 pin k.cls hz.zc hf k.k8 k.is) ea_nil)))) le_b)) le_b) fun r => ?_)
    refine sds_one (sd_ret (ed_and (ed_c cd_eqI (ed_len (EL.rd (el_hot2 (bs := [b1, b2, b3, b4, b5, b6, b7, b8]) hotC (eb_v loAlone 1) (by show 8 ≤ 1000; decide))) (gl_of glAlone 11) k.ln) ed_int) (fun _ => ed_and (ed_isiC loAlone glAlone 0 0 9 pin k.cls hz.zc hf k.k9 k.is) (fun _ => ed_one (ed_isiV loAlone glAlone 0 0 10 pin k.cls hz.zc hf k.kv k.ve k.is)))) ?_)
    show PyData.bool _ = .bool true
    rw [k.one]
    rfl
  refine go H H H H _ _ ⟨Ext.refl (Ex.refl H), en⟩ ⟨fun _ _ _ _ q => q.elim, fun d v F' H' e x i => ?_, fun _ _ _ _ _ q => q.elim, fun _ _ _ _ q => q.elim, fun _ _ _ _ q => q.elim, fun _ _ _ _ _ q => q.elim, fun _ _ _ _ q => q.elim⟩
  have e : d = .bool true := e
  subst e
  rw [i.bl_eq]
  exact q H' x.h

/-! ### _law_refused -/
abbrev sRefused : Stmt := topS 56
abbrev nRefused : List Str := ["_law_text", "_law_e"]
theorem scRefused : FnScope nRefused ["_law_text"] (defScope sRefused) := ⟨rfl, rfl, rfl, by decide +kernel, rfl, by decide +kernel, by decide +kernel⟩
theorem ndRefused : (nRefused).Nodup := scRefused.nd
theorem loRefused : (["_law_text", "_law_e"] : List Str).all (locB (defScope sRefused)) = true := by decide +kernel
theorem glRefused : (["read", "NoNote", "_law_alone"] : List Str).all (glB (defScope sRefused)) = true := by decide +kernel
structure Alo2 (P : Program) (w : World) (K : PySem.W.Frag) (mg : Str → Option Value) (base : Heap) : Prop where
  ex : ∃ (f : Addr) (fd : FuncData), FnE2 P w K mg base 1 f fd ["_law_e"] (spAlone2 K mg) ∧ mg "_law_alone" = some (.ref f) ∧ PySem.W.keepIn K (.ref f) = true ∧ Binds K fd ["_law_e"] []
/-- NoNote, looked at -/
structure KitX (K : PySem.W.Frag) (mg : Str → Option Value) (cX : Addr) : Prop where
  k : ∃ b1 b2 b3 b4 b5 b6 b7 b8, Kit8 K mg cX b1 b2 b3 b4 b5 b6 b7 b8
  e : PySem.W.exmOne K (.ref cX) (.ref cX) = some true
def rRefused : List Sl → DOut → Prop := fun as o => ∃ t, as = [.sh (.str t)] ∧ TOk t ∧ o = .val (.bool (readF t).isNone)
theorem okRefused {f : Addr} {fd : FuncData} (F : Fun K "_law_refused" "_law_refused" sRefused f fd) (T : TxN K mg cX) (kit : KitX K mg cX) (cRead : CalM P w K mg base 5 "read" 1 (rRead cX)) (al : Alo2 P w K mg base) : FnOk P w K mg base (L2N.CX P w) 6 f fd ["_law_text"] (spD K 1 rRefused) := by
  refine fnD F scRefused (by decide) fun cdv A outer s H E as o hr hl hR => ?_
  obtain ⟨t, rfl, ok, rfl⟩ := hR
  obtain ⟨fa, fda, Fa, ma, ka, ba⟩ := al.ex
  have hrh : L2H.RoomH 1 (A.deeper (envOfC "_law_refused" (defScope sRefused) s.heap.objs.size f cdv)) := L2H.roomH_of (hr.mono (by decide))
  have hrm : ∀ a : Addr, L2H.RoomH 1 ((A.deeper (envOfC "_law_refused" (defScope sRefused) s.heap.objs.size f cdv)).mark (some (.ref a))) := fun a => ⟨hrh.dp, hrh.un⟩
  obtain ⟨b1, b2, b3, b4, b5, b6, b7, b8, k8⟩ := kit.k
  refine sds_cons (sd_tryM (i := 1) (c := .ref cX) (y := "NoNote") (o := outR cX (readF t)) (as := [.sh (.str t)]) rfl rfl ndRefused rfl rfl ⟨gl_of glRefused 1, by decide, .inl T.note.g⟩ cRead (hr.mono (by decide)) (gl_of glRefused 0) (fun W0 pn xe => ea_d (ed_v loRefused 0) ea_nil) rfl ⟨t, rfl, ok, rfl⟩ (fun D e => ?_) (fun d e => ?_) (fun P e => ?_) (fun ds e => ?_))
  · cases er : readF t with
    | some c => rw [er] at e; cases e
    | none =>
      rw [er] at e
      have e : DOut.exc cX = .exc D := e
      cases e
      refine ⟨kit.e, fun a d pn hand => ?_⟩
      obtain ⟨oe, ws, m, hz, hd, hh, hctx⟩ := hand
      exact sds_one (sd_ret (ed_alone2 loRefused glRefused 1 2 Fa (hrm a) hh ⟨oe, ws, m, hz, hd, hctx⟩ k8 ma ka ba) (by show PyData.bool true = .bool (none : Option Change).isNone; rfl))
  · cases er : readF t with
    | none => rw [er] at e; cases e
    | some c => exact sds_one (sd_ret ed_bl (by show PyData.bool false = .bool (some c : Option Change).isNone; rfl))
  · cases er : readF t with
    | none => rw [er] at e; cases e
    | some c => rw [er] at e; cases e
  · cases er : readF t with
    | none => rw [er] at e; cases e
    | some c => rw [er] at e; cases e
end
end K3

set_option maxHeartbeats 4000000
namespace K3
open PySem L2 PD PyProof.Rows LW
/-! ### the drawn change's note -/
theorem chsAt_ll (cells : List Int) : ∀ k, ∀ f ∈ (chsAt cells k).1, f.ls.length ≤ k
  | 0, f, h => nomatch h
  | k + 1, f, h => by
    rcases List.mem_append.mp (show f ∈ (chsAt cells k).1 ++ [chAt cells (chsAt cells k).1 (chsAt cells k).2 k] from h) with h | h
    · have := chsAt_ll cells k f h
      omega
    · rw [List.mem_singleton.mp h]
      have h1 := leansOf_len (cell cells (4 * k + 1)) (chsAt cells k).1
      have h2 := (chsAt_len cells k).1
      show (leansOf _ _).length ≤ k + 1
      omega
theorem oneOf_ll (cells : List Int) : (oneOf cells 6).ls.length ≤ 6 := by
  unfold oneOf
  split
  · exact Nat.zero_le _
  · rename_i hne
    have pos : 0 < (changesOf cells 6).length := by
      cases e : changesOf cells 6 with
      | nil => rw [e] at hne; exact absurd rfl hne
      | cons _ _ => exact Nat.succ_pos _
    have p1 := Int.emod_nonneg (cell cells 1) (show ((changesOf cells 6).length : Int) ≠ 0 by omega)
    have p2 := Int.emod_lt_of_pos (cell cells 1) (show (0 : Int) < ((changesOf cells 6).length : Int) by omega)
    show ((changesOf cells 6).getD _ _).ls.length ≤ 6
    rw [List.getD_eq_getElem?_getD, List.getElem?_eq_getElem (by omega)]
    have hk : chCount cells 6 ≤ 6 := by unfold chCount; split <;> omega
    exact Nat.le_trans (chsAt_ll cells (chCount cells 6) _ (List.getElem_mem (l := changesOf cells 6) _)) hk
theorem free_of_head {n : Str} {ls : List Str} (hn : NameOk n) (hl : ∀ z ∈ ls, NameOk z) {s : Nat} (hs : s < 32) : s ∉ cs (headT n ls) := by
  unfold headT
  rw [show cs (Str.join " " (headW n ls)) = TL.joinL (cs " ") ((headW n ls).map cs) from TL.tl_join _ _]
  intro q0
  have chg : ∀ k ∈ cs ("change" : Str), 32 ≤ k := by decide +kernel
  have on_ : ∀ k ∈ cs ("on" : Str), 32 ≤ k := by decide +kernel
  rcases joinL_mem q0 with q | ⟨p, hp, q⟩
  · have : ∀ k ∈ cs (" " : Str), 32 ≤ k := by decide +kernel
    have := this s q
    omega
  · obtain ⟨z, hz, rfl⟩ := List.mem_map.mp hp
    unfold headW at hz
    rcases List.mem_cons.mp hz with rfl | hz
    · have := chg s q; omega
    rcases List.mem_cons.mp hz with rfl | hz
    · exact name_ne hn (s := s) (by omega) q
    split at hz
    · rcases List.mem_cons.mp hz with rfl | hz
      · have := on_ s q; omega
      · exact name_ne (hl z hz) (s := s) (by omega) q
    · exact nomatch hz
theorem free_of_mark {m : Option (Str × Int)} (h : MarkOk m) {s : Nat} (hs : s < 32) : s ∉ cs (markT m) := by
  cases m with
  | none =>
    have : ∀ k ∈ cs (markT none), 32 ≤ k := by decide +kernel
    intro q
    have := this s q
    omega
  | some p =>
    obtain ⟨x, k⟩ := p
    obtain ⟨hx, h0, _⟩ := h x k rfl
    rw [cs_markT]
    intro q
    rcases List.mem_append.mp q with q | q
    · exact name_ne hx (s := s) (by omega) q
    rcases List.mem_cons.mp q with rfl | q
    · omega
    · exact num_ne h0 (s := s) (by omega) q
theorem free_of_deed {d : Deed} (h : DeedOk' d) {s : Nat} (hs : s < 32) : s ∉ cs (deedT d) := by
  have hw : s ∉ cs d.w := by
    have a : ∀ w : Str, (w = "add" ∨ w = "cut" ∨ w = "set") → ∀ k ∈ cs w, 32 ≤ k := by
      intro w hw
      rcases hw with rfl | rfl | rfl <;> decide +kernel
    intro q
    have := a d.w h.w s q
    omega
  have hb : s ∉ cs (" " : Str) := by
    have a : ∀ k ∈ cs (" " : Str), 32 ≤ k := by decide +kernel
    intro q
    have := a s q
    omega
  have hc : s ∉ cs (": " : Str) := by
    have a : ∀ k ∈ cs (": " : Str), 32 ≤ k := by decide +kernel
    intro q
    have := a s q
    omega
  have hH : s ∉ cs (deedH d) := by
    unfold deedH
    rw [cs_app, cs_app]
    intro q
    rcases List.mem_append.mp q with q | q
    · rcases List.mem_append.mp q with q | q
      · exact hw q
      · exact hb q
    · exact free_of_mark h.m hs q
  unfold deedT
  split
  · exact hH
  · rename_i hcut
    obtain ⟨l, e, hl⟩ := h.l (by simpa using hcut)
    rw [e, cs_app, cs_app]
    intro q
    rcases List.mem_append.mp q with q | q
    · rcases List.mem_append.mp q with q | q
      · exact hH q
      · exact hc q
    · exact line_ne hl hs q
theorem no_tab {c : Change} (h : GoodW c) : 9 ∉ cs (noteT c) := by
  unfold noteT
  rw [show cs (Str.join "\n" (rowsT c)) = TL.joinL (cs "\n") ((rowsT c).map cs) from TL.tl_join _ _]
  intro q
  rcases joinL_mem q with q | ⟨p, hp, q⟩
  · exact absurd q (by decide +kernel)
  · obtain ⟨z, hz, rfl⟩ := List.mem_map.mp hp
    rcases List.mem_cons.mp hz with rfl | hz
    · exact free_of_head h.n h.ls (by decide) q
    · obtain ⟨d, hd, rfl⟩ := List.mem_map.mp hz
      exact free_of_deed (h.ds d hd).ok (by decide) q
theorem note_st {c : Change} (h : Good c) (hl : c.ls.length ≤ 6) : TSt (noteT c) := by
  have hr : ∀ p ∈ rowsT c, p.length ≤ 300 := fun p hp => by
    rcases List.mem_cons.mp hp with rfl | hp
    · have := headW_lenT h.w
      have m : (c.ls.length + 3) * 13 ≤ 9 * 13 := Nat.mul_le_mul_right _ (by omega)
      omega
    · obtain ⟨d, hd, rfl⟩ := List.mem_map.mp hp
      have := deedT_len (h.ds d hd).ok
      omega
  have e2 : (rowsT c).length = c.ds.length + 1 := by unfold rowsT; rw [List.length_cons, List.length_map]
  have hdl := h.dl
  have sp := split_noteW h.w
  refine ⟨?_, ?_, fun p hp => ?_, fun k hk => ?_⟩
  · have := join_len (w := "\n") (zs := rowsT c) hr
    have e : ("\n" : Str).length = 1 := by decide +kernel
    rw [e, e2] at this
    have m : (c.ds.length + 1) * (300 + 1) ≤ 21 * 301 := Nat.mul_le_mul_right _ (by omega)
    show (Str.join "\n" (rowsT c)).length ≤ 12000
    omega
  · have := split_len (t := noteT c) nl_cs nl_k
    rw [sp, e2] at this
    omega
  · have e := split_cs (t := noteT c) nl_cs nl_k
    rw [sp] at e
    have hp : p ∈ cut1 10 [] (cs (noteT c)) := hp
    rw [← e] at hp
    obtain ⟨z, hz, rfl⟩ := List.mem_map.mp hp
    rw [← len_cs]
    exact hr z hz
  · have hk : k ∈ TL.joinL (cs "\n") ((rowsT c).map cs) := TL.tl_join "\n" (rowsT c) ▸ hk
    rcases joinL_mem hk with q | ⟨p, hp, q⟩
    · have : ∀ k ∈ cs ("\n" : Str), k < 256 := by decide +kernel
      exact this k q
    · obtain ⟨z, hz, rfl⟩ := List.mem_map.mp hp
      rcases List.mem_cons.mp hz with rfl | hz
      · exact (headT_tx h.n h.ls h.ll).2 k q
      · obtain ⟨d, hd, rfl⟩ := List.mem_map.mp hz
        exact (deedT_tx (h.ds d hd).ok).2 k q
/-! ### the texts that are none -/
def lastR : Str := "add -: " ++ repS "x" 201
theorem last_cs : cs (repS "x" 201) = List.replicate 201 120 := by
  show (repS "x" 201).cps.toList = _
  rw [repS_cs]
  decide +kernel
theorem lastR_nl : 10 ∉ cs lastR := by
  unfold lastR
  rw [cs_app, last_cs]
  decide +kernel
def tailR : Str := "\nadd -: " ++ repS "x" 201
theorem tail_cs : cs tailR = 10 :: cs lastR := by
  unfold tailR lastR
  rw [cs_app, cs_app]
  rfl
theorem lastR_head : readHead lastR = none := by decide +kernel
theorem lastR_take : (takeD lastR).l = some (repS "x" 201) ∧ (takeD lastR).w = "add" := by
  exact ⟨by decide +kernel, by decide +kernel⟩
theorem rep_len : (repS "x" 201).length = 201 := by rw [len_cs, last_cs]; rfl
theorem tail_st {t : Str} (h : TSt t) : TOk (t ++ tailR) := by
  have hb : Bd 10 300 (cs tailR) := by
    rw [tail_cs]
    refine bd_le (bd_any _) ?_
    unfold lastR
    rw [cs_app, last_cs]
    decide +kernel
  have lt : tailR.length ≤ 300 := by rw [len_cs, tail_cs]; unfold lastR; rw [cs_app, last_cs]; decide +kernel
  have ct : (cs tailR).count 10 ≤ 1 := by rw [tail_cs]; unfold lastR; rw [cs_app, last_cs]; decide +kernel
  have pt : ∀ k ∈ cs tailR, k < 256 := by
    rw [tail_cs]
    unfold lastR
    rw [cs_app, last_cs]
    decide +kernel
  have hl := h.len
  have hc := h.cnt
  refine tok_of (k := 300 + 300) (by rw [len_app]; omega) (by rw [cs_app, List.count_append]; omega) (by rw [cs_app]; exact bd_cat h.bd hb) (by decide) (fun k hk => ?_)
  rw [cs_app] at hk
  rcases List.mem_append.mp hk with hk | hk
  · exact h.pl k hk
  · exact pt k hk
theorem tail_none {t : Str} (h : TSt t) : readF (t ++ tailR) = none := by
  cases e : readF (t ++ tailR) with
  | none => rfl
  | some c =>
    exfalso
    obtain ⟨h1, h2⟩ := readF_fwd (tail_st h) e
    obtain ⟨U, z, eU⟩ := cut1_app 10 (cs t) []
    have last : cs lastR ∈ cut1 10 [] (cs (t ++ tailR)) := by
      rw [cs_app, tail_cs, eU, cut1_hit]
      have : cut1 10 [] (cs lastR) = [cs lastR] := by
        have := TL.spl_last1 (s := 10) (S := []) (acc := []) lastR_nl
        rw [List.nil_append] at this
        exact this
      rw [this]
      simp
    have ex := split_cs (t := noteT c) nl_cs nl_k
    rw [split_noteW h2, h1] at ex
    rw [← ex] at last
    obtain ⟨p, hp, ep⟩ := List.mem_map.mp last
    have ep : p = lastR := cs_ext ep
    subst ep
    rcases List.mem_cons.mp hp with q | hp
    · have := readHead_back h2.n h2.ls
      rw [← q, lastR_head] at this
      cases this
    · obtain ⟨d, hd, q⟩ := List.mem_map.mp hp
      have td := takeD_back (h2.ds d hd).ok
      rw [q] at td
      obtain ⟨a, b⟩ := lastR_take
      rw [td] at a b
      obtain ⟨l, el, hlk⟩ := (h2.ds d hd).ok.l (by rw [b]; decide +kernel)
      rw [a] at el
      cases el
      have := hlk.1
      rw [rep_len] at this
      omega
theorem tab_none {t : Str} (h : TSt t) (n : Nat) : TOk (cutS t none (some (n : Int)) ++ "\t" ++ cutS t (some (n : Int)) none) ∧ readF (cutS t none (some (n : Int)) ++ "\t" ++ cutS t (some (n : Int)) none) = none := by
  have e : cs (cutS t none (some (n : Int)) ++ ("\t" : Str) ++ cutS t (some (n : Int)) none) = (cs t).take n ++ [9] ++ (cs t).drop n := by
    rw [cs_app, cs_app, cs_take, cs_drop]
    have : cs ("\t" : Str) = [9] := by decide +kernel
    rw [this]
  have ok : TOk (cutS t none (some (n : Int)) ++ "\t" ++ cutS t (some (n : Int)) none) := tst_cut h e (Nat.le_refl _) (fun k hk => by rw [List.mem_singleton.mp hk]; decide)
  refine ⟨ok, ?_⟩
  cases er : readF (cutS t none (some (n : Int)) ++ "\t" ++ cutS t (some (n : Int)) none) with
  | none => rfl
  | some c =>
    exfalso
    obtain ⟨h1, h2⟩ := readF_fwd ok er
    refine no_tab h2 ?_
    rw [h1, e]
    simp
end K3

set_option maxHeartbeats 4000000
namespace K3
open PySem L2 PD PyProof.Rows LW
section
variable {P : Program} {w : World} {K : PySem.W.Frag} {mg : Str → Option Value} {base : Heap} {cB cN cX : Addr}
/-! law -/
abbrev sLaw : Stmt := topS 57
abbrev nLaw : List Str := ["_law_script", "_law_change", "_law_way", "_law_cell_here", "_law_text", "_law_at", "_law_due", "_law_k"]
theorem scLaw : FnScope nLaw ["_law_script"] (defScope sLaw) := ⟨rfl, rfl, rfl, by decide +kernel, rfl, by decide +kernel, by decide +kernel⟩
theorem ndLaw : (nLaw).Nodup := scLaw.nd
theorem loLaw : (["_law_script", "_law_change", "_law_way", "_law_cell_here", "_law_text", "_law_at", "_law_due"] : List Str).all (locB (defScope sLaw)) = true := by decide +kernel
theorem glLaw : (["_law_one", "_law_cell", "_law_written", "len", "_law_refused", "all", "range", "_law_turned_text", "_law_rows_turned", "_law_taken_for", "_law_good", "_law_change_like", "read"] : List Str).all (glB (defScope sLaw)) = true := by decide +kernel
def rLaw : List Sl → DOut → Prop := fun as o => ∃ ns : List Int, as = [.bo (ns.map .int)] ∧ ns.length ≤ 63 ∧ o = .val (.bool true)
/-- the text that is looked at -/
def textOf (c : Change) (way ch : Int) : Str := if decide (way = 2) = true then Str.join "\n" (rowsU (noteT c) ch) else if decide (way = 1) = true then turnT (noteT c) ch else noteT c
theorem okLaw {f : Addr} {fd : FuncData} (F : Fun K "law" "law" sLaw f fd) (T : TxL mg) (cOne : Cal P w K mg base 4 "_law_one" 2 rOne) (cCell : Cal P w K mg base 1 "_law_cell" 2 rCell) (cLWritten : Cal P w K mg base 3 "_law_written" 1 rLWrittenW) (cRefused : Cal P w K mg base 6 "_law_refused" 1 rRefused) (cTurnedText : Cal P w K mg base 1 "_law_turned_text" 2 rTurnedText) (cRowsTurned : Cal P w K mg base 1 "_law_rows_turned" 2 rRowsTurned) (cTakenFor : Cal P w K mg base 2 "_law_taken_for" 1 rTakenFor) (cGood : Cal P w K mg base 2 "_law_good" 1 rGood) (cChangeLike : Cal P w K mg base 2 "_law_change_like" 2 rChangeLike) (cRead : CalM P w K mg base 5 "read" 1 (rRead cX)) (cOdd : Cal P w K mg base 1 "_law_odd" 1 rOdd) : FnOk P w K mg base (L2N.CX P w) 7 f fd ["_law_script"] (spD K 1 rLaw) := by
  refine fnD F scLaw (by decide) fun cdv A outer s H E as o hr hl hR => ?_
  obtain ⟨ns, rfl, hns, rfl⟩ := hR
  have hc : (cxOf (L2N.CX P w) P w K mg base nLaw "law" (defScope sLaw) f cdv A outer s H E).calm = true := rfl
  have tk : L2N.Takes (cxOf (L2N.CX P w) P w K mg base nLaw "law" (defScope sLaw) f cdv A outer s H E) (fun c d _ H' => E c d H') := L2N.takes_of rfl rfl rfl rfl
  have good := oneOf_good (cells := ns) (most := 6) (by decide)
  have gll := oneOf_ll ns
  generalize hone : oneOf ns 6 = c at *
  have st := note_st good gll
  have lt := st.len
  have way0 := Int.emod_nonneg (cell ns 2) (show (4 : Int) ≠ 0 by decide)
  have way4 := Int.emod_lt_of_pos (cell ns 2) (show (0 : Int) < 4 by decide)
  generalize hway : cell ns 2 % 4 = way at *
  generalize hch : cell ns 3 / 7 = ch at *
  refine sds_cons (sd_set (i := 1) (d := qC c) ndLaw rfl (loc_of loLaw 1) (.inl rfl) (ed_call cOne (hr.mono (by decide)) (gl_of glLaw 0) tk (ea_b (EP'.rd (ep_v loLaw 0)) (ea_d ed_int ea_nil)) rfl ⟨ns, 6, rfl, by omega, by decide, by decide, by rw [hone]⟩) ?_)
  refine sds_cons (sd_set (i := 2) (d := .int way) ndLaw rfl (loc_of loLaw 2) (.inl rfl) (ED.to (ed_mod (ed_call (d := .int (cell ns 2)) cCell (hr.mono (by decide)) (gl_of glLaw 1) tk (ea_b (EP'.rd (ep_v loLaw 0)) (ea_d ed_int ea_nil)) rfl ⟨ns, 2, rfl, rfl⟩) ed_int (by decide)) (by rw [hway])) ?_)
  refine sds_cons (sd_set (i := 3) (d := .int ch) ndLaw rfl (loc_of loLaw 3) (.inl rfl) (ED.to (ed_div (ed_call (d := .int (cell ns 3)) cCell (hr.mono (by decide)) (gl_of glLaw 1) tk (ea_b (EP'.rd (ep_v loLaw 0)) (ea_d ed_int ea_nil)) rfl ⟨ns, 3, rfl, rfl⟩) ed_int ⟨by decide, by decide⟩) (by rw [hch])) ?_)
  refine sds_cons (sd_set (i := 4) (d := .str (noteT c)) ndLaw rfl (loc_of loLaw 4) (.inl rfl) (ed_call cLWritten (hr.mono (by decide)) (gl_of glLaw 2) tk (ea_d (ed_v loLaw 1) ea_nil) rfl ⟨c, rfl, good.w, rfl⟩) ?_)
  refine sds_cons (sd_if (et_c cd_eqI (ed_v loLaw 2) ed_int) (fun hb => ?_) (fun hb => ?_))
  · -- what is refused
    have p1 := Int.emod_nonneg ch (show ((noteT c).length : Int) + 1 ≠ 0 by omega)
    have p2 := Int.emod_lt_of_pos ch (show (0 : Int) < ((noteT c).length : Int) + 1 by omega)
    obtain ⟨n, hn⟩ := Int.eq_ofNat_of_zero_le p1
    obtain ⟨tok, tnone⟩ := tab_none st n
    have l1 : ("\t" : Str).length = 1 := by decide +kernel
    have lTake : (cutS (noteT c) none (some (n : Int))).length ≤ 12000 := by rw [len_cs, cs_take, List.length_take]; rw [len_cs] at lt; omega
    have lDrop : (cutS (noteT c) (some (n : Int)) none).length ≤ 12000 := by rw [len_cs, cs_drop, List.length_drop]; rw [len_cs] at lt; omega
    have l8 : ("\nadd -: " : Str).length = 8 := by decide +kernel
    have lx : (repS "x" 201).length = 201 := rep_len
    refine sds_cons (sd_set (i := 5) (d := .int (n : Int)) ndLaw rfl (loc_of loLaw 5) (.inl rfl) (ED.to (ed_mod (ed_v loLaw 3) (ed_add (ed_lenS (ed_v loLaw 4) (by omega) (gl_of glLaw 3) T.len) ed_int) (by omega)) (by rw [hn])) ?_)
    refine sds_cons (sd_if (et_not (et_val (k := true) (ed_call cRefused (hr.mono (by decide)) (gl_of glLaw 4) tk (ea_d (ed_cat (ed_cat (ed_cutS (l := none) (u := some (n : Int)) (ed_v loLaw 4) trivial (ed_v loLaw 5) (by omega)) ed_str (by omega)) (ed_cutS (l := some (n : Int)) (u := none) (ed_v loLaw 4) (ed_v loLaw 5) trivial (by omega)) (by rw [len_app]; omega)) ea_nil) rfl ⟨_, rfl, tok, by rw [tnone]; rfl⟩))) (fun hb2 => by cases hb2) (fun hb2 => ?_))
    refine sds_nil ?_
    have et : noteT c ++ "\nadd -: " ++ repS "x" ((201 : Int)).toNat = noteT c ++ tailR := by
      refine cs_ext ?_
      unfold tailR
      simp only [cs_app, List.append_assoc]
      rfl
    refine sds_cons (sd_if (et_not (et_val (k := true) (ed_call cRefused (hr.mono (by decide)) (gl_of glLaw 4) tk (ea_d (ED.to (ed_cat (ed_cat (ed_v loLaw 4) ed_str (by omega)) (ed_repS ed_str ed_int ⟨by decide, by decide, by decide +kernel, by decide +kernel⟩) (by rw [len_app]; show _ + _ + (repS "x" 201).length ≤ _; omega)) (by rw [et])) ea_nil) rfl ⟨_, rfl, tail_st st, by rw [tail_none st]; rfl⟩))) (fun hb2 => by cases hb2) (fun hb2 => ?_))
    refine sds_nil ?_
    refine sds_one (sd_ret (ed_all (bs := (List.range 30).map fun _ => true) hc (EL.rd (EL.to (el_lcR (k := 30) (j := 7) ⟨hc, ndLaw, blkOk_by (N := nLaw) (sc := defScope sLaw) (by decide +kernel), by decide, rfl, rfl, by intro _; rfl⟩ (gl_of glLaw 6) T.range (fun _ => true) (fun _ => .bool true) ed_int (by decide) (fun x hx s H C cl fp => rfl) (fun x hx _ s H C cl fp => (ed_call cRefused (hr.mono (by decide)) gl_b takesN0 (ea_d (ed_call (d := .str (oddOf x)) cOdd (hr.mono (by decide)) gl_b takesN0 (ea_d (ed_b 7) ea_nil) rfl ⟨x, rfl, hx, rfl⟩) ea_nil) rfl ⟨_, rfl, (odd_ok hx).2.1, by rw [(odd_ok hx).1]; rfl⟩))) (by rw [lc_all, List.map_map]; rfl))) (gl_of glLaw 5) T.all) rfl)
  refine sds_nil ?_
  have way3 : way ≠ 3 := of_decide_eq_false hb
  -- the text, turned or not
  have rest : ∀ (t : Str) (s5 s6 : Sl), TOk t → (t = noteT c ∨ 0 < way) → SDs (cxOf (L2N.CX P w) P w K mg base nLaw "law" (defScope sLaw) f cdv A outer s H E) (fun c d _ H' => E c d H') ((defBody sLaw).drop 7) [.bo (ns.map .int), .sh (qC c), .sh (.int way), .sh (.int ch), .sh (.str t), s5, s6, .un] (deOf (.val (.bool true))) := fun t s5 s6 ok hw => by
    obtain ⟨cok, csh⟩ := takeC_ok ok
    have iff := read_iff ok cok.2.2.1 csh
    refine sds_cons (sd_set (i := 6) (d := qC (takeC t)) ndLaw rfl (loc_of loLaw 6) (.inl rfl) (ed_call cTakenFor (hr.mono (by decide)) (gl_of glLaw 9) tk (ea_d (ed_v loLaw 4) ea_nil) rfl ⟨t, rfl, ok, rfl⟩) ?_)
    refine sds_cons (sd_if (et_w (ew_or (l := !decide (noteT (takeC t) = t)) (et_not (et_val (ed_call (d := .bool (goodC (takeC t))) cGood (hr.mono (by decide)) (gl_of glLaw 10) tk (ea_d (ed_v loLaw 6) ea_nil) rfl ⟨_, rfl, cok, rfl⟩))) (fun h => (ew_or1 (et_c cd_neS (ed_call (d := .str (noteT (takeC t))) cLWritten (hr.mono (by decide)) (gl_of glLaw 2) tk (ea_d (ed_v loLaw 6) ea_nil) rfl ⟨_, rfl, goodC_back cok.2.2.1 csh (by simpa using h), rfl⟩) (ed_v loLaw 4)))))) (fun hb2 => ?_) (fun hb2 => ?_))
    · have hn : readF t = none := by
        rw [iff, if_neg]
        rw [Bool.or_eq_true, Bool.not_eq_true', Bool.not_eq_true'] at hb2
        rw [Bool.and_eq_true]
        rintro ⟨h1, h2⟩
        rcases hb2 with q | q
        · rw [h1] at q; cases q
        · rw [h2] at q; cases q
      have hway2 : 0 < way := by
        rcases hw with rfl | q
        · rw [readF_back good.w] at hn; cases hn
        · exact q
      refine sds_one (sd_ret (ed_and (ed_c cd_gt (ed_v loLaw 2) ed_int) (fun _ => (ed_one (ed_call (d := .bool true) cRefused (hr.mono (by decide)) (gl_of glLaw 4) tk (ea_d (ed_v loLaw 4) ea_nil) rfl ⟨t, rfl, ok, by rw [hn]; rfl⟩)))) ?_)
      show PyData.bool (decide (0 < way) && true) = .bool true
      rw [decide_eq_true hway2]; rfl
    · refine sds_nil ?_
      have hs : readF t = some (takeC t) := by
        rw [iff, if_pos]
        rw [Bool.or_eq_false_iff, Bool.not_eq_false', Bool.not_eq_false'] at hb2
        rw [hb2.1, hb2.2]; rfl
      exact sds_one (sd_ret (ed_call cChangeLike (hr.mono (by decide)) (gl_of glLaw 11) tk (ea_d (ed_callM (d := qC (takeC t)) cRead (hr.mono (by decide)) (gl_of glLaw 12) (ea_d (ed_v loLaw 4) ea_nil) rfl ⟨t, rfl, ok, by rw [hs]; rfl⟩) (ea_d (ed_v loLaw 6) ea_nil)) rfl ⟨_, rfl, cok, rfl⟩) rfl)
  refine sds_cons (sd_if (et_c cd_eqI (ed_v loLaw 2) ed_int) (fun hb2 => ?_) (fun hb2 => ?_))
  · have hw1 := of_decide_eq_true hb2
    refine sds_one (sd_set (i := 4) (d := .str (turnT (noteT c) ch)) ndLaw rfl (loc_of loLaw 4) (.inl rfl) (ed_call cTurnedText (hr.mono (by decide)) (gl_of glLaw 7) tk (ea_d (ed_v loLaw 4) (ea_d (ed_v loLaw 3) ea_nil)) rfl ⟨_, _, rfl, lt, rfl⟩) ?_)
    refine sds_cons (sd_if (k := false) (ET.to (et_c cd_eqI (ed_v loLaw 2) ed_int) (by rw [hw1]; rfl)) (fun h => by cases h) (fun _ => sds_nil ?_))
    exact rest _ _ _ (turnT_ok st ch) (.inr (by omega))
  · refine sds_nil ?_
    refine sds_cons (sd_if (et_c cd_eqI (ed_v loLaw 2) ed_int) (fun hb3 => ?_) (fun hb3 => ?_))
    · have hw2 := of_decide_eq_true hb3
      refine sds_one (sd_set (i := 4) (d := .str (Str.join "\n" (rowsU (noteT c) ch))) ndLaw rfl (loc_of loLaw 4) (.inl rfl) (ed_call cRowsTurned (hr.mono (by decide)) (gl_of glLaw 8) tk (ea_d (ed_v loLaw 4) (ea_d (ed_v loLaw 3) ea_nil)) rfl ⟨_, _, rfl, st, rfl⟩) ?_)
      exact rest _ _ _ (rowsU_ok st ch) (.inr (by omega))
    · exact sds_nil (rest _ _ _ st.ok (.inl rfl))
end
end K3
namespace K3
open PySem
theorem exm2 {K : PySem.W.Frag} {D C1 C2 : Addr} {a b : Bool} (h1 : PySem.W.exmOne K (.ref D) (.ref C1) = some a) (h2 : PySem.W.exmOne K (.ref D) (.ref C2) = some b) (hab : (a || (b || false)) = true := by rfl) : PySem.W.exmAny K (.ref D) [.ref C1, .ref C2] = some true := by
  unfold PySem.W.exmAny
  rw [h1]
  unfold PySem.W.exmAny
  rw [h2]
  unfold PySem.W.exmAny
  dsimp only
  rw [hab]
end K3

set_option maxHeartbeats 4000000
namespace K3
open PySem L2 PD PyProof.Rows LW
section
variable {P : Program} {w : World} {K : PySem.W.Frag} {h : Heap} {mg : Str → Option Value}
structure BuiltK (K : PySem.W.Frag) : Prop where
  b_len : FreeK K "len"
  b_str : FreeK K "str"
  b_min : FreeK K "min"
  b_range : FreeK K "range"
  b_sorted : FreeK K "sorted"
  b_list : FreeK K "list"
  b_all : FreeK K "all"
  b_zip : FreeK K "zip"
  b_enumerate : FreeK K "enumerate"
  b_isinstance : FreeK K "isinstance"
  b_tuple : FreeK K "tuple"
  b_int : FreeK K "int"
  b_bool : FreeK K "bool"
  b_set : FreeK K "set"
  b_ValueError : FreeK K "ValueError"
structure ConstK (K : PySem.W.Frag) : Prop where
  name : ∃ t : Tok, PySem.W.nsIn K mainGlobals "LONGEST_NAME" = some (some (.int 12 t))
  line : ∃ t : Tok, PySem.W.nsIn K mainGlobals "LONGEST_LINE" = some (some (.int 200 t))
  deeds : ∃ t : Tok, PySem.W.nsIn K mainGlobals "MOST_DEEDS" = some (some (.int 20 t))
  most : ∃ t : Tok, PySem.W.nsIn K mainGlobals "MOST_FIGURES" = some (some (.int 9 t))
  signs : ∃ t : Tok, PySem.W.nsIn K mainGlobals "NAME_SIGNS" = some (some (.str sgn t))
  figs : ∃ t : Tok, PySem.W.nsIn K mainGlobals "FIGURES" = some (some (.str LW.figs t))
  top : ∃ t : Tok, PySem.W.nsIn K mainGlobals "TOP" = some (some (.str "-" t))
def WordsK (K : PySem.W.Frag) : Prop := ∃ (t : Addr) (od : Option Addr) (n : Nat) (sl : Array (Option Value)) (t0 t1 t2 : Tok), PySem.W.nsIn K mainGlobals "WORDS" = some (some (.ref t)) ∧ K.lookup t = some ⟨.type "tuple", od, .seq #[.str "add" t0, .str "cut" t1, .str "set" t2] n, sl⟩
theorem wordsK_mk {t : Addr} {od : Option Addr} {n : Nat} {sl : Array (Option Value)} {t0 t1 t2 : Tok} (a : PySem.W.nsIn K mainGlobals "WORDS" = some (some (.ref t))) (b : K.lookup t = some ⟨.type "tuple", od, .seq #[.str "add" t0, .str "cut" t1, .str "set" t2] n, sl⟩) : WordsK K := ⟨t, od, n, sl, t0, t1, t2, a, b⟩
theorem mk_name {t : Tok} (a : PySem.W.nsIn K mainGlobals "LONGEST_NAME" = some (some (.int 12 t))) : ∃ t : Tok, PySem.W.nsIn K mainGlobals "LONGEST_NAME" = some (some (.int 12 t)) := ⟨t, a⟩
theorem mk_line {t : Tok} (a : PySem.W.nsIn K mainGlobals "LONGEST_LINE" = some (some (.int 200 t))) : ∃ t : Tok, PySem.W.nsIn K mainGlobals "LONGEST_LINE" = some (some (.int 200 t)) := ⟨t, a⟩
theorem mk_deeds {t : Tok} (a : PySem.W.nsIn K mainGlobals "MOST_DEEDS" = some (some (.int 20 t))) : ∃ t : Tok, PySem.W.nsIn K mainGlobals "MOST_DEEDS" = some (some (.int 20 t)) := ⟨t, a⟩
theorem mk_most {t : Tok} (a : PySem.W.nsIn K mainGlobals "MOST_FIGURES" = some (some (.int 9 t))) : ∃ t : Tok, PySem.W.nsIn K mainGlobals "MOST_FIGURES" = some (some (.int 9 t)) := ⟨t, a⟩
theorem mk_signs {t : Tok} (a : PySem.W.nsIn K mainGlobals "NAME_SIGNS" = some (some (.str sgn t))) : ∃ t : Tok, PySem.W.nsIn K mainGlobals "NAME_SIGNS" = some (some (.str sgn t)) := ⟨t, a⟩
theorem mk_figs {t : Tok} (a : PySem.W.nsIn K mainGlobals "FIGURES" = some (some (.str LW.figs t))) : ∃ t : Tok, PySem.W.nsIn K mainGlobals "FIGURES" = some (some (.str LW.figs t)) := ⟨t, a⟩
theorem mk_top {t : Tok} (a : PySem.W.nsIn K mainGlobals "TOP" = some (some (.str "-" t))) : ∃ t : Tok, PySem.W.nsIn K mainGlobals "TOP" = some (some (.str "-" t)) := ⟨t, a⟩
structure DefsK (K : PySem.W.Frag) : Prop where
  dIsName : DefK K "is_name" sIsName
  dIsLine : DefK K "is_line" sIsLine
  dCheckNames : DefK K "check_names" sCheckNames
  dCheckDeed : DefK K "check_deed" sCheckDeed
  dCheckDeeds : DefK K "check_deeds" sCheckDeeds
  dCheckMarks : DefK K "check_marks" sCheckMarks
  dCheck : DefK K "check" sCheck
  dIsNumber : DefK K "is_number" sIsNumber
  dReadMark : DefK K "read_mark" sReadMark
  dReadHead : DefK K "read_head" sReadHead
  dReadDeed : DefK K "read_deed" sReadDeed
  dCell : DefK K "_law_cell" sCell
  dMixed : DefK K "_law_mixed" sMixed
  dName : DefK K "_law_name" sName
  dLine : DefK K "_law_line" sLine
  dLeans : DefK K "_law_leans" sLeans
  dMarks : DefK K "_law_marks" sMarks
  dDeeds : DefK K "_law_deeds" sDeeds
  dChanges : DefK K "_law_changes" sChanges
  dNumbered : DefK K "_law_numbered" sNumbered
  dOne : DefK K "_law_one" sOne
  dMarkRow : DefK K "_law_mark_row" sMarkRow
  dDeedRow : DefK K "_law_deed_row" sDeedRow
  dDeedLike : DefK K "_law_deed_like" sDeedLike
  dChangeLike : DefK K "_law_change_like" sChangeLike
  dOdd : DefK K "_law_odd" sOdd
  dTurnedText : DefK K "_law_turned_text" sTurnedText
  dRowsTurned : DefK K "_law_rows_turned" sRowsTurned
  dGoodDeed : DefK K "_law_good_deed" sGoodDeed
  dGood : DefK K "_law_good" sGood
  dNumber : DefK K "_law_number" sNumber
  dTakenFor : DefK K "_law_taken_for" sTakenFor
  dLWritten : DefK K "_law_written" sLWritten
  dRead : DefK K "read" sRead
  dAlone : DefK K "_law_alone" sAlone
  dRefused : DefK K "_law_refused" sRefused
theorem all_mk {fa C1 C2 C3 C4 C5 C6 C7 C8 C9 : Addr} (X : K.In h) (G : h.Ns mainGlobals mg) (hfa : mg "law" = some (.ref fa)) (N : NineK K C1 C2 C3 C4 C5 C6 C7 C8 C9) (E1 : ErrK K C1 C1 C2 C3 C4 C5 C6 C7 C8 C9 true false false false false false false false) (E2 : ErrK K C2 C1 C2 C3 C4 C5 C6 C7 C8 C9 false true false false false false false false) (E8 : ErrK K C8 C1 C2 C3 C4 C5 C6 C7 C8 C9 false false false false false false false true) (B : BuiltK K) (Cs : ConstK K) (W : WordsK K) (D : DefsK K) (L : DefK K "law" sLaw) :
    ∃ fd : FuncData, (∀ (s : Shared) (u : Value), BindsTo s fd ⟨[u], []⟩ [("_law_script", u)]) ∧ ∀ base : Heap, K.In base → base.Ns mainGlobals mg → FnOk P w K mg base (L2N.CX P w) 7 fa fd ["_law_script"] (spD K 1 rLaw) := by
  obtain ⟨fl, oc, od, kV, doc, pm, an, cdv, ct, osl, la, ll, lc, lk⟩ := L
  have e := hfa.symm.trans (PySem.W.mg_of X G la)
  cases e
  have FL := fun_mk (st := sLaw) ll lc lk
  refine ⟨PySem.W.fnOf "law" "law" (defArgs sLaw) (defBody sLaw) (defScope sLaw) .none kV doc pm an cdv ct, fun s u => .of_eq rfl, fun base _ _ => ?_⟩
  have b_len := PySem.W.mg_none_of X G B.b_len
  have b_str := PySem.W.mg_none_of X G B.b_str
  have b_min := PySem.W.mg_none_of X G B.b_min
  have b_range := PySem.W.mg_none_of X G B.b_range
  have b_sorted := PySem.W.mg_none_of X G B.b_sorted
  have b_list := PySem.W.mg_none_of X G B.b_list
  have b_all := PySem.W.mg_none_of X G B.b_all
  have b_zip := PySem.W.mg_none_of X G B.b_zip
  have b_enumerate := PySem.W.mg_none_of X G B.b_enumerate
  have b_isinstance := PySem.W.mg_none_of X G B.b_isinstance
  have b_tuple := PySem.W.mg_none_of X G B.b_tuple
  have b_int := PySem.W.mg_none_of X G B.b_int
  have b_bool := PySem.W.mg_none_of X G B.b_bool
  have b_set := PySem.W.mg_none_of X G B.b_set
  have b_ValueError := PySem.W.mg_none_of X G B.b_ValueError
  have i_name := int_of X G Cs.name
  have i_line := int_of X G Cs.line
  have i_deeds := int_of X G Cs.deeds
  have i_most := int_of X G Cs.most
  have s_signs := str_of X G Cs.signs
  have s_figs := str_of X G Cs.figs
  have s_top := str_of X G Cs.top
  obtain ⟨wt, wod, wn, wsl, u1, u2, u3, q5, q6⟩ := W
  have w_words : ∃ t, mg "WORDS" = some (.ref t) ∧ ∀ H, SqT K H t [.str "add", .str "cut", .str "set"] := ⟨wt, PySem.W.mg_of X G q5, sqT3 q6⟩
  have e_C1 := er_of X G N.c1 E1
  have e_C2 := er_of X G N.c2 E2
  have e_C8 := er_of X G N.c8 E8
  have T : Tx K mg C1 C2 := ⟨b_len, b_str, b_min, b_range, b_sorted, b_list, b_all, b_zip, s_signs, i_name, i_line, i_deeds, w_words, e_C1, e_C2⟩
  have TN : TxN K mg C8 := ⟨b_len, b_all, b_int, s_figs, i_most, s_top, e_C8⟩
  have TB : Blt mg := ⟨b_len, b_str, b_min, b_range, b_sorted, b_list, b_enumerate⟩
  have TK : TxK mg := ⟨b_isinstance, b_tuple, b_len, b_str, b_int, b_bool, b_list, b_all, b_zip⟩
  have TL : TxL mg := ⟨b_len, b_all, b_int, b_sorted, b_set, b_min, b_range⟩
  have XK : ExK K mg C1 C2 C8 := ⟨e_C1.g, e_C2.g, exm2 (exm_of N.c1 E1.hs E1.s1) (exm_of N.c2 E2.hs E1.s2), exm2 (exm_of N.c1 E1.hs E2.s1) (exm_of N.c2 E2.hs E2.s2)⟩
  have KX : KitX K mg C8 := ⟨⟨_, _, _, _, _, _, _, _, kit8_of X G N E8 b_ValueError b_isinstance b_len rfl⟩, exm_of N.c8 E8.hs E8.s8⟩
  have cIsName : Cal P w K mg base 1 "is_name" 1 rIsName := cal_of X G ["text"] D.dIsName (b1 fun _ _ _ _ _ _ _ => rfl) fun f fd F => okIsName F T
  have cIsLine : Cal P w K mg base 1 "is_line" 1 rIsLine := cal_of X G ["text"] D.dIsLine (b1 fun _ _ _ _ _ _ _ => rfl) fun f fd F => okIsLine F T
  have cCheckNames : Cal P w K mg base 2 "check_names" 2 (rCheckNames C1) := cal_of X G ["name", "leans"] D.dCheckNames (b2 fun _ _ _ _ _ _ _ _ => rfl) fun f fd F => okCheckNames F T cIsName
  have cCheckDeed : Cal P w K mg base 2 "check_deed" 1 (rCheckDeed C1) := cal_of X G ["deed"] D.dCheckDeed (b1 fun _ _ _ _ _ _ _ => rfl) fun f fd F => okCheckDeed F T cIsLine
  have cCheckDeeds : Cal P w K mg base 3 "check_deeds" 1 (rCheckDeeds C1) := cal_of X G ["deeds"] D.dCheckDeeds (b1 fun _ _ _ _ _ _ _ => rfl) fun f fd F => okCheckDeeds F T cCheckDeed
  have cCheckMarks : Cal P w K mg base 1 "check_marks" 3 (rCheckMarks C2) := cal_of X G ["name", "leans", "deeds"] D.dCheckMarks (b3 fun _ _ _ _ _ _ _ _ _ => rfl) fun f fd F => okCheckMarks F T
  have cCheck : Cal P w K mg base 4 "check" 1 (rCheck C1 C2) := cal_of X G ["change"] D.dCheck (b1 fun _ _ _ _ _ _ _ => rfl) fun f fd F => okCheck F cCheckNames cCheckDeeds cCheckMarks
  have cIsNumber : Cal P w K mg base 1 "is_number" 1 rIsNumber := cal_of X G ["text"] D.dIsNumber (b1 fun _ _ _ _ _ _ _ => rfl) fun f fd F => okIsNumber F TN
  have cReadMark : Cal P w K mg base 2 "read_mark" 1 (rReadMark C8) := cal_of X G ["text"] D.dReadMark (b1 fun _ _ _ _ _ _ _ => rfl) fun f fd F => okReadMark F TN cIsNumber
  have cReadHead : Cal P w K mg base 1 "read_head" 1 (rReadHead K C8) := cal_of X G ["row"] D.dReadHead (b1 fun _ _ _ _ _ _ _ => rfl) fun f fd F => okReadHead F TN
  have cReadDeed : Cal P w K mg base 3 "read_deed" 1 (rReadDeed C8) := cal_of X G ["row"] D.dReadDeed (b1 fun _ _ _ _ _ _ _ => rfl) fun f fd F => okReadDeed F TN cReadMark
  have cCell : Cal P w K mg base 1 "_law_cell" 2 rCell := cal_of X G ["_law_script", "_law_k"] D.dCell (b2 fun _ _ _ _ _ _ _ _ => rfl) fun f fd F => okCell F TB
  have cMixed : Cal P w K mg base 1 "_law_mixed" 2 rMixed := cal_of X G ["_law_cell_here", "_law_k"] D.dMixed (b2 fun _ _ _ _ _ _ _ _ => rfl) fun f fd F => okMixed F
  have cName : Cal P w K mg base 2 "_law_name" 2 rName := cal_of X G ["_law_cell_here", "_law_taken"] D.dName (b2 fun _ _ _ _ _ _ _ _ => rfl) fun f fd F => okName F TB cMixed
  have cLine : Cal P w K mg base 1 "_law_line" 1 rLine := cal_of X G ["_law_cell_here"] D.dLine (b1 fun _ _ _ _ _ _ _ => rfl) fun f fd F => okLine F TB
  have cLeans : Cal P w K mg base 2 "_law_leans" 2 rLeans := cal_of X G ["_law_cell_here", "_law_ahead"] D.dLeans (b2 fun _ _ _ _ _ _ _ _ => rfl) fun f fd F => okLeans F TB cMixed
  have cMarks : Cal P w K mg base 1 "_law_marks" 1 rMarks := cal_of X G ["_law_change"] D.dMarks (b1 fun _ _ _ _ _ _ _ => rfl) fun f fd F => okMarks F TB
  have cDeeds : Cal P w K mg base 2 "_law_deeds" 4 rDeeds := cal_of X G ["_law_name_here", "_law_cell_here", "_law_many", "_law_marks_here"] D.dDeeds (b4 fun _ _ _ _ _ _ _ _ _ _ => rfl) fun f fd F => okDeeds F TB cMixed cLine
  have cChanges : Cal P w K mg base 3 "_law_changes" 2 rChanges := cal_of X G ["_law_cells", "_law_most"] D.dChanges (b2 fun _ _ _ _ _ _ _ _ => rfl) fun f fd F => okChanges F TB cName cLeans cMarks cDeeds
  have cNumbered : Cal P w K mg base 2 "_law_numbered" 2 rNumbered := cal_of X G ["_law_change", "_law_cell_here"] D.dNumbered (b2 fun _ _ _ _ _ _ _ _ => rfl) fun f fd F => okNumbered F TB cMixed
  have cOne : Cal P w K mg base 4 "_law_one" 2 rOne := cal_of X G ["_law_script", "_law_most"] D.dOne (b2 fun _ _ _ _ _ _ _ _ => rfl) fun f fd F => okOne F TB cChanges cCell cNumbered
  have cMarkRow : Cal P w K mg base 1 "_law_mark_row" 1 rMarkRow := cal_of X G ["_law_mark"] D.dMarkRow (b1 fun _ _ _ _ _ _ _ => rfl) fun f fd F => okMarkRow F TB
  have cDeedRow : Cal P w K mg base 2 "_law_deed_row" 1 rDeedRow := cal_of X G ["_law_deed"] D.dDeedRow (b1 fun _ _ _ _ _ _ _ => rfl) fun f fd F => okDeedRow F cMarkRow
  have cDeedLike : Cal P w K mg base 1 "_law_deed_like" 2 rDeedLike := cal_of X G ["_law_found", "_law_due"] D.dDeedLike (b2 fun _ _ _ _ _ _ _ _ => rfl) fun f fd F => okDeedLike F TK
  have cChangeLike : Cal P w K mg base 2 "_law_change_like" 2 rChangeLike := cal_of X G ["_law_found", "_law_due"] D.dChangeLike (b2 fun _ _ _ _ _ _ _ _ => rfl) fun f fd F => okChangeLike F TK cDeedLike
  have cOdd : Cal P w K mg base 1 "_law_odd" 1 rOdd := cal_of X G ["_law_way"] D.dOdd (b1 fun _ _ _ _ _ _ _ => rfl) fun f fd F => okOdd F
  have cTurnedText : Cal P w K mg base 1 "_law_turned_text" 2 rTurnedText := cal_of X G ["_law_text", "_law_cell_here"] D.dTurnedText (b2 fun _ _ _ _ _ _ _ _ => rfl) fun f fd F => okTurnedText F TL
  have cRowsTurned : Cal P w K mg base 1 "_law_rows_turned" 2 rRowsTurned := cal_of X G ["_law_text", "_law_cell_here"] D.dRowsTurned (b2 fun _ _ _ _ _ _ _ _ => rfl) fun f fd F => okRowsTurned F TL
  have cGoodDeed : Cal P w K mg base 1 "_law_good_deed" 2 rGoodDeed := cal_of X G ["_law_deed", "_law_names"] D.dGoodDeed (b2 fun _ _ _ _ _ _ _ _ => rfl) fun f fd F => okGoodDeed F TL
  have cGood : Cal P w K mg base 2 "_law_good" 1 rGood := cal_of X G ["_law_change"] D.dGood (b1 fun _ _ _ _ _ _ _ => rfl) fun f fd F => okGood F TL cGoodDeed
  have cNumber : Cal P w K mg base 1 "_law_number" 1 rNumber := cal_of X G ["_law_word"] D.dNumber (b1 fun _ _ _ _ _ _ _ => rfl) fun f fd F => okNumber F TL
  have cTakenFor : Cal P w K mg base 2 "_law_taken_for" 1 rTakenFor := cal_of X G ["_law_text"] D.dTakenFor (b1 fun _ _ _ _ _ _ _ => rfl) fun f fd F => okTakenFor F TL cNumber
  have cLWritten : Cal P w K mg base 3 "_law_written" 1 rLWrittenW := cal_of X G ["_law_change"] D.dLWritten (b1 fun _ _ _ _ _ _ _ => rfl) fun f fd F => okLWrittenW F cDeedRow
  have cRead : CalM P w K mg base 5 "read" 1 (rRead C8) := calM_of X G ["text"] D.dRead (b1 fun _ _ _ _ _ _ _ => rfl) fun f fd F => okRead F TN XK cReadHead cReadDeed cCheck
  have AL : Alo2 P w K mg base := by
    obtain ⟨f2, oc2, od2, kV2, doc2, pm2, an2, cdv2, ct2, osl2, a2, l2, c2, kk2⟩ := D.dAlone
    have F2 := fun_mk (st := sAlone) l2 c2 kk2
    exact ⟨f2, _, okAlone F2, PySem.W.mg_of X G a2, kk2, F2.binds (b1 fun _ _ _ _ _ _ _ => rfl)⟩
  have cRefused : Cal P w K mg base 6 "_law_refused" 1 rRefused := cal_of X G ["_law_text"] D.dRefused (b1 fun _ _ _ _ _ _ _ => rfl) fun f fd F => okRefused F TN KX cRead AL
  exact okLaw FL TL cOne cCell cLWritten cRefused cTurnedText cRowsTurned cTakenFor cGood cChangeLike cRead cOdd
/-- the law row's walk -/
theorem walk_law {l : PySem.W.OpenLaw} {q : Program} {loose : List Str} {XP : (Str → Option Value) → Heap → Prop} {YP : World → Heap → Prop} {d : DefRec} {K : Params → PySem.W.Frag} (hn : l.most = some 63) (hdf : d.params.defaults = [])
    (hY : ∀ (w : World) (h : Heap), YP w h → (K w.params).In h)
    (F : ∀ (w : World) (mg : Str → Option Value) (fa : Addr) (h : Heap), (K w.params).In h → h.Ns mainGlobals mg → mg d.name = some (.ref fa) →
      ∃ fd : FuncData, (∀ (s : Shared) (u : Value), BindsTo s fd ⟨[u], []⟩ [("_law_script", u)]) ∧ ∀ base : Heap, (K w.params).In base → base.Ns mainGlobals mg → FnOk l.prog w (K w.params) mg base (L2N.CX l.prog w) 7 fa fd ["_law_script"] (spD (K w.params) 1 rLaw)) :
    PySem.W.WalkO q loose XP YP l.row.toRowW d [] (fun f vs => PySem.call f vs) :=
  L2.walk_of (n := 63) (k := 7) (x := "_law_script") (CX := fun w => L2N.CX l.prog w) (sp := fun w => spD (K w.params) 1 rLaw) hn (by decide) hdf ⟨rfl, by decide, by decide⟩ hY F
    (fun w H a ns hlen _ hS => ⟨H, [.bo (ns.map .int)], .val (.bool true), Ex.refl H, .cons ⟨a, ns.map V.int, rfl, hS, IsAll.ints ns⟩ .nil, rfl, ⟨ns, rfl, hlen, rfl⟩, fun v F' H' _ i => i.bl_eq⟩) fun w H s e s' z => by
      obtain ⟨a, B, H', cls, d, _, _, _, _, _, _, _, hE⟩ := z
      exact hE
end
end K3

set_option maxHeartbeats 0
open PySem PySem.W PyProof.Rows
theorem PySem.Challenge.cw_patchweave_k03_texts_read_holds : PySem.Challenge.rw_patchweave_k03_texts_read.Holds := by
  w_on; o_law; k_head; (case hw => w_witness2)
  k_fill
  refine K3.walk_law (l := PySem.Challenge.rw_patchweave_k03_texts_read) rfl rfl (fun w h Y => PySem.W.kIn_of Y) ?F
  case F =>
    intro w mg fa h KX G hmg
    refine' K3.all_mk KX G hmg ?nine ?er1 ?er2 ?er8 ?blt ?cst ?wrd ?dfs ?lw
    case nine =>
      refine' PD.NineK.mk ?c1 ?c2 ?c3 ?c4 ?c5 ?c6 ?c7 ?c8 ?c9
      case c1 =>
        refine' PD.ClsK.mk ?c1a ?c1i ?c1t
        (case c1a => k_is); (case c1i => k_is); (case c1t => k_is)
      case c2 =>
        refine' PD.ClsK.mk ?c2a ?c2i ?c2t
        (case c2a => k_is); (case c2i => k_is); (case c2t => k_is)
      case c3 =>
        refine' PD.ClsK.mk ?c3a ?c3i ?c3t
        (case c3a => k_is); (case c3i => k_is); (case c3t => k_is)
      case c4 =>
        refine' PD.ClsK.mk ?c4a ?c4i ?c4t
        (case c4a => k_is); (case c4i => k_is); (case c4t => k_is)
      case c5 =>
        refine' PD.ClsK.mk ?c5a ?c5i ?c5t
        (case c5a => k_is); (case c5i => k_is); (case c5t => k_is)
      case c6 =>
        refine' PD.ClsK.mk ?c6a ?c6i ?c6t
        (case c6a => k_is); (case c6i => k_is); (case c6t => k_is)
      case c7 =>
        refine' PD.ClsK.mk ?c7a ?c7i ?c7t
        (case c7a => k_is); (case c7i => k_is); (case c7t => k_is)
      case c8 =>
        refine' PD.ClsK.mk ?c8a ?c8i ?c8t
        (case c8a => k_is); (case c8i => k_is); (case c8t => k_is)
      case c9 =>
        refine' PD.ClsK.mk ?c9a ?c9i ?c9t
        (case c9a => k_is); (case c9i => k_is); (case c9t => k_is)
    case er1 =>
      refine' PD.ErrK.mk ?e1s1 ?e1s2 ?e1s3 ?e1s4 ?e1s5 ?e1s6 ?e1s7 ?e1s8 ?e1s9 ?e1n1 ?e1n2 ?e1n3 ?e1n4 ?e1n5 ?e1n6 ?e1n7 ?e1n8 ?e1sv ?e1q ?e1k ?e1hs ?e1hg ?e1hk ?e1hd ?e1ha ?e1hn ?e1ht ?e1hm
      case e1s1 => (first | rfl | k_is)
      case e1s2 => (k_is)
      case e1s3 => (k_is)
      case e1s4 => (k_is)
      case e1s5 => (k_is)
      case e1s6 => (k_is)
      case e1s7 => (k_is)
      case e1s8 => (k_is)
      case e1s9 => (k_is)
      case e1n1 => (intro _; rfl)
      case e1n2 => (decide)
      case e1n3 => (decide)
      case e1n4 => (decide)
      case e1n5 => (decide)
      case e1n6 => (decide)
      case e1n7 => (decide)
      case e1n8 => (decide)
      case e1sv => (k_is)
      case e1q => (k_exc)
      case e1k => (k_is)
      case e1hs => (k_is)
      case e1hg => (k_is)
      case e1hk => (k_is)
      case e1hd => (k_is)
      case e1ha => (k_is)
      case e1hn => (k_is)
      case e1ht => (k_is)
      case e1hm => (k_is)
    case er2 =>
      refine' PD.ErrK.mk ?e2s1 ?e2s2 ?e2s3 ?e2s4 ?e2s5 ?e2s6 ?e2s7 ?e2s8 ?e2s9 ?e2n1 ?e2n2 ?e2n3 ?e2n4 ?e2n5 ?e2n6 ?e2n7 ?e2n8 ?e2sv ?e2q ?e2k ?e2hs ?e2hg ?e2hk ?e2hd ?e2ha ?e2hn ?e2ht ?e2hm
      case e2s1 => (k_is)
      case e2s2 => (first | rfl | k_is)
      case e2s3 => (k_is)
      case e2s4 => (k_is)
      case e2s5 => (k_is)
      case e2s6 => (k_is)
      case e2s7 => (k_is)
      case e2s8 => (k_is)
      case e2s9 => (k_is)
      case e2n1 => (decide)
      case e2n2 => (intro _; rfl)
      case e2n3 => (decide)
      case e2n4 => (decide)
      case e2n5 => (decide)
      case e2n6 => (decide)
      case e2n7 => (decide)
      case e2n8 => (decide)
      case e2sv => (k_is)
      case e2q => (k_exc)
      case e2k => (k_is)
      case e2hs => (k_is)
      case e2hg => (k_is)
      case e2hk => (k_is)
      case e2hd => (k_is)
      case e2ha => (k_is)
      case e2hn => (k_is)
      case e2ht => (k_is)
      case e2hm => (k_is)
    case er8 =>
      refine' PD.ErrK.mk ?e8s1 ?e8s2 ?e8s3 ?e8s4 ?e8s5 ?e8s6 ?e8s7 ?e8s8 ?e8s9 ?e8n1 ?e8n2 ?e8n3 ?e8n4 ?e8n5 ?e8n6 ?e8n7 ?e8n8 ?e8sv ?e8q ?e8k ?e8hs ?e8hg ?e8hk ?e8hd ?e8ha ?e8hn ?e8ht ?e8hm
      case e8s1 => (k_is)
      case e8s2 => (k_is)
      case e8s3 => (k_is)
      case e8s4 => (k_is)
      case e8s5 => (k_is)
      case e8s6 => (k_is)
      case e8s7 => (k_is)
      case e8s8 => (first | rfl | k_is)
      case e8s9 => (k_is)
      case e8n1 => (decide)
      case e8n2 => (decide)
      case e8n3 => (decide)
      case e8n4 => (decide)
      case e8n5 => (decide)
      case e8n6 => (decide)
      case e8n7 => (decide)
      case e8n8 => (intro _; rfl)
      case e8sv => (k_is)
      case e8q => (k_exc)
      case e8k => (k_is)
      case e8hs => (k_is)
      case e8hg => (k_is)
      case e8hk => (k_is)
      case e8hd => (k_is)
      case e8ha => (k_is)
      case e8hn => (k_is)
      case e8ht => (k_is)
      case e8hm => (k_is)
    case blt =>
      refine' K3.BuiltK.mk ?f0 ?f1 ?f2 ?f3 ?f4 ?f5 ?f6 ?f7 ?f8 ?f9 ?f10 ?f11 ?f12 ?f13 ?f14
      case f0 => (unfold PD.FreeK; k_is)
      case f1 => (unfold PD.FreeK; k_is)
      case f2 => (unfold PD.FreeK; k_is)
      case f3 => (unfold PD.FreeK; k_is)
      case f4 => (unfold PD.FreeK; k_is)
      case f5 => (unfold PD.FreeK; k_is)
      case f6 => (unfold PD.FreeK; k_is)
      case f7 => (unfold PD.FreeK; k_is)
      case f8 => (unfold PD.FreeK; k_is)
      case f9 => (unfold PD.FreeK; k_is)
      case f10 => (unfold PD.FreeK; k_is)
      case f11 => (unfold PD.FreeK; k_is)
      case f12 => (unfold PD.FreeK; k_is)
      case f13 => (unfold PD.FreeK; k_is)
      case f14 => (unfold PD.FreeK; k_is)
    case cst =>
      refine' K3.ConstK.mk ?k0 ?k1 ?k2 ?k3 ?k4 ?k5 ?k6
      case k0 =>
        refine' K3.mk_name ?kk0
        (case kk0 => k_is)
      case k1 =>
        refine' K3.mk_line ?kk1
        (case kk1 => k_is)
      case k2 =>
        refine' K3.mk_deeds ?kk2
        (case kk2 => k_is)
      case k3 =>
        refine' K3.mk_most ?kk3
        (case kk3 => k_is)
      case k4 =>
        refine' K3.mk_signs ?kk4
        (case kk4 => k_is)
      case k5 =>
        refine' K3.mk_figs ?kk5
        (case kk5 => k_is)
      case k6 =>
        refine' K3.mk_top ?kk6
        (case kk6 => k_is)
    case wrd =>
      refine' K3.wordsK_mk ?wa ?wb
      (case wa => k_is); (case wb => k_is)
    case dfs =>
      refine' K3.DefsK.mk ?d0 ?d1 ?d2 ?d3 ?d4 ?d5 ?d6 ?d7 ?d8 ?d9 ?d10 ?d11 ?d12 ?d13 ?d14 ?d15 ?d16 ?d17 ?d18 ?d19 ?d20 ?d21 ?d22 ?d23 ?d24 ?d25 ?d26 ?d27 ?d28 ?d29 ?d30 ?d31 ?d32 ?d33 ?d34 ?d35
      case d0 =>
        refine' PD.defK_mk ?d0a ?d0l ?d0c ?d0k
        (case d0a => k_is); (case d0l => k_is); (case d0c => k_is); (case d0k => k_is)
      case d1 =>
        refine' PD.defK_mk ?d1a ?d1l ?d1c ?d1k
        (case d1a => k_is); (case d1l => k_is); (case d1c => k_is); (case d1k => k_is)
      case d2 =>
        refine' PD.defK_mk ?d2a ?d2l ?d2c ?d2k
        (case d2a => k_is); (case d2l => k_is); (case d2c => k_is); (case d2k => k_is)
      case d3 =>
        refine' PD.defK_mk ?d3a ?d3l ?d3c ?d3k
        (case d3a => k_is); (case d3l => k_is); (case d3c => k_is); (case d3k => k_is)
      case d4 =>
        refine' PD.defK_mk ?d4a ?d4l ?d4c ?d4k
        (case d4a => k_is); (case d4l => k_is); (case d4c => k_is); (case d4k => k_is)
      case d5 =>
        refine' PD.defK_mk ?d5a ?d5l ?d5c ?d5k
        (case d5a => k_is); (case d5l => k_is); (case d5c => k_is); (case d5k => k_is)
      case d6 =>
        refine' PD.defK_mk ?d6a ?d6l ?d6c ?d6k
        (case d6a => k_is); (case d6l => k_is); (case d6c => k_is); (case d6k => k_is)
      case d7 =>
        refine' PD.defK_mk ?d7a ?d7l ?d7c ?d7k
        (case d7a => k_is); (case d7l => k_is); (case d7c => k_is); (case d7k => k_is)
      case d8 =>
        refine' PD.defK_mk ?d8a ?d8l ?d8c ?d8k
        (case d8a => k_is); (case d8l => k_is); (case d8c => k_is); (case d8k => k_is)
      case d9 =>
        refine' PD.defK_mk ?d9a ?d9l ?d9c ?d9k
        (case d9a => k_is); (case d9l => k_is); (case d9c => k_is); (case d9k => k_is)
      case d10 =>
        refine' PD.defK_mk ?d10a ?d10l ?d10c ?d10k
        (case d10a => k_is); (case d10l => k_is); (case d10c => k_is); (case d10k => k_is)
      case d11 =>
        refine' PD.defK_mk ?d11a ?d11l ?d11c ?d11k
        (case d11a => k_is); (case d11l => k_is); (case d11c => k_is); (case d11k => k_is)
      case d12 =>
        refine' PD.defK_mk ?d12a ?d12l ?d12c ?d12k
        (case d12a => k_is); (case d12l => k_is); (case d12c => k_is); (case d12k => k_is)
      case d13 =>
        refine' PD.defK_mk ?d13a ?d13l ?d13c ?d13k
        (case d13a => k_is); (case d13l => k_is); (case d13c => k_is); (case d13k => k_is)
      case d14 =>
        refine' PD.defK_mk ?d14a ?d14l ?d14c ?d14k
        (case d14a => k_is); (case d14l => k_is); (case d14c => k_is); (case d14k => k_is)
      case d15 =>
        refine' PD.defK_mk ?d15a ?d15l ?d15c ?d15k
        (case d15a => k_is); (case d15l => k_is); (case d15c => k_is); (case d15k => k_is)
      case d16 =>
        refine' PD.defK_mk ?d16a ?d16l ?d16c ?d16k
        (case d16a => k_is); (case d16l => k_is); (case d16c => k_is); (case d16k => k_is)
      case d17 =>
        refine' PD.defK_mk ?d17a ?d17l ?d17c ?d17k
        (case d17a => k_is); (case d17l => k_is); (case d17c => k_is); (case d17k => k_is)
      case d18 =>
        refine' PD.defK_mk ?d18a ?d18l ?d18c ?d18k
        (case d18a => k_is); (case d18l => k_is); (case d18c => k_is); (case d18k => k_is)
      case d19 =>
        refine' PD.defK_mk ?d19a ?d19l ?d19c ?d19k
        (case d19a => k_is); (case d19l => k_is); (case d19c => k_is); (case d19k => k_is)
      case d20 =>
        refine' PD.defK_mk ?d20a ?d20l ?d20c ?d20k
        (case d20a => k_is); (case d20l => k_is); (case d20c => k_is); (case d20k => k_is)
      case d21 =>
        refine' PD.defK_mk ?d21a ?d21l ?d21c ?d21k
        (case d21a => k_is); (case d21l => k_is); (case d21c => k_is); (case d21k => k_is)
      case d22 =>
        refine' PD.defK_mk ?d22a ?d22l ?d22c ?d22k
        (case d22a => k_is); (case d22l => k_is); (case d22c => k_is); (case d22k => k_is)
      case d23 =>
        refine' PD.defK_mk ?d23a ?d23l ?d23c ?d23k
        (case d23a => k_is); (case d23l => k_is); (case d23c => k_is); (case d23k => k_is)
      case d24 =>
        refine' PD.defK_mk ?d24a ?d24l ?d24c ?d24k
        (case d24a => k_is); (case d24l => k_is); (case d24c => k_is); (case d24k => k_is)
      case d25 =>
        refine' PD.defK_mk ?d25a ?d25l ?d25c ?d25k
        (case d25a => k_is); (case d25l => k_is); (case d25c => k_is); (case d25k => k_is)
      case d26 =>
        refine' PD.defK_mk ?d26a ?d26l ?d26c ?d26k
        (case d26a => k_is); (case d26l => k_is); (case d26c => k_is); (case d26k => k_is)
      case d27 =>
        refine' PD.defK_mk ?d27a ?d27l ?d27c ?d27k
        (case d27a => k_is); (case d27l => k_is); (case d27c => k_is); (case d27k => k_is)
      case d28 =>
        refine' PD.defK_mk ?d28a ?d28l ?d28c ?d28k
        (case d28a => k_is); (case d28l => k_is); (case d28c => k_is); (case d28k => k_is)
      case d29 =>
        refine' PD.defK_mk ?d29a ?d29l ?d29c ?d29k
        (case d29a => k_is); (case d29l => k_is); (case d29c => k_is); (case d29k => k_is)
      case d30 =>
        refine' PD.defK_mk ?d30a ?d30l ?d30c ?d30k
        (case d30a => k_is); (case d30l => k_is); (case d30c => k_is); (case d30k => k_is)
      case d31 =>
        refine' PD.defK_mk ?d31a ?d31l ?d31c ?d31k
        (case d31a => k_is); (case d31l => k_is); (case d31c => k_is); (case d31k => k_is)
      case d32 =>
        refine' PD.defK_mk ?d32a ?d32l ?d32c ?d32k
        (case d32a => k_is); (case d32l => k_is); (case d32c => k_is); (case d32k => k_is)
      case d33 =>
        refine' PD.defK_mk ?d33a ?d33l ?d33c ?d33k
        (case d33a => k_is); (case d33l => k_is); (case d33c => k_is); (case d33k => k_is)
      case d34 =>
        refine' PD.defK_mk ?d34a ?d34l ?d34c ?d34k
        (case d34a => k_is); (case d34l => k_is); (case d34c => k_is); (case d34k => k_is)
      case d35 =>
        refine' PD.defK_mk ?d35a ?d35l ?d35c ?d35k
        (case d35a => k_is); (case d35l => k_is); (case d35c => k_is); (case d35k => k_is)
    case lw =>
      refine' PD.defK_mk ?lwa ?lwl ?lwc ?lwk
      (case lwa => k_is); (case lwl => k_is); (case lwc => k_is); (case lwk => k_is)
