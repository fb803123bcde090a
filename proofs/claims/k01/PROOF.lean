import PyProof.Rows.All
import Wide.All
import OpenK.AllK
import Wide.FinOn
import HandS.ForMost
import HandS.ForExc
import HandS.FStr
import HandS.RaiseMore
import HandS.TryMany
import HandS.HotCalls
import HandS.ExcIs
import HandS.Wide
import HandS.ExcCtx
import HandS.Star
import HandS.Hot
import PySem.Challenge.RW_patchweave_k01_changes_checked
set_option Elab.async false
set_option linter.all false
set_option maxRecDepth 100000
set_option maxHeartbeats 4000000
/-! Pure data over the layer: what an expression, a statement of a def comes to, told by plain data alone. -/
namespace PD
open PySem L2

/-! ### the strongest readings -/
def WE (X : Cx) (e : Expr) : TE := fun σ H Q => ∀ (pins : List (Addr × Obj)) (s : Shared), Inv X pins σ H s → wpAny (model X.prog X.w) X.A (eval e X.env) (EP X pins σ Q) X.xe s
def WT (X : Cx) (e : Expr) : TT := fun σ H Q => ∀ (pins : List (Addr × Obj)) (s : Shared), Inv X pins σ H s → wpAny (model X.prog X.w) X.A (isTrue e X.env (eval e X.env)) (TP X pins σ Q) X.xe s
def WW (X : Cx) (e : Expr) : TT := fun σ H Q => ∀ (whole : Sem Value) (pins : List (Addr × Obj)) (s : Shared), Inv X pins σ H s → wpAny (model X.prog X.w) X.A (isTrue e X.env whole) (TP X pins σ Q) X.xe s
def WA (X : Cx) (es : List Expr) : TA := fun σ H Q => ∀ (pos : Pos) (pins : List (Addr × Obj)) (s : Shared), Inv X pins σ H s → wpAny (model X.prog X.w) X.A (spliced (backTo pos (starEach es X.env))) (AP X pins σ Q) X.xe s
def WS (X : Cx) (st : Stmt) : TS := fun D σ H => ∀ (pins : List (Addr × Obj)) (s : Shared), Inv X pins σ H s → wpAny (model X.prog X.w) X.A (exec st X.env) (SP X pins D) X.xe s
def WSs (X : Cx) (st : List Stmt) : TS := fun D σ H => ∀ (pins : List (Addr × Obj)) (s : Shared), Inv X pins σ H s → wpAny (model X.prog X.w) X.A (execs st X.env) (SP X pins D) X.xe s
section
variable {X : Cx} {e : Expr} {es : List Expr} {st : Stmt} {sts : List Stmt} {σ : L2.St} {H : Hp} {D : Ends}
theorem pe_w : PE X e (WE X e) := ⟨fun pins s _ _ _ I h => h pins s I⟩
theorem pt_w : PT X e (WT X e) := ⟨fun pins s _ _ _ I h => h pins s I⟩
theorem pw_w : PW X e (WW X e) := ⟨fun whole pins s _ _ _ I h => h whole pins s I⟩
theorem pa_w : PA X es (WA X es) := ⟨fun pos pins s _ _ _ I h => h pos pins s I⟩
theorem ps_w : PS X st (WS X st) := ⟨fun pins s _ _ _ I h => h pins s I⟩
theorem pss_w : PSs X sts (WSs X sts) := ⟨fun pins s _ _ _ I h => h pins s I⟩
theorem w_e {t : TE} (h : PE X e t) {Q : VK} (q : t σ H Q) : WE X e σ H Q := fun pins s I => h.run pins s σ H Q I q
theorem w_t {t : TT} (h : PT X e t) {Q : Bool → Hp → Prop} (q : t σ H Q) : WT X e σ H Q := fun pins s I => h.run pins s σ H Q I q
theorem w_w {t : TT} (h : PW X e t) {Q : Bool → Hp → Prop} (q : t σ H Q) : WW X e σ H Q := fun whole pins s I => h.run whole pins s σ H Q I q
theorem w_a {t : TA} (h : PA X es t) {Q : List V → Hp → Prop} (q : t σ H Q) : WA X es σ H Q := fun pos pins s I => h.run pos pins s σ H Q I q
theorem w_s {t : TS} (h : PS X st t) (q : t D σ H) : WS X st D σ H := fun pins s I => h.run pins s σ H D I q
theorem w_ss {t : TS} (h : PSs X sts t) (q : t D σ H) : WSs X sts D σ H := fun pins s I => h.run pins s σ H D I q
theorem WE.imp {Q Q' : VK} (h : WE X e σ H Q) (k : ∀ v H', Q v H' → Q' v H') : WE X e σ H Q' := fun pins s I =>
  wpAny_mono (h pins s I) (fun _ _ ⟨v, H', I', r, q⟩ => ⟨v, H', I', r, k v H' q⟩) fun _ _ x => x
end

/-! ### heaps -/
def Ex (H H' : Hp) : Prop := ∀ a o, H a = some o → H' a = some o
theorem Ex.refl (H : Hp) : Ex H H := fun _ _ h => h
theorem Ex.trans {H H1 H2 : Hp} (a : Ex H H1) (b : Ex H1 H2) : Ex H H2 := fun x o h => b x o (a x o h)
theorem Ex.back {H H' : Hp} (e : Ex H H') {a : Addr} (h : H' a = none) : H a = none := by
  cases q : H a with
  | none => rfl
  | some o => rw [e a o q] at h; cases h
theorem Ex.new {H : Hp} {p : Addr} {o : HO} (h : H p = none) : Ex H (upd H p o) := fun a u e => by
  rw [upd_ne (ne_of_none e h)]; exact e
theorem Ex.mut {H H' : Hp} {p : Addr} {o : HO} (e : Ex H H') (h : H p = none) : Ex H (upd H' p o) := fun a u q => by
  rw [upd_ne (ne_of_none q h)]; exact e a u q
theorem Ex.rd {H H' : Hp} (e : Ex H H') {a : Addr} {u : HO} (h : Rd H a u) : Rd H' a u := by
  rcases h with h | ⟨o, h⟩
  · exact .inl (e _ _ h)
  · exact .inr ⟨o, e _ _ h⟩
theorem Ex.sql {K : PySem.W.Frag} {H H' : Hp} (e : Ex H H') {a : Addr} {xs : List V} (h : SqL K H a xs) : SqL K H' a xs := by
  rcases h with h | h
  · exact .inl (e.rd h)
  · exact .inr h
theorem Ex.sqt {K : PySem.W.Frag} {H H' : Hp} (e : Ex H H') {a : Addr} {xs : List V} (h : SqT K H a xs) : SqT K H' a xs := by
  rcases h with h | h
  · exact .inl (e.rd h)
  · exact .inr h
/-- F the part that nobody changes any more; what is new in it was nowhere ahead -/
structure Ext (F H F' H' : Hp) : Prop where
  f : Ex F F'
  h : Ex H H'
  i : Ex F' H'
  n : ∀ a, H a ≠ none → F' a = F a
theorem Ext.refl {F H : Hp} (i : Ex F H) : Ext F H F H := ⟨Ex.refl F, Ex.refl H, i, fun _ _ => rfl⟩
theorem Ex.ne {H H' : Hp} (e : Ex H H') {a : Addr} (h : H a ≠ none) : H' a ≠ none := fun z => h (e.back z)
theorem Ext.trans {F H F1 H1 F2 H2 : Hp} (a : Ext F H F1 H1) (b : Ext F1 H1 F2 H2) : Ext F H F2 H2 :=
  ⟨a.f.trans b.f, a.h.trans b.h, b.i, fun x hx => (b.n x (a.h.ne hx)).trans (a.n x hx)⟩
/-- a thing is made and told for ever -/
theorem Ext.made {F H : Hp} (i : Ex F H) {p : Addr} {o : HO} (h : H p = none) : Ext F H (upd F p o) (upd H p o) := by
  have hf : F p = none := i.back h
  refine ⟨Ex.new hf, Ex.new h, fun a u e => ?_, fun a ha => ?_⟩
  · by_cases q : a = p
    · subst q; rw [upd_same] at e ⊢; exact e
    · rw [upd_ne q] at e ⊢; exact i _ _ e
  · rw [upd_ne (fun q => ha (by rw [q]; exact h))]
/-- a thing that is made, held back -/
theorem Ext.kept {F H : Hp} (i : Ex F H) {p : Addr} {o : HO} (h : H p = none) : Ext F H F (upd H p o) :=
  ⟨Ex.refl F, Ex.new h, i.trans (Ex.new h), fun _ _ => rfl⟩
/-- what was held back is told for ever -/
theorem Ext.told {F H F' H' : Hp} (x : Ext F H F' H') {p : Addr} {o : HO} (hp : H p = none) (hf : F' p = none) (h : H' p = some o) : Ext F H (upd F' p o) H' := by
  refine ⟨x.f.trans (Ex.new hf), x.h, fun a u e => ?_, fun a ha => ?_⟩
  · by_cases q : a = p
    · subst q; rw [upd_same] at e; rw [h]; exact e
    · rw [upd_ne q] at e; exact x.i _ _ e
  · rw [upd_ne (fun q => ha (by rw [q]; exact hp))]; exact x.n a ha

/-! ### data -/
mutual
inductive Is (K : PySem.W.Frag) (F : Hp) : V → PyData → Prop
  | non : Is K F .non .none
  | bl (b : Bool) : Is K F (.bl b) (.bool b)
  | int (i : Int) : Is K F (.int i) (.int i)
  | str (x : Str) : Is K F (.str x) (.str x)
  | lst {a : Addr} {xs : List V} {ds : List PyData} : F a = some (.lst xs) → IsAll K F xs ds → Is K F (.ref a) (.list ds)
  | tup {a : Addr} {xs : List V} {ds : List PyData} : SqT K F a xs → IsAll K F xs ds → Is K F (.ref a) (.tuple ds)
inductive IsAll (K : PySem.W.Frag) (F : Hp) : List V → List PyData → Prop
  | nil : IsAll K F [] []
  | cons {v : V} {vs : List V} {d : PyData} {ds : List PyData} : Is K F v d → IsAll K F vs ds → IsAll K F (v :: vs) (d :: ds)
end
section
variable {K : PySem.W.Frag} {F F' : Hp}
mutual
theorem Is.mono (e : Ex F F') : ∀ {v : V} {d : PyData}, Is K F v d → Is K F' v d
  | _, _, .non => .non
  | _, _, .bl b => .bl b
  | _, _, .int i => .int i
  | _, _, .str x => .str x
  | _, _, .lst h a => .lst (e _ _ h) (IsAll.mono e a)
  | _, _, .tup h a => .tup (e.sqt h) (IsAll.mono e a)
theorem IsAll.mono (e : Ex F F') : ∀ {vs : List V} {ds : List PyData}, IsAll K F vs ds → IsAll K F' vs ds
  | _, _, .nil => .nil
  | _, _, .cons h a => .cons (Is.mono e h) (IsAll.mono e a)
end
mutual
theorem Is.dp : ∀ {v : V} {d : PyData}, Is K F v d → Dp K F v d
  | _, _, .non => .non
  | _, _, .bl b => .bl b
  | _, _, .int i => .int i
  | _, _, .str x => .str x
  | _, _, .lst h a => .lst (SqL.of h) (IsAll.dp a)
  | _, _, .tup h a => .tup h (IsAll.dp a)
theorem IsAll.dp : ∀ {vs : List V} {ds : List PyData}, IsAll K F vs ds → DpAll K F vs ds
  | _, _, .nil => .nil
  | _, _, .cons h a => .cons (Is.dp h) (IsAll.dp a)
end
theorem IsAll.len : ∀ {vs : List V} {ds : List PyData}, IsAll K F vs ds → vs.length = ds.length
  | _, _, .nil => rfl
  | _, _, .cons _ a => congrArg (· + 1) (IsAll.len a)
theorem IsAll.get : ∀ {vs : List V} {ds : List PyData} {i : Nat} {d : PyData}, IsAll K F vs ds → ds[i]? = some d → ∃ v, vs[i]? = some v ∧ Is K F v d
  | _, _, _, _, .nil, e => by simp at e
  | _, _, 0, _, .cons h _, e => by cases e; exact ⟨_, rfl, h⟩
  | _, _, i + 1, _, .cons _ a, e => IsAll.get (i := i) a e
theorem IsAll.get' : ∀ {vs : List V} {ds : List PyData} {i : Nat} {v : V}, IsAll K F vs ds → vs[i]? = some v → ∃ d, ds[i]? = some d ∧ Is K F v d
  | _, _, _, _, .nil, e => by simp at e
  | _, _, 0, _, .cons h _, e => by cases e; exact ⟨_, rfl, h⟩
  | _, _, i + 1, _, .cons _ a, e => IsAll.get' (i := i) a e
theorem IsAll.append : ∀ {vs ws : List V} {ds es : List PyData}, IsAll K F vs ds → IsAll K F ws es → IsAll K F (vs ++ ws) (ds ++ es)
  | _, _, _, _, .nil, b => b
  | _, _, _, _, .cons h a, b => .cons h (IsAll.append a b)
theorem IsAll.take : ∀ {vs : List V} {ds : List PyData} (n : Nat), IsAll K F vs ds → IsAll K F (vs.take n) (ds.take n)
  | _, _, 0, _ => .nil
  | _, _, _ + 1, .nil => .nil
  | _, _, n + 1, .cons h a => .cons h (IsAll.take n a)
theorem IsAll.drop : ∀ {vs : List V} {ds : List PyData} (n : Nat), IsAll K F vs ds → IsAll K F (vs.drop n) (ds.drop n)
  | _, _, 0, a => a
  | _, _, _ + 1, .nil => .nil
  | _, _, n + 1, .cons _ a => IsAll.drop n a
theorem IsAll.dropLast : ∀ {vs : List V} {ds : List PyData}, IsAll K F vs ds → IsAll K F vs.dropLast ds.dropLast
  | _, _, .nil => .nil
  | _, _, .cons _ .nil => .nil
  | _, _, .cons h (.cons h2 a) => .cons h (IsAll.dropLast (.cons h2 a))
theorem IsAll.set : ∀ {vs : List V} {ds : List PyData} {v : V} {d : PyData} (n : Nat), IsAll K F vs ds → Is K F v d → IsAll K F (vs.set n v) (ds.set n d)
  | _, _, _, _, _, .nil, _ => .nil
  | _, _, _, _, 0, .cons _ a, q => .cons q a
  | _, _, _, _, n + 1, .cons h a, q => .cons h (IsAll.set n a q)
theorem IsAll.erase : ∀ {vs : List V} {ds : List PyData} (n : Nat), IsAll K F vs ds → IsAll K F (vs.eraseIdx n) (ds.eraseIdx n)
  | _, _, _, .nil => .nil
  | _, _, 0, .cons _ a => a
  | _, _, n + 1, .cons h a => .cons h (IsAll.erase n a)
theorem IsAll.strs : ∀ (zs : List Str), IsAll K F (zs.map V.str) (zs.map PyData.str)
  | [] => .nil
  | z :: zs => .cons (.str z) (IsAll.strs zs)
theorem IsAll.ints : ∀ (zs : List Int), IsAll K F (zs.map V.int) (zs.map PyData.int)
  | [] => .nil
  | z :: zs => .cons (.int z) (IsAll.ints zs)
theorem IsAll.bools : ∀ (zs : List Bool), IsAll K F (zs.map V.bl) (zs.map PyData.bool)
  | [] => .nil
  | z :: zs => .cons (.bl z) (IsAll.bools zs)
theorem Is.str_eq {v : V} {z : Str} (h : Is K F v (.str z)) : v = .str z := by cases h; rfl
theorem Is.int_eq {v : V} {z : Int} (h : Is K F v (.int z)) : v = .int z := by cases h; rfl
theorem Is.bl_eq {v : V} {z : Bool} (h : Is K F v (.bool z)) : v = .bl z := by cases h; rfl
theorem Is.non_eq {v : V} (h : Is K F v .none) : v = .non := by cases h; rfl
theorem IsAll.strs_eq : ∀ {zs : List Str} {vs : List V}, IsAll K F vs (zs.map PyData.str) → vs = zs.map V.str
  | [], _, h => by cases h; rfl
  | z :: zs, _, h => by
    cases h with
    | cons h a => rw [h.str_eq, IsAll.strs_eq a]; rfl
theorem IsAll.ints_eq : ∀ {zs : List Int} {vs : List V}, IsAll K F vs (zs.map PyData.int) → vs = zs.map V.int
  | [], _, h => by cases h; rfl
  | z :: zs, _, h => by
    cases h with
    | cons h a => rw [h.int_eq, IsAll.ints_eq a]; rfl
theorem IsAll.bools_eq : ∀ {zs : List Bool} {vs : List V}, IsAll K F vs (zs.map PyData.bool) → vs = zs.map V.bl
  | [], _, h => by cases h; rfl
  | z :: zs, _, h => by
    cases h with
    | cons h a => rw [h.bl_eq, IsAll.bools_eq a]; rfl
end

/-! ### slots: data that nobody changes; a list that can be read; a list of one's own; a value as it is -/
inductive Sl where
  | un
  | sh (d : PyData)
  | bo (ds : List PyData)
  | ow (l : Addr) (ds : List PyData)
  | raw (v : V)
def SlOk (K : PySem.W.Frag) (B F H : Hp) : Option V → Sl → Prop
  | _, .un => True
  | some v, .sh d => Is K F v d
  | some v, .bo ds => ∃ l vs, v = .ref l ∧ SqL K B l vs ∧ IsAll K F vs ds
  | some v, .ow l ds => v = .ref l ∧ F l = none ∧ B l = none ∧ ∃ vs, H l = some (.lst vs) ∧ IsAll K F vs ds
  | some v, .raw w => v = w
  | none, _ => False
/-- the slots hold what is told of them; B: the heap at the def's entry -/
structure En (K : PySem.W.Frag) (B F H : Hp) (σ : L2.St) (ρ : List Sl) : Prop where
  i : Ex F H
  b : Ex B H
  s : ∀ (j : Nat) (s : Sl), ρ[j]? = some s → ∃ o, σ[j]? = some o ∧ SlOk K B F H o s
  d : ∀ (i j : Nat) (l : Addr) (ds es : List PyData), ρ[i]? = some (.ow l ds) → ρ[j]? = some (.ow l es) → i = j
theorem SlOk.ext {K : PySem.W.Frag} {B F H F' H' : Hp} (x : Ext F H F' H') : ∀ {o : Option V} {s : Sl}, SlOk K B F H o s → SlOk K B F' H' o s
  | _, .un, _ => trivial
  | some _, .sh _, h => Is.mono x.f h
  | some _, .bo _, ⟨l, vs, e, h, a⟩ => ⟨l, vs, e, h, a.mono x.f⟩
  | some _, .ow l _, ⟨e, hf, hb, vs, h, a⟩ => ⟨e, (x.n l (by rw [h]; exact fun q => nomatch q)).trans hf, hb, vs, x.h _ _ h, a.mono x.f⟩
  | some _, .raw _, h => h
  | none, .sh _, h => h.elim
  | none, .bo _, h => h.elim
  | none, .ow _ _, h => h.elim
  | none, .raw _, h => h.elim
theorem En.ext {K : PySem.W.Frag} {B F H F' H' : Hp} {σ : L2.St} {ρ : List Sl} (E : En K B F H σ ρ) (x : Ext F H F' H') : En K B F' H' σ ρ :=
  ⟨x.i, E.b.trans x.h, fun j s e => let ⟨o, q, h⟩ := E.s j s e; ⟨o, q, h.ext x⟩, E.d⟩
theorem set_at {α : Type} {xs : List α} {i j : Nat} {x y : α} (e : (xs.set i x)[j]? = some y) : (i = j ∧ i < xs.length ∧ y = x) ∨ (i ≠ j ∧ xs[j]? = some y) := by
  by_cases q : i = j
  · subst q
    by_cases hi : i < xs.length
    · rw [List.getElem?_set_self hi] at e
      exact .inl ⟨rfl, hi, (Option.some.inj e).symm⟩
    · rw [List.getElem?_eq_none (by rw [List.length_set]; omega)] at e
      cases e
  · rw [List.getElem?_set_ne q] at e
    exact .inr ⟨q, e⟩
theorem En.set_ {K : PySem.W.Frag} {B F H : Hp} {σ : L2.St} {ρ : List Sl} (E : En K B F H σ ρ) {i : Nat} {o : Option V} {s : Sl} (h : SlOk K B F H o s)
    (hd : ∀ (j : Nat) (l : Addr) (ds es : List PyData), s = .ow l ds → ρ[j]? = some (.ow l es) → i = j) : En K B F H (σ.set i o) (ρ.set i s) := by
  refine ⟨E.i, E.b, fun j t e => ?_, fun a b l ds es ea eb => ?_⟩
  · rcases set_at e with ⟨rfl, hi, rfl⟩ | ⟨q, e⟩
    · obtain ⟨o2, e2, _⟩ := E.s i _ (List.getElem?_eq_getElem hi)
      exact ⟨o, List.getElem?_set_self (List.getElem?_eq_some_iff.mp e2).1, h⟩
    · obtain ⟨o2, e2, h2⟩ := E.s j t e
      exact ⟨o2, by rw [List.getElem?_set_ne q]; exact e2, h2⟩
  · rcases set_at ea with ⟨rfl, _, e1⟩ | ⟨q1, ea⟩
    · rcases set_at eb with ⟨rfl, _, _⟩ | ⟨_, eb⟩
      · rfl
      · exact hd b l ds es e1.symm eb
    · rcases set_at eb with ⟨rfl, _, e1⟩ | ⟨_, eb⟩
      · exact (hd a l es ds e1.symm ea).symm
      · exact E.d a b l ds es ea eb
def Sl.free : Sl → Bool
  | .ow _ _ => false
  | _ => true
theorem En.set {K : PySem.W.Frag} {B F H : Hp} {σ : L2.St} {ρ : List Sl} (E : En K B F H σ ρ) {i : Nat} {v : V} {s : Sl} (h : SlOk K B F H (some v) s) (hs : s.free = true) : En K B F H (σ.set i (some v)) (ρ.set i s) :=
  E.set_ h fun j l ds es e => by subst e; cases hs
/-- a new list of one's own -/
theorem En.own {K : PySem.W.Frag} {B F H F' H' : Hp} {σ : L2.St} {ρ : List Sl} (E : En K B F H σ ρ) (x : Ext F H F' H') {i : Nat} {p : Addr} {vs : List V} {ds : List PyData} (hp : H p = none) (hf : F' p = none) (hh : H' p = some (.lst vs)) (a : IsAll K F' vs ds) :
    En K B F' H' (σ.set i (some (.ref p))) (ρ.set i (.ow p ds)) :=
  (E.ext x).set_ (o := some (.ref p)) ⟨rfl, hf, E.b.back hp, vs, hh, a⟩ fun j l ds' es e ej => by
    cases e
    obtain ⟨o, _, h2⟩ := E.s j _ ej
    cases o with
    | none => exact h2.elim
    | some v =>
      obtain ⟨_, _, _, vs2, h3, _⟩ := h2
      rw [hp] at h3; cases h3
/-- one's own list is changed -/
theorem En.wr {K : PySem.W.Frag} {B F H : Hp} {σ : L2.St} {ρ : List Sl} (E : En K B F H σ ρ) {i : Nat} {l : Addr} {ds es : List PyData} {ws : List V} (hi : ρ[i]? = some (.ow l ds)) (a : IsAll K F ws es) :
    En K B F (upd H l (.lst ws)) σ (ρ.set i (.ow l es)) := by
  obtain ⟨o, e1, h1⟩ := E.s i _ hi
  cases o with
  | none => exact h1.elim
  | some v =>
  obtain ⟨e0, hf, hb, vs, hh, _⟩ := h1
  refine ⟨E.i.mut hf, E.b.mut hb, fun j t e => ?_, fun x y m ds' es' ea eb => ?_⟩
  · rcases set_at e with ⟨rfl, _, rfl⟩ | ⟨q, e⟩
    · exact ⟨_, e1, e0, hf, hb, ws, upd_same, a⟩
    · obtain ⟨o2, e2, h2⟩ := E.s j t e
      refine ⟨o2, e2, ?_⟩
      cases t with
      | un => exact trivial
      | sh d => cases o2 <;> exact h2
      | bo d => cases o2 <;> exact h2
      | raw w => cases o2 <;> exact h2
      | ow m es2 =>
        cases o2 with
        | none => exact h2
        | some v2 =>
          obtain ⟨a1, a2, a3, a4, a5, a6⟩ := h2
          have ne : m ≠ l := fun z => q (E.d i j l ds es2 hi (z ▸ e))
          exact ⟨a1, a2, a3, a4, by rw [upd_ne ne]; exact a5, a6⟩
  · have back : ∀ (z : Nat) (m : Addr) (ds' : List PyData), (ρ.set i (.ow l es))[z]? = some (.ow m ds') → ∃ ds2, ρ[z]? = some (.ow m ds2) := fun z m ds' e => by
      rcases set_at e with ⟨rfl, _, e2⟩ | ⟨_, e⟩
      · cases e2; exact ⟨ds, hi⟩
      · exact ⟨ds', e⟩
    obtain ⟨d1, h1⟩ := back x m ds' ea
    obtain ⟨d2, h2⟩ := back y m es' eb
    exact E.d x y m d1 d2 h1 h2
/-- one's own list is told for ever -/
theorem En.frz {K : PySem.W.Frag} {B F H : Hp} {σ : L2.St} {ρ : List Sl} (E : En K B F H σ ρ) {i : Nat} {l : Addr} {ds : List PyData} (hi : ρ[i]? = some (.ow l ds)) :
    ∃ F', Ex F F' ∧ (∀ a, B a ≠ none → F' a = F a) ∧ En K B F' H σ (ρ.set i (.sh (.list ds))) := by
  obtain ⟨o, e1, h1⟩ := E.s i _ hi
  cases o with
  | none => exact h1.elim
  | some v =>
  obtain ⟨e0, hf, hb, vs, hh, a0⟩ := h1
  have xf : Ex F (upd F l (.lst vs)) := Ex.new hf
  refine ⟨upd F l (.lst vs), xf, fun a ha => by rw [upd_ne (fun q => ha (by rw [q]; exact hb))], fun a u e => ?_, E.b, fun j t e => ?_, fun x y m ds' es' ea eb => ?_⟩
  · by_cases q : a = l
    · subst q; rw [upd_same] at e; rw [hh]; exact e
    · rw [upd_ne q] at e; exact E.i _ _ e
  · rcases set_at e with ⟨rfl, _, rfl⟩ | ⟨q, e⟩
    · subst e0
      exact ⟨_, e1, .lst upd_same (a0.mono xf)⟩
    · obtain ⟨o2, e2, h2⟩ := E.s j t e
      refine ⟨o2, e2, ?_⟩
      cases t with
      | un => exact trivial
      | sh d =>
        cases o2 with
        | none => exact h2
        | some v2 => exact Is.mono xf h2
      | bo d =>
        cases o2 with
        | none => exact h2
        | some v2 =>
          obtain ⟨b1, b2, b3, b4, b5⟩ := h2
          exact ⟨b1, b2, b3, b4, b5.mono xf⟩
      | raw w => cases o2 <;> exact h2
      | ow m es2 =>
        cases o2 with
        | none => exact h2
        | some v2 =>
          obtain ⟨a1, a2, a3, a4, a5, a6⟩ := h2
          have ne : m ≠ l := fun z => q (E.d i j l ds es2 hi (z ▸ e))
          exact ⟨a1, by rw [upd_ne ne]; exact a2, a3, a4, a5, a6.mono xf⟩
  · have back : ∀ (z : Nat) (m : Addr) (ds' : List PyData), (ρ.set i (.sh (.list ds)))[z]? = some (.ow m ds') → ρ[z]? = some (.ow m ds') := fun z m ds' e => by
      rcases set_at e with ⟨rfl, _, e2⟩ | ⟨_, e⟩
      · cases e2
      · exact e
    exact E.d x y m ds' es' (back x m ds' ea) (back y m es' eb)
end PD

set_option maxHeartbeats 4000000
namespace PD
open PySem L2

def isNone : PyData → Bool
  | .none => true
  | _ => false
/-! ### judgements of expressions. ex C: the class C may be raised here; W: what is wanted then -/
def Xc (W : WX) (ex : Addr → Prop) (F H : Hp) (σ : L2.St) : Prop := ∀ C F' H', ex C → Ext F H F' H' → W (.ref C) none σ H'
theorem Xc.ext {W : WX} {ex : Addr → Prop} {F H F1 H1 : Hp} {σ : L2.St} (c : Xc W ex F H σ) (x : Ext F H F1 H1) : Xc W ex F1 H1 σ := fun C F' H' e y => c C F' H' e (x.trans y)
def noX : Addr → Prop := fun _ => False
theorem xc0 {W : WX} {F H : Hp} {σ : L2.St} : Xc W noX F H σ := fun _ _ _ e => e.elim
/-- a value that is data -/
def ED (X : Cx) (W : WX) (ex : Addr → Prop) (e : Expr) (ρ : List Sl) (d : PyData) : Prop := ∀ B F H σ (Q : VK), En X.K B F H σ ρ → Xc W ex F H σ → (∀ v F' H', Ext F H F' H' → Is X.K F' v d → Q v H') → WE X e σ H Q
/-- a new list -/
def EL (X : Cx) (W : WX) (ex : Addr → Prop) (e : Expr) (ρ : List Sl) (ds : List PyData) : Prop := ∀ B F H σ (Q : VK), En X.K B F H σ ρ → Xc W ex F H σ →
  (∀ p vs F' H', Ext F H F' H' → H p = none → F' p = none → H' p = some (.lst vs) → IsAll X.K F' vs ds → Q (.ref p) H') → WE X e σ H Q
/-- a list that can be read -/
def EB (X : Cx) (W : WX) (ex : Addr → Prop) (e : Expr) (ρ : List Sl) (ds : List PyData) : Prop := ∀ B F H σ (Q : VK), En X.K B F H σ ρ → Xc W ex F H σ →
  (∀ p vs F' H', Ext F H F' H' → SqL X.K H' p vs → IsAll X.K F' vs ds → Q (.ref p) H') → WE X e σ H Q
/-- .. that nobody changes -/
def EP' (X : Cx) (W : WX) (ex : Addr → Prop) (e : Expr) (ρ : List Sl) (ds : List PyData) : Prop := ∀ B F H σ (Q : VK), En X.K B F H σ ρ → Xc W ex F H σ →
  (∀ p vs F' H', Ext F H F' H' → (SqL X.K B p vs ∨ SqL X.K F' p vs) → IsAll X.K F' vs ds → Q (.ref p) H') → WE X e σ H Q
/-- a test -/
def ET (X : Cx) (W : WX) (ex : Addr → Prop) (e : Expr) (ρ : List Sl) (b : Bool) : Prop := ∀ B F H σ (Q : Bool → Hp → Prop), En X.K B F H σ ρ → Xc W ex F H σ → (∀ F' H', Ext F H F' H' → Q b H') → WT X e σ H Q
def EW (X : Cx) (W : WX) (ex : Addr → Prop) (e : Expr) (ρ : List Sl) (b : Bool) : Prop := ∀ B F H σ (Q : Bool → Hp → Prop), En X.K B F H σ ρ → Xc W ex F H σ → (∀ F' H', Ext F H F' H' → Q b H') → WW X e σ H Q
/-- arguments -/
def AgOk (K : PySem.W.Frag) (F H : Hp) (v : V) : Sl → Prop
  | .sh d => Is K F v d
  | .bo ds => ∃ l vs, v = .ref l ∧ SqL K H l vs ∧ IsAll K F vs ds
  | .raw w => v = w
  | _ => False
abbrev AgsOk (K : PySem.W.Frag) (F H : Hp) : List V → List Sl → Prop := Paired (AgOk K F H)
theorem AgOk.ext {K : PySem.W.Frag} {F H F' H' : Hp} (x : Ext F H F' H') {v : V} : ∀ {s : Sl}, AgOk K F H v s → AgOk K F' H' v s
  | .sh _, h => Is.mono x.f h
  | .bo _, ⟨l, vs, e, h, a⟩ => ⟨l, vs, e, x.h.sql h, a.mono x.f⟩
  | .raw _, h => h
  | .un, h => h.elim
  | .ow _ _, h => h.elim
def EA (X : Cx) (W : WX) (ex : Addr → Prop) (es : List Expr) (ρ : List Sl) (as : List Sl) : Prop := ∀ B F H σ (Q : List V → Hp → Prop), En X.K B F H σ ρ → Xc W ex F H σ → (∀ vs F' H', Ext F H F' H' → AgsOk X.K F' H' vs as → Q vs H') → WA X es σ H Q

section
variable {X : Cx} {W : WX} {ex : Addr → Prop} {e a b c o : Expr} {es : List Expr} {ρ : List Sl} {d x y z : PyData} {ds xs ys : List PyData} {pos p p2 apos : Pos}
theorem EL.dat (h : EL X W ex e ρ ds) : ED X W ex e ρ (.list ds) := fun B F H σ Q E c q => h B F H σ Q E c fun p vs F' H' x hp hf hh a => q _ _ H' (x.told hp hf hh) (.lst upd_same (a.mono (Ex.new hf)))
theorem EP'.rd (h : EP' X W ex e ρ ds) : EB X W ex e ρ ds := fun B F H σ Q E c q => h B F H σ Q E c fun p vs F' H' x hs a => q p vs F' H' x (by
  rcases hs with hs | hs
  · exact (E.b.trans x.h).sql hs
  · exact x.i.sql hs) a
theorem ED.pst (h : ED X W ex e ρ (.list ds)) : EP' X W ex e ρ ds := fun B F H σ Q E c q => h B F H σ Q E c fun v F' H' x i => by
  cases i with
  | lst h a => exact q _ _ F' H' x (.inr (SqL.of h)) a
theorem ED.rd (h : ED X W ex e ρ (.list ds)) : EB X W ex e ρ ds := h.pst.rd
theorem EL.pst (h : EL X W ex e ρ ds) : EP' X W ex e ρ ds := h.dat.pst
theorem EL.rd (h : EL X W ex e ρ ds) : EB X W ex e ρ ds := h.dat.pst.rd

/-! names, constants -/
theorem ed_at {i : Nat} {n : Str} (hN : X.N[i]? = some n) (hv : Vis X.env.scope n) (hs : ρ[i]? = some (.sh d)) (hd : (n == ("__debug__" : Str)) = false := by decide) (hcd : (n == ("__classdict__" : Str)) = false := by decide) : ED X W ex (.Name n pos) ρ d :=
  fun B F H σ Q E _ q => by
    obtain ⟨o, e1, h⟩ := E.s i _ hs
    cases o with
    | none => exact h.elim
    | some v => exact w_e (pe_var hN hv hd hcd) ⟨v, e1, q v F H (Ext.refl E.i) h⟩
theorem eb_bo {i : Nat} {n : Str} (hN : X.N[i]? = some n) (hv : Vis X.env.scope n) (hs : ρ[i]? = some (.bo ds)) (hd : (n == ("__debug__" : Str)) = false := by decide) (hcd : (n == ("__classdict__" : Str)) = false := by decide) : EP' X W ex (.Name n pos) ρ ds :=
  fun B F H σ Q E _ q => by
    obtain ⟨o, e1, h⟩ := E.s i _ hs
    cases o with
    | none => exact h.elim
    | some v =>
      obtain ⟨l, vs, rfl, hl, ha⟩ := h
      exact w_e (pe_var hN hv hd hcd) ⟨_, e1, q l vs F H (Ext.refl E.i) (.inl hl) ha⟩
theorem eb_ow {i : Nat} {n : Str} {l : Addr} (hN : X.N[i]? = some n) (hv : Vis X.env.scope n) (hs : ρ[i]? = some (.ow l ds)) (hd : (n == ("__debug__" : Str)) = false := by decide) (hcd : (n == ("__classdict__" : Str)) = false := by decide) : EB X W ex (.Name n pos) ρ ds :=
  fun B F H σ Q E _ q => by
    obtain ⟨o, e1, h⟩ := E.s i _ hs
    cases o with
    | none => exact h.elim
    | some v =>
      obtain ⟨rfl, hf, hb, vs, hl, ha⟩ := h
      exact w_e (pe_var hN hv hd hcd) ⟨_, e1, q l vs F H (Ext.refl E.i) (SqL.of hl) ha⟩
theorem ed_int {i : Int} {j} : ED X W ex (.Constant (.int i) j pos) ρ (.int i) := fun B F H σ Q E _ q => w_e pe_int (q _ F H (Ext.refl E.i) (.int i))
theorem ed_bl {i : Bool} {j} : ED X W ex (.Constant (.bool i) j pos) ρ (.bool i) := fun B F H σ Q E _ q => w_e pe_bl (q _ F H (Ext.refl E.i) (.bl i))
theorem ed_str {i : Str} {j} : ED X W ex (.Constant (.str i) j pos) ρ (.str i) := fun B F H σ Q E _ q => w_e pe_str (q _ F H (Ext.refl E.i) (.str i))
theorem ed_non {j} : ED X W ex (.Constant .none j pos) ρ .none := fun B F H σ Q E _ q => w_e pe_non (q _ F H (Ext.refl E.i) .non)
/-- a module's constant -/
theorem ed_gint {n : Str} {i : Int} (hg : Gl X n) (hm : ∃ t, X.mg n = some (.int i t)) (hd : (n == ("__debug__" : Str)) = false := by decide) : ED X W ex (.Name n pos) ρ (.int i) := fun B F H σ Q E _ q => by
  obtain ⟨t, hm⟩ := hm
  exact w_e (pe_glob (v := .int i) hg hm ⟨t, rfl⟩ hd) (q _ F H (Ext.refl E.i) (.int i))
theorem ed_gstr {n i : Str} (hg : Gl X n) (hm : ∃ t, X.mg n = some (.str i t)) (hd : (n == ("__debug__" : Str)) = false := by decide) : ED X W ex (.Name n pos) ρ (.str i) := fun B F H σ Q E _ q => by
  obtain ⟨t, hm⟩ := hm
  exact w_e (pe_glob (v := .str i) hg hm ⟨t, rfl⟩ hd) (q _ F H (Ext.refl E.i) (.str i))
/-- a tuple of texts, of the module's top -/
theorem ed_gtup {n : Str} {t : Addr} {vs : List V} (hg : Gl X n) (hm : X.mg n = some (.ref t)) (ht : ∀ H, SqT X.K H t vs) (ha : ∀ F, IsAll X.K F vs ds) (hd : (n == ("__debug__" : Str)) = false := by decide) : ED X W ex (.Name n pos) ρ (.tuple ds) := fun B F H σ Q E _ q =>
  w_e (pe_glob (v := .ref t) hg hm rfl hd) (q _ F H (Ext.refl E.i) (.tup (ht F) (ha F)))
theorem ED.to (h : ED X W ex e ρ d) (q : d = x) : ED X W ex e ρ x := q ▸ h
theorem EL.to (h : EL X W ex e ρ ds) (q : ds = xs) : EL X W ex e ρ xs := q ▸ h
theorem EB.to (h : EB X W ex e ρ ds) (q : ds = xs) : EB X W ex e ρ xs := q ▸ h
theorem EP'.to (h : EP' X W ex e ρ ds) (q : ds = xs) : EP' X W ex e ρ xs := q ▸ h
theorem ET.to {k l : Bool} (h : ET X W ex e ρ k) (q : k = l) : ET X W ex e ρ l := q ▸ h

/-! operators -/
def R2D (K : PySem.W.Frag) (r : R2) (x y z : PyData) : Prop := ∀ v u F H (Q : VK), Ex F H → Is K F v x → Is K F u y → (∀ t F' H', Ext F H F' H' → Is K F' t z → Q t H') → r v u H Q
theorem ed_op {op : Operator} {r : R2} (ho : OpR X (binaryOp op) r) (ha : ED X W ex a ρ x) (hb : ED X W ex b ρ y) (hr : R2D X.K r x y z) : ED X W ex (.BinOp a op b pos) ρ z := fun B F H σ Q E c q =>
  w_e (pe_op ho pe_w pe_w) (ha B F H σ _ E c fun v F1 H1 x1 i1 => hb B F1 H1 σ _ (E.ext x1) (c.ext x1) fun u F2 H2 x2 i2 => hr v u F2 H2 Q x2.i (i1.mono x2.f) i2 fun t F3 H3 x3 i3 => q t F3 H3 ((x1.trans x2).trans x3) i3)
theorem ed_cmp {op : CmpOp} {r : R2} (ho : OpR X (compareOp op) r) (ha : ED X W ex a ρ x) (hb : ED X W ex b ρ y) (hm : behindInMarks op b = false) (hr : R2D X.K r x y z) : ED X W ex (.Compare a [op] [b] pos) ρ z := fun B F H σ Q E c q =>
  w_e (pe_cmpR ho pe_w pe_w hm) (ha B F H σ _ E c fun v F1 H1 x1 i1 => hb B F1 H1 σ _ (E.ext x1) (c.ext x1) fun u F2 H2 x2 i2 => hr v u F2 H2 Q x2.i (i1.mono x2.f) i2 fun t F3 H3 x3 i3 => q t F3 H3 ((x1.trans x2).trans x3) i3)
section
variable {K : PySem.W.Frag}
theorem r2_I0 {g : Int → Int → Int} {i j : Int} : R2D K (rI0 fun i j => V.int (g i j)) (.int i) (.int j) (.int (g i j)) := fun v u F H Q i0 hv hu q => ⟨i, j, hv.int_eq, hu.int_eq, q _ F H (Ext.refl i0) (.int _)⟩
theorem r2_I {C : Int → Int → Prop} {g : Int → Int → Int} {i j : Int} (h : C i j) : R2D K (rI C fun i j => V.int (g i j)) (.int i) (.int j) (.int (g i j)) := fun v u F H Q i0 hv hu q => ⟨i, j, hv.int_eq, hu.int_eq, h, q _ F H (Ext.refl i0) (.int _)⟩
theorem r2_B {g : Int → Int → Bool} {i j : Int} : R2D K (rI0 fun i j => V.bl (g i j)) (.int i) (.int j) (.bool (g i j)) := fun v u F H Q i0 hv hu q => ⟨i, j, hv.int_eq, hu.int_eq, q _ F H (Ext.refl i0) (.bl _)⟩
end
theorem ed_add {i j : Int} (ha : ED X W ex a ρ (.int i)) (hb : ED X W ex b ρ (.int j)) : ED X W ex (.BinOp a .Add b pos) ρ (.int (i + j)) := ed_op op_add ha hb r2_I0
theorem ed_sub {i j : Int} (ha : ED X W ex a ρ (.int i)) (hb : ED X W ex b ρ (.int j)) : ED X W ex (.BinOp a .Sub b pos) ρ (.int (i - j)) := ed_op op_sub ha hb r2_I0
theorem ed_mul {i j : Int} (ha : ED X W ex a ρ (.int i)) (hb : ED X W ex b ρ (.int j)) (h : CMul i j) : ED X W ex (.BinOp a .Mult b pos) ρ (.int (i * j)) := ed_op op_mul ha hb (r2_I h)
theorem ed_mod {i j : Int} (ha : ED X W ex a ρ (.int i)) (hb : ED X W ex b ρ (.int j)) (h : 0 < j) : ED X W ex (.BinOp a .Mod b pos) ρ (.int (i % j)) := ed_op op_mod ha hb (r2_I (C := fun _ j => 0 < j) h)
theorem ed_div {i j : Int} (ha : ED X W ex a ρ (.int i)) (hb : ED X W ex b ρ (.int j)) (h : CDiv i j) : ED X W ex (.BinOp a .FloorDiv b pos) ρ (.int (i / j)) := ed_op op_fdiv ha hb (r2_I h)
theorem ed_cat {i j : Str} (ha : ED X W ex a ρ (.str i)) (hb : ED X W ex b ρ (.str j)) (h : i.length + j.length ≤ 100000) : ED X W ex (.BinOp a .Add b pos) ρ (.str (i ++ j)) :=
  ed_op op_add_str ha hb fun v u F H Q i0 hv hu q => ⟨i, j, hv.str_eq, hu.str_eq, Nat.le_trans h (by decide), q _ F H (Ext.refl i0) (.str _)⟩
theorem sz_le {n : Nat} (h : n ≤ 100000) : n ≤ sizeLine := Nat.le_trans h (by decide)
theorem el_cat (ha : ED X W ex a ρ (.list xs)) (hb : ED X W ex b ρ (.list ys)) (h : xs.length + ys.length ≤ 100000) : EL X W ex (.BinOp a .Add b pos) ρ (xs ++ ys) := fun B F H σ Q E c q =>
  w_e (pe_op op_cat pe_w pe_w) (ha B F H σ _ E c fun v F1 H1 x1 i1 => hb B F1 H1 σ _ (E.ext x1) (c.ext x1) fun u F2 H2 x2 i2 => by
    cases i1 with
    | lst h1 a1 =>
    cases i2 with
    | lst h2 a2 =>
    rename_i l1 v1 l2 v2
    refine ⟨_, _, _, _, rfl, rfl, x2.i _ _ (x2.f _ _ h1), x2.i _ _ h2, by rw [a1.len, a2.len]; exact sz_le h, fun p hp => ?_⟩
    have x3 := Ext.kept (o := .lst (v1 ++ v2)) x2.i hp
    have hp0 : H p = none := (x1.trans x2).h.back hp
    exact q p _ F2 _ ((x1.trans x2).trans x3) hp0 (x2.i.back hp) upd_same ((a1.mono x2.f).append a2))
/-- [..] * n, the list made on the spot or told -/
theorem el_rep {k : Int} (ha : ED X W ex a ρ (.list xs)) (hb : ED X W ex b ρ (.int k)) (hk : -(2 ^ 63) ≤ k ∧ k < 2 ^ 63) (h : xs.length * k.toNat ≤ 100000) : EL X W ex (.BinOp a .Mult b pos) ρ (List.replicate k.toNat xs).flatten := fun B F H σ Q E c q =>
  w_e (pe_op op_rep pe_w pe_w) (ha B F H σ _ E c fun v F1 H1 x1 i1 => hb B F1 H1 σ _ (E.ext x1) (c.ext x1) fun u F2 H2 x2 i2 => by
    cases i1 with
    | lst h1 a1 =>
    rename_i l1 v1
    refine ⟨_, k, _, rfl, i2.int_eq, x2.i _ _ (x2.f _ _ h1), hk.1, hk.2, by rw [a1.len]; exact sz_le h, fun p hp => ?_⟩
    have x3 := Ext.kept (o := .lst (List.replicate k.toNat v1).flatten) x2.i hp
    have hp0 : H p = none := (x1.trans x2).h.back hp
    refine q p _ F2 _ ((x1.trans x2).trans x3) hp0 (x2.i.back hp) upd_same ?_
    have a3 := a1.mono x2.f
    generalize k.toNat = n
    induction n with
    | zero => exact .nil
    | succ n ih => rw [List.replicate_succ, List.replicate_succ, List.flatten_cons, List.flatten_cons]; exact a3.append ih)
/-! comparisons -/
theorem ed_lt {i j : Int} (ha : ED X W ex a ρ (.int i)) (hb : ED X W ex b ρ (.int j)) : ED X W ex (.Compare a [.Lt] [b] pos) ρ (.bool (decide (i < j))) := ed_cmp op_lt ha hb (nomark _) (r2_B (g := fun i j => decide (i < j)))
theorem ed_le {i j : Int} (ha : ED X W ex a ρ (.int i)) (hb : ED X W ex b ρ (.int j)) : ED X W ex (.Compare a [.LtE] [b] pos) ρ (.bool (decide (i ≤ j))) := ed_cmp op_le ha hb (nomark _) (r2_B (g := fun i j => decide (i ≤ j)))
theorem ed_gt {i j : Int} (ha : ED X W ex a ρ (.int i)) (hb : ED X W ex b ρ (.int j)) : ED X W ex (.Compare a [.Gt] [b] pos) ρ (.bool (decide (j < i))) := ed_cmp op_gt ha hb (nomark _) (r2_B (g := fun i j => decide (j < i)))
theorem ed_ge {i j : Int} (ha : ED X W ex a ρ (.int i)) (hb : ED X W ex b ρ (.int j)) : ED X W ex (.Compare a [.GtE] [b] pos) ρ (.bool (decide (j ≤ i))) := ed_cmp op_ge ha hb (nomark _) (r2_B (g := fun i j => decide (j ≤ i)))
section
variable {K : PySem.W.Frag}
theorem r2_eqI {i j : Int} : R2D K rEq (.int i) (.int j) (.bool (decide (i = j))) := fun v u F H Q i0 hv hu q => by
  rw [hv.int_eq, hu.int_eq]
  refine ⟨rfl, ?_⟩
  rw [show decide (V.int i = V.int j) = decide (i = j) from by simp]
  exact q _ F H (Ext.refl i0) (.bl _)
theorem r2_neI {i j : Int} : R2D K rNe (.int i) (.int j) (.bool (!decide (i = j))) := fun v u F H Q i0 hv hu q => by
  rw [hv.int_eq, hu.int_eq]
  refine ⟨rfl, ?_⟩
  rw [show decide (V.int i = V.int j) = decide (i = j) from by simp]
  exact q _ F H (Ext.refl i0) (.bl _)
theorem r2_eqS {i j : Str} : R2D K rEq (.str i) (.str j) (.bool (decide (i = j))) := fun v u F H Q i0 hv hu q => by
  rw [hv.str_eq, hu.str_eq]
  refine ⟨rfl, ?_⟩
  rw [show decide (V.str i = V.str j) = decide (i = j) from by simp]
  exact q _ F H (Ext.refl i0) (.bl _)
theorem r2_neS {i j : Str} : R2D K rNe (.str i) (.str j) (.bool (!decide (i = j))) := fun v u F H Q i0 hv hu q => by
  rw [hv.str_eq, hu.str_eq]
  refine ⟨rfl, ?_⟩
  rw [show decide (V.str i = V.str j) = decide (i = j) from by simp]
  exact q _ F H (Ext.refl i0) (.bl _)
end
theorem ed_eqI {i j : Int} (ha : ED X W ex a ρ (.int i)) (hb : ED X W ex b ρ (.int j)) : ED X W ex (.Compare a [.Eq] [b] pos) ρ (.bool (decide (i = j))) := ed_cmp op_eq ha hb (nomark _) r2_eqI
theorem ed_neI {i j : Int} (ha : ED X W ex a ρ (.int i)) (hb : ED X W ex b ρ (.int j)) : ED X W ex (.Compare a [.NotEq] [b] pos) ρ (.bool (!decide (i = j))) := ed_cmp op_ne ha hb (nomark _) r2_neI
theorem ed_eqS {i j : Str} (ha : ED X W ex a ρ (.str i)) (hb : ED X W ex b ρ (.str j)) : ED X W ex (.Compare a [.Eq] [b] pos) ρ (.bool (decide (i = j))) := ed_cmp op_eq ha hb (nomark _) r2_eqS
theorem ed_neS {i j : Str} (ha : ED X W ex a ρ (.str i)) (hb : ED X W ex b ρ (.str j)) : ED X W ex (.Compare a [.NotEq] [b] pos) ρ (.bool (!decide (i = j))) := ed_cmp op_ne ha hb (nomark _) r2_neS
theorem ed_eqD (hu : X.A.units + 64 < cLine) (ha : ED X W ex a ρ x) (hb : ED X W ex b ρ y) (hx : SeqAt.shaped x = true) (hy : SeqAt.shaped y = true) : ED X W ex (.Compare a [.Eq] [b] pos) ρ (.bool (PyData.eqv x y)) :=
  ed_cmp (op_eqD hu) ha hb (nomark _) fun v u F H Q i0 hv hu q => ⟨x, y, (hv.mono i0).dp, (hu.mono i0).dp, hx, hy, q _ F H (Ext.refl i0) (.bl _)⟩
theorem ed_neD (hu : X.A.units + 64 < cLine) (ha : ED X W ex a ρ x) (hb : ED X W ex b ρ y) (hx : SeqAt.shaped x = true) (hy : SeqAt.shaped y = true) : ED X W ex (.Compare a [.NotEq] [b] pos) ρ (.bool (!PyData.eqv x y)) :=
  ed_cmp (op_neD hu) ha hb (nomark _) fun v u F H Q i0 hv hu q => ⟨x, y, (hv.mono i0).dp, (hu.mono i0).dp, hx, hy, q _ F H (Ext.refl i0) (.bl _)⟩
theorem ed_leS {i j : Str} (ha : ED X W ex a ρ (.str i)) (hb : ED X W ex b ρ (.str j)) : ED X W ex (.Compare a [.LtE] [b] pos) ρ (.bool (!decide (j.cps.toList < i.cps.toList))) :=
  ed_cmp op_le_str ha hb (nomark _) fun v u F H Q i0 hv hu q => ⟨i, j, hv.str_eq, hu.str_eq, q _ F H (Ext.refl i0) (.bl _)⟩
theorem ed_geS {i j : Str} (ha : ED X W ex a ρ (.str i)) (hb : ED X W ex b ρ (.str j)) : ED X W ex (.Compare a [.GtE] [b] pos) ρ (.bool (!decide (i.cps.toList < j.cps.toList))) :=
  ed_cmp op_ge_str ha hb (nomark _) fun v u F H Q i0 hv hu q => ⟨i, j, hv.str_eq, hu.str_eq, q _ F H (Ext.refl i0) (.bl _)⟩
/-- one sign in a text -/
theorem ed_inC {k : Nat} {z : Str} (ha : ED X W ex a ρ (.str ⟨#[k]⟩)) (hb : ED X W ex b ρ (.str z)) (hm : behindInMarks .In b = false := by rfl) : ED X W ex (.Compare a [.In] [b] pos) ρ (.bool (decide (k ∈ z.cps.toList))) :=
  ed_cmp op_in_sign ha hb hm fun v u F H Q i0 hv hu q => ⟨k, z, hv.str_eq, hu.str_eq, q _ F H (Ext.refl i0) (.bl _)⟩
theorem ed_isN (ha : ED X W ex a ρ x) (hb : ED X W ex b ρ .none) : ED X W ex (.Compare a [.Is] [b] pos) ρ (.bool (isNone x)) :=
  ed_cmp op_isN ha hb (nomark _) fun v u F H Q i0 hv hu q => ⟨hu.non_eq, by
    have e : decide (v = V.non) = isNone x := by cases hv <;> rfl
    rw [e]; exact q _ F H (Ext.refl i0) (.bl _)⟩
theorem ed_notN (ha : ED X W ex a ρ x) (hb : ED X W ex b ρ .none) : ED X W ex (.Compare a [.IsNot] [b] pos) ρ (.bool (!isNone x)) :=
  ed_cmp op_notN ha hb (nomark _) fun v u F H Q i0 hv hu q => ⟨hu.non_eq, by
    have e : (!decide (v = V.non)) = (!isNone x) := by cases hv <;> rfl
    rw [e]; exact q _ F H (Ext.refl i0) (.bl _)⟩
theorem inV_strs {i : Str} : ∀ zs : List Str, inV (.str i) (zs.map V.str) = decide (i ∈ zs)
  | [] => by simp [inV]
  | z :: zs => by
    have ih := inV_strs (i := i) zs
    unfold inV at ih ⊢
    rw [List.map_cons, List.any_cons, ih]
    show ((z == i) || _) = _
    by_cases q : i = z
    · subst q; simp
    · have : (z == i) = false := beq_eq_false_iff_ne.mpr (fun h => q h.symm)
      rw [this]; simp [q]
theorem flat_strs (zs : List Str) : (zs.map V.str).all flatV = true := by
  rw [List.all_map, List.all_eq_true]; intro z _; rfl
/-- a text in a list of texts -/
theorem ed_inL {i : Str} {zs : List Str} (ha : ED X W ex a ρ (.str i)) (hb : EB X W ex b ρ (zs.map .str)) (hm : behindInMarks .In b = false := by rfl) : ED X W ex (.Compare a [.In] [b] pos) ρ (.bool (decide (i ∈ zs))) := fun B F H σ Q E c q =>
  w_e (pe_cmpR op_in_seq pe_w pe_w hm) (ha B F H σ _ E c fun v F1 H1 x1 i1 => hb B F1 H1 σ _ (E.ext x1) (c.ext x1) fun p vs F2 H2 x2 hs i2 => by
    rw [i1.str_eq]
    rw [i2.strs_eq] at hs
    refine ⟨p, _, rfl, .inl hs, rfl, flat_strs zs, ?_⟩
    rw [if_neg Bool.false_ne_true, inV_strs]
    exact q _ F2 H2 (x1.trans x2) (.bl _))
theorem ed_niL {i : Str} {zs : List Str} (ha : ED X W ex a ρ (.str i)) (hb : EB X W ex b ρ (zs.map .str)) (hm : behindInMarks .NotIn b = false := by rfl) : ED X W ex (.Compare a [.NotIn] [b] pos) ρ (.bool (!decide (i ∈ zs))) := fun B F H σ Q E c q =>
  w_e (pe_cmpR op_notIn_seq pe_w pe_w hm) (ha B F H σ _ E c fun v F1 H1 x1 i1 => hb B F1 H1 σ _ (E.ext x1) (c.ext x1) fun p vs F2 H2 x2 hs i2 => by
    rw [i1.str_eq]
    rw [i2.strs_eq] at hs
    refine ⟨p, _, rfl, .inl hs, rfl, flat_strs zs, ?_⟩
    rw [if_pos rfl, inV_strs]
    exact q _ F2 H2 (x1.trans x2) (.bl _))
/-- a text in a tuple of texts -/
theorem ed_niT {i : Str} {zs : List Str} (ha : ED X W ex a ρ (.str i)) (hb : ED X W ex b ρ (.tuple (zs.map .str))) (hm : behindInMarks .NotIn b = false := by rfl) : ED X W ex (.Compare a [.NotIn] [b] pos) ρ (.bool (!decide (i ∈ zs))) :=
  ed_cmp op_notIn_seq ha hb hm fun v u F H Q i0 hv hu q => by
    rw [hv.str_eq]
    cases hu with
    | tup hs a =>
    rw [a.strs_eq] at hs
    refine ⟨_, _, rfl, .inr (i0.sqt hs), rfl, flat_strs zs, ?_⟩
    rw [if_pos rfl, inV_strs]
    exact q _ F H (Ext.refl i0) (.bl _)
theorem ed_inT {i : Str} {zs : List Str} (ha : ED X W ex a ρ (.str i)) (hb : ED X W ex b ρ (.tuple (zs.map .str))) (hm : behindInMarks .In b = false := by rfl) : ED X W ex (.Compare a [.In] [b] pos) ρ (.bool (decide (i ∈ zs))) :=
  ed_cmp op_in_seq ha hb hm fun v u F H Q i0 hv hu q => by
    rw [hv.str_eq]
    cases hu with
    | tup hs a =>
    rw [a.strs_eq] at hs
    refine ⟨_, _, rfl, .inr (i0.sqt hs), rfl, flat_strs zs, ?_⟩
    rw [if_neg Bool.false_ne_true, inV_strs]
    exact q _ F H (Ext.refl i0) (.bl _)
/-- a < b < c -/
theorem ed_chain {op op' : CmpOp} {r r' : R2} {k l : Bool} (ho : OpR X (compareOp op) r) (ho' : OpR X (compareOp op') r') (ha : ED X W ex a ρ x) (hb : ED X W ex b ρ y) (hc : ED X W ex c ρ z)
    (h1 : R2D X.K r x y (.bool k)) (h2 : R2D X.K r' y z (.bool l)) (hm : lastMarks [op, op'] [b, c] = false := by rfl) : ED X W ex (.Compare a [op, op'] [b, c] pos) ρ (.bool (k && l)) := fun B F H σ Q E g q =>
  w_e (pe_chain ho ho' pe_w pe_w pe_w hm) (ha B F H σ _ E g fun v F1 H1 x1 i1 => hb B F1 H1 σ _ (E.ext x1) (g.ext x1) fun u F2 H2 x2 i2 => h1 v u F2 H2 _ x2.i (i1.mono x2.f) i2 fun t F3 H3 x3 i3 => ⟨k, i3.bl_eq, by
    have x13 := (x1.trans x2).trans x3
    cases k with
    | false => exact iteF (q _ F3 H3 x13 (.bl _))
    | true => exact iteT (hc B F3 H3 σ _ (E.ext x13) (g.ext x13) fun t4 F4 H4 x4 i4 => h2 u t4 F4 H4 Q x4.i ((i2.mono x3.f).mono x4.f) i4 fun t5 F5 H5 x5 i5 => by
        rw [i5.bl_eq]; exact q _ F5 H5 ((x13.trans x4).trans x5) (.bl _))⟩)
end
end PD

set_option maxHeartbeats 4000000
namespace PD
open PySem L2
section
variable {X : Cx} {W : WX} {ex : Addr → Prop} {e a b c o : Expr} {es : List Expr} {ρ : List Sl} {d x y z : PyData} {ds xs ys : List PyData} {pos p p2 apos : Pos}
/-! arguments -/
theorem ea_nil : EA X W ex [] ρ [] := fun B F H σ Q E c q => w_a pa_nil (q [] F H (Ext.refl E.i) .nil)
theorem AgsOk.ext {K : PySem.W.Frag} {F H F' H' : Hp} (x : Ext F H F' H') : ∀ {vs : List V} {as : List Sl}, AgsOk K F H vs as → AgsOk K F' H' vs as
  | _, _, .nil => .nil
  | _, _, .cons h t => .cons (h.ext x) (AgsOk.ext x t)
theorem ea_d {as : List Sl} (h : ED X W ex e ρ d) (r : EA X W ex es ρ as) (hs : starEach (e :: es) X.env = (false, eval e X.env) :: starEach es X.env := by rfl) : EA X W ex (e :: es) ρ (.sh d :: as) := fun B F H σ Q E c q =>
  w_a (pa_cons pe_w pa_w hs) (h B F H σ _ E c fun v F1 H1 x1 i1 => r B F1 H1 σ _ (E.ext x1) (c.ext x1) fun vs F2 H2 x2 i2 => q (v :: vs) F2 H2 (x1.trans x2) (.cons (i1.mono x2.f) i2))
theorem ea_b {as : List Sl} (h : EB X W ex e ρ ds) (r : EA X W ex es ρ as) (hs : starEach (e :: es) X.env = (false, eval e X.env) :: starEach es X.env := by rfl) : EA X W ex (e :: es) ρ (.bo ds :: as) := fun B F H σ Q E c q =>
  w_a (pa_cons pe_w pa_w hs) (h B F H σ _ E c fun p vs F1 H1 x1 h1 i1 => r B F1 H1 σ _ (E.ext x1) (c.ext x1) fun ws F2 H2 x2 i2 => q (.ref p :: ws) F2 H2 (x1.trans x2) (.cons ⟨p, vs, rfl, x2.h.sql h1, i1.mono x2.f⟩ i2))
theorem ea_raw {as : List Sl} {i : Nat} {n : Str} {w : V} (hN : X.N[i]? = some n) (hv : Vis X.env.scope n) (hw : ρ[i]? = some (.raw w)) (r : EA X W ex es ρ as) (hs : starEach (.Name n pos :: es) X.env = (false, eval (.Name n pos) X.env) :: starEach es X.env := by rfl)
    (hd : (n == ("__debug__" : Str)) = false := by decide) (hcd : (n == ("__classdict__" : Str)) = false := by decide) : EA X W ex (.Name n pos :: es) ρ (.raw w :: as) := fun B F H σ Q E c q => by
  obtain ⟨o, e1, h⟩ := E.s i _ hw
  cases o with
  | none => exact h.elim
  | some v => exact w_a (pa_cons (pe_var hN hv hd hcd) pa_w hs) ⟨v, e1, r B F H σ _ E c fun ws F2 H2 x2 i2 => q (v :: ws) F2 H2 x2 (.cons h i2)⟩
/-! displays -/
theorem ea_data : ∀ {K : PySem.W.Frag} {F H : Hp} {vs : List V} {ds : List PyData}, AgsOk K F H vs (ds.map .sh) → IsAll K F vs ds
  | _, _, _, _, [], h => by cases h; exact .nil
  | _, _, _, _, d :: ds, h => by
    cases h with
    | cons h t => exact .cons h (ea_data t)
theorem ed_tup {k : Nat} (h : EA X W ex es ρ (ds.map .sh)) (hl : ds.length ≤ 100000) : ED X W ex (.Tuple es k pos) ρ (.tuple ds) := fun B F H σ Q E c q =>
  w_e (pe_tup pa_w) (h B F H σ _ E c fun vs F1 H1 x1 i1 => by
    have i2 := ea_data i1
    refine ⟨by rw [i2.len]; exact sz_le hl, fun p hp => ?_⟩
    have x2 := Ext.made (o := .tup vs) x1.i hp
    exact q _ _ _ (x1.trans x2) (.tup (SqT.of upd_same) (i2.mono x2.f)))
theorem el_lst (h : EA X W ex es ρ (ds.map .sh)) (hl : ds.length ≤ 100000) : EL X W ex (.List es pos) ρ ds := fun B F H σ Q E c q =>
  w_e (pe_lst pa_w) (h B F H σ _ E c fun vs F1 H1 x1 i1 => by
    have i2 := ea_data i1
    refine ⟨by rw [i2.len]; exact sz_le hl, fun p hp => ?_⟩
    have x2 := Ext.kept (o := .lst vs) x1.i hp
    exact q _ vs _ _ (x1.trans x2) (x1.h.back hp) (x1.i.back hp) upd_same i2)
/-! items -/
theorem ix_get {K : PySem.W.Frag} {F : Hp} {vs : List V} {i : Int} (a : IsAll K F vs ds) (h : atI ds i = some d) : ∃ v, atI vs i = some v ∧ Is K F v d := by
  unfold atI at h ⊢
  rw [a.len]
  cases e : ixN ds.length i with
  | none => rw [e] at h; cases h
  | some j =>
    rw [e] at h
    exact a.get h
theorem ed_ixL {i : Int} (ha : EB X W ex a ρ ds) (hb : ED X W ex b ρ (.int i)) (h : atI ds i = some d) (hs : PlainIx b := by exact fun _ _ => rfl) : ED X W ex (.Subscript a b pos) ρ d := fun B F H σ Q E c q =>
  w_e (pe_ix ix_list pe_w pe_w hs) (ha B F H σ _ E c fun p vs F1 H1 x1 h1 i1 => hb B F1 H1 σ _ (E.ext x1) (c.ext x1) fun u F2 H2 x2 i2 => by
    obtain ⟨v, hv, i3⟩ := ix_get (i1.mono x2.f) h
    exact ⟨p, vs, i, v, rfl, i2.int_eq, x2.h.sql h1, hv, q v F2 H2 (x1.trans x2) i3⟩)
theorem ed_ixT {i : Int} (ha : ED X W ex a ρ (.tuple ds)) (hb : ED X W ex b ρ (.int i)) (h : atI ds i = some d) (hs : PlainIx b := by exact fun _ _ => rfl) : ED X W ex (.Subscript a b pos) ρ d := fun B F H σ Q E c q =>
  w_e (pe_ix ix_tup pe_w pe_w hs) (ha B F H σ _ E c fun v F1 H1 x1 i1 => hb B F1 H1 σ _ (E.ext x1) (c.ext x1) fun u F2 H2 x2 i2 => by
    cases i1 with
    | tup h1 a1 =>
    obtain ⟨v, hv, i3⟩ := ix_get (a1.mono x2.f) h
    exact ⟨_, _, i, v, rfl, i2.int_eq, (x2.f.trans x2.i).sqt h1, hv, q v F2 H2 (x1.trans x2) i3⟩)
theorem ed_ixS {i : Int} {w : Str} {k : Nat} (ha : ED X W ex a ρ (.str w)) (hb : ED X W ex b ρ (.int i)) (hl : w.length ≤ 100000) (h : atI w.cps.toList i = some k) (hs : PlainIx b := by exact fun _ _ => rfl) : ED X W ex (.Subscript a b pos) ρ (.str ⟨#[k]⟩) := fun B F H σ Q E c q =>
  w_e (pe_ix ix_str pe_w pe_w hs) (ha B F H σ _ E c fun v F1 H1 x1 i1 => hb B F1 H1 σ _ (E.ext x1) (c.ext x1) fun u F2 H2 x2 i2 =>
    ⟨w, i, k, i1.str_eq, i2.int_eq, sz_le hl, h, q _ F2 H2 (x1.trans x2) (.str _)⟩)
/-! slices -/
def EO (X : Cx) (W : WX) (ex : Addr → Prop) (e : Option Expr) (ρ : List Sl) (o : Option Int) : Prop := match e, o with
  | none, none => True
  | some e, some i => ED X W ex e ρ (.int i)
  | _, _ => False
theorem po_w {e : Option Expr} {ob : Option Int} (h : EO X W ex e ρ ob) : ∃ t, PO X e t ∧ ∀ B F H σ (Q : Option Int → Hp → Prop), En X.K B F H σ ρ → Xc W ex F H σ → (∀ F' H', Ext F H F' H' → Q ob H') → t σ H Q := by
  cases e with
  | none =>
    cases ob with
    | none => exact ⟨tNoPart, po_none, fun B F H σ Q E c q => q F H (Ext.refl E.i)⟩
    | some i => exact h.elim
  | some e =>
    cases ob with
    | none => exact h.elim
    | some i => exact ⟨tPart (WE X e), po_some pe_w, fun B F H σ Q E c q => h B F H σ _ E c fun v F' H' x i' => ⟨i, i'.int_eq, q F' H' x⟩⟩
def cutD {α : Type} (xs : List α) (lo hi : Option Int) : List α := (xs.drop (HT.sIx xs.length 0 lo)).take (HT.sIx xs.length xs.length hi - HT.sIx xs.length 0 lo)
theorem cut_all {K : PySem.W.Frag} {F : Hp} {vs : List V} (lo hi : Option Int) (a : IsAll K F vs ds) : IsAll K F (cutV vs lo hi) (cutD ds lo hi) := by
  unfold cutV cutD
  rw [a.len]
  exact (a.drop _).take _
theorem el_cut {lo hi : Option Expr} {l u : Option Int} (ha : EB X W ex a ρ ds) (hl : EO X W ex lo ρ l) (hu : EO X W ex hi ρ u) : EL X W ex (.Subscript a (.Slice lo hi none p2) pos) ρ (cutD ds l u) := fun B F H σ Q E c q => by
  obtain ⟨tl, pl, kl⟩ := po_w hl
  obtain ⟨tu, pu, ku⟩ := po_w hu
  exact w_e (pe_slice sl_list pe_w pl pu) (ha B F H σ _ E c fun p vs F1 H1 x1 h1 i1 => kl B F1 H1 σ _ (E.ext x1) (c.ext x1) fun F2 H2 x2 => ku B F2 H2 σ _ ((E.ext x1).ext x2) ((c.ext x1).ext x2) fun F3 H3 x3 => by
    have x23 := x2.trans x3
    refine ⟨p, vs, rfl, x23.h.sql h1, fun r hr => ?_⟩
    have x4 := Ext.kept (o := .lst (cutV vs l u)) x23.i hr
    have x14 := (x1.trans x23).trans x4
    exact q r _ F3 _ x14 ((x1.trans x23).h.back hr) (x23.i.back hr) upd_same (cut_all l u (i1.mono x23.f)))
theorem ed_cutS {lo hi : Option Expr} {l u : Option Int} {w : Str} (ha : ED X W ex a ρ (.str w)) (hl : EO X W ex lo ρ l) (hu : EO X W ex hi ρ u) (hz : w.length ≤ 100000) : ED X W ex (.Subscript a (.Slice lo hi none p2) pos) ρ (.str (cutS w l u)) := fun B F H σ Q E c q => by
  obtain ⟨tl, pl, kl⟩ := po_w hl
  obtain ⟨tu, pu, ku⟩ := po_w hu
  exact w_e (pe_slice sl_str pe_w pl pu) (ha B F H σ _ E c fun v F1 H1 x1 i1 => kl B F1 H1 σ _ (E.ext x1) (c.ext x1) fun F2 H2 x2 => ku B F2 H2 σ _ ((E.ext x1).ext x2) ((c.ext x1).ext x2) fun F3 H3 x3 =>
    ⟨w, i1.str_eq, sz_le hz, q _ F3 H3 ((x1.trans x2).trans x3) (.str _)⟩)
/-! built-ins -/
theorem ed_len (ha : EB X W ex a ρ ds) (hg : Gl X ("len" : Str)) (hm : X.mg ("len" : Str) = none) (hs : starEach [a] X.env = [(false, eval a X.env)] := by rfl) : ED X W ex (.Call (.Name "len" p) [a] [] pos) ρ (.int ds.length) := fun B F H σ Q E c q =>
  w_e (pe_callB call_len_seq hg hm PySem.boot_len (pa_cons pe_w pa_nil hs) (by decide) (by decide) hs (by rfl)) (ha B F H σ _ E c fun l vs F1 H1 x1 h1 i1 => ⟨l, vs, rfl, .inl h1, by
    rw [i1.len]; exact q _ F1 H1 x1 (.int _)⟩)
theorem ed_lenT (ha : ED X W ex a ρ (.tuple ds)) (hg : Gl X ("len" : Str)) (hm : X.mg ("len" : Str) = none) (hs : starEach [a] X.env = [(false, eval a X.env)] := by rfl) : ED X W ex (.Call (.Name "len" p) [a] [] pos) ρ (.int ds.length) := fun B F H σ Q E c q =>
  w_e (pe_callB call_len_seq hg hm PySem.boot_len (pa_cons pe_w pa_nil hs) (by decide) (by decide) hs (by rfl)) (ha B F H σ _ E c fun v F1 H1 x1 i1 => by
    cases i1 with
    | tup h1 a1 =>
    refine ⟨_, _, rfl, .inr (x1.i.sqt h1), ?_⟩
    rw [a1.len]; exact q _ F1 H1 x1 (.int _))
theorem ed_lenS {w : Str} (ha : ED X W ex a ρ (.str w)) (hz : w.length ≤ 100000) (hg : Gl X ("len" : Str)) (hm : X.mg ("len" : Str) = none) (hs : starEach [a] X.env = [(false, eval a X.env)] := by rfl) : ED X W ex (.Call (.Name "len" p) [a] [] pos) ρ (.int w.length) := fun B F H σ Q E c q =>
  w_e (pe_callB call_len_str hg hm PySem.boot_len (pa_cons pe_w pa_nil hs) (by decide) (by decide) hs (by rfl)) (ha B F H σ _ E c fun v F1 H1 x1 i1 => ⟨w, by rw [i1.str_eq], sz_le hz, q _ F1 H1 x1 (.int _)⟩)
theorem ed_strI {i : Int} (ha : ED X W ex a ρ (.int i)) (hz : i.natAbs.log2 < 1920) (hg : Gl X ("str" : Str)) (hm : X.mg ("str" : Str) = none) (hs : starEach [a] X.env = [(false, eval a X.env)] := by rfl) : ED X W ex (.Call (.Name "str" p) [a] [] pos) ρ (.str (Str.ofString (toString i))) := fun B F H σ Q E c q =>
  w_e (pe_callTy call_str_int hg hm (by decide +kernel) (pa_cons pe_w pa_nil hs) (by decide) (by decide) hs (by rfl)) (ha B F H σ _ E c fun v F1 H1 x1 i1 => ⟨i, by rw [i1.int_eq], hz, q _ F1 H1 x1 (.str _)⟩)
theorem ed_min {i j : Int} (hc : X.calm = true) (ha : ED X W ex a ρ (.int i)) (hb : ED X W ex b ρ (.int j)) (hg : Gl X ("min" : Str)) (hm : X.mg ("min" : Str) = none) (hs : starEach [a, b] X.env = (false, eval a X.env) :: starEach [b] X.env := by rfl) (hs2 : starEach [b] X.env = [(false, eval b X.env)] := by rfl)
    (hz : (backTo pos (starEach [b] X.env)).any (·.1) = false := by rfl) : ED X W ex (.Call (.Name "min" p) [a, b] [] pos) ρ (.int (if j < i then j else i)) := fun B F H σ Q E c q =>
  w_e (pe_callB (call_min2 hc) hg hm (by decide +kernel) (pa_cons pe_w (pa_cons pe_w pa_nil hs2) hs) (by decide) (by decide) hs hz) (ha B F H σ _ E c fun v F1 H1 x1 i1 => hb B F1 H1 σ _ (E.ext x1) (c.ext x1) fun u F2 H2 x2 i2 => ⟨i, j, by rw [i1.int_eq, i2.int_eq], q _ F2 H2 (x1.trans x2) (.int _)⟩)
/-- sorted(a list of texts, fewer than 64): the list that the walk of it finds -/
theorem el_sorted {zs : List Str} (ha : EB X W ex a ρ (zs.map .str)) (h64 : zs.length < 64) (hg : Gl X ("sorted" : Str)) (hm : X.mg ("sorted" : Str) = none) (u : ∀ ys : List Str, ys.Perm zs → PyProof.Rows.sortedS ys = true → ds = ys.map .str)
    (hs : starEach [a] X.env = [(false, eval a X.env)] := by rfl) : EL X W ex (.Call (.Name "sorted" p) [a] [] pos) ρ ds := fun B F H σ Q E c q =>
  w_e (pe_callB cr_sortedS hg hm (by decide +kernel) (pa_cons pe_w pa_nil hs) (by decide) (by decide) hs (by rfl)) (ha B F H σ _ E c fun l vs F1 H1 x1 h1 i1 => by
    rw [i1.strs_eq] at h1
    refine ⟨l, zs, rfl, h1, h64, fun ys r hp hsrt hr => ?_⟩
    have x2 := Ext.kept (o := .lst (ys.map V.str)) x1.i hr
    rw [u ys hp hsrt] at q
    exact q r _ F1 _ (x1.trans x2) (x1.h.back hr) (x1.i.back hr) upd_same (IsAll.strs ys))
theorem el_list (ha : EB X W ex a ρ ds) (hg : Gl X ("list" : Str)) (hm : X.mg ("list" : Str) = none) (hs : starEach [a] X.env = [(false, eval a X.env)] := by rfl) : EL X W ex (.Call (.Name "list" p) [a] [] pos) ρ ds := fun B F H σ Q E c q =>
  w_e (pe_callTy call_list_of hg hm (by decide +kernel) (pa_cons pe_w pa_nil hs) (by decide) (by decide) hs (by rfl)) (ha B F H σ _ E c fun l vs F1 H1 x1 h1 i1 => by
    refine ⟨l, vs, rfl, .inl h1, fun r hr => ?_⟩
    have x2 := Ext.kept (o := .lst vs) x1.i hr
    exact q r _ F1 _ (x1.trans x2) (x1.h.back hr) (x1.i.back hr) upd_same i1)
theorem ed_all {bs : List Bool} (hc : X.calm = true) (ha : EB X W ex a ρ (bs.map .bool)) (hg : Gl X ("all" : Str)) (hm : X.mg ("all" : Str) = none) (hs : starEach [a] X.env = [(false, eval a X.env)] := by rfl) : ED X W ex (.Call (.Name "all" p) [a] [] pos) ρ (.bool (bs.all id)) := fun B F H σ Q E c q =>
  w_e (pe_callB (cr_all hc) hg hm (by decide +kernel) (pa_cons pe_w pa_nil hs) (by decide) (by decide) hs (by rfl)) (ha B F H σ _ E c fun l vs F1 H1 x1 h1 i1 => by
    rw [i1.bools_eq] at h1
    exact ⟨l, bs, rfl, h1, q _ F1 H1 x1 (.bl _)⟩)
theorem ed_join {w : Str} {zs : List Str} (ho : ED X W ex o ρ (.str w)) (ha : EB X W ex a ρ (zs.map .str)) (hz : (zs.map (·.length)).sum + zs.length * w.length ≤ 100000)
    (hs : starEach [a] X.env = [(false, eval a X.env)] := by rfl) (hb : attributeBase o "join" X.env (eval o X.env) = eval o X.env := by rfl) (hl : (apos.endLine == pos.line) = true := by rfl) : ED X W ex (.Call (.Attribute o "join" apos) [a] [] pos) ρ (.str (Str.join w zs)) := fun B F H σ Q E c q =>
  w_e (pe_join pe_w pe_w hs hb hl) (ho B F H σ _ E c fun v F1 H1 x1 i1 => ⟨⟨w, i1.str_eq⟩, ha B F1 H1 σ _ (E.ext x1) (c.ext x1) fun l vs F2 H2 x2 h2 i2 => by
    rw [i2.strs_eq] at h2
    refine ⟨w, l, zs, i1.str_eq, rfl, .inl h2, Nat.le_trans hz (by decide), ?_⟩
    rw [TL.join_eq]
    exact q _ F2 H2 (x1.trans x2) (.str _)⟩)
/-! tests -/
theorem et_val {k : Bool} (h : ED X W ex e ρ (.bool k)) (hw : ∀ whole : Sem Value, isTrue e X.env whole = (do let v ← whole; standAt e.pos; holding [v] (truthy v)) := by intro _; rfl) : ET X W ex e ρ k := fun B F H σ Q E c q =>
  w_t (pt_val pe_w hw) (h B F H σ _ E c fun v F1 H1 x1 i1 => ⟨k, i1.bl_eq, q F1 H1 x1⟩)
theorem et_not {k : Bool} (h : ET X W ex e ρ k) : ET X W ex (.UnaryOp .Not e pos) ρ (!k) := fun B F H σ Q E c q => w_t (pt_not pt_w) (h B F H σ _ E c fun F1 H1 x1 => q F1 H1 x1)
theorem ew_and {k l : Bool} {r : List Expr} (h1 : ET X W ex a ρ k) (h2 : k = true → EW X W ex (.BoolOp .And (b :: r) pos) ρ l) : EW X W ex (.BoolOp .And (a :: b :: r) pos) ρ (k && l) := fun B F H σ Q E c q =>
  w_w (pw_and pt_w pw_w) (h1 B F H σ _ E c fun F1 H1 x1 => by
    cases k with
    | false => exact iteF (q F1 H1 x1)
    | true => exact iteT (h2 rfl B F1 H1 σ _ (E.ext x1) (c.ext x1) fun F2 H2 x2 => q F2 H2 (x1.trans x2)))
theorem ew_and1 {k : Bool} (h : ET X W ex a ρ k) : EW X W ex (.BoolOp .And [a] pos) ρ k := fun B F H σ Q E c q => w_w (pw_and1 pt_w) (h B F H σ Q E c q)
theorem ew_or {k l : Bool} {r : List Expr} (h1 : ET X W ex a ρ k) (h2 : k = false → EW X W ex (.BoolOp .Or (b :: r) pos) ρ l) : EW X W ex (.BoolOp .Or (a :: b :: r) pos) ρ (k || l) := fun B F H σ Q E c q =>
  w_w (pw_or pt_w pw_w) (h1 B F H σ _ E c fun F1 H1 x1 => by
    cases k with
    | true => exact iteT (q F1 H1 x1)
    | false => exact iteF (h2 rfl B F1 H1 σ _ (E.ext x1) (c.ext x1) fun F2 H2 x2 => q F2 H2 (x1.trans x2)))
theorem ew_or1 {k : Bool} (h : ET X W ex a ρ k) : EW X W ex (.BoolOp .Or [a] pos) ρ k := fun B F H σ Q E c q => w_w (pw_or1 pt_w) (h B F H σ Q E c q)
theorem et_w {k : Bool} (h : EW X W ex e ρ k) : ET X W ex e ρ k := fun B F H σ Q E c q => w_t (PW.pt pw_w) (h B F H σ Q E c q)
/-- the truth of a list -/
theorem et_list (h : EB X W ex e ρ ds) (hw : ∀ whole : Sem Value, isTrue e X.env whole = (do let v ← whole; standAt e.pos; holding [v] (truthy v)) := by intro _; rfl) : ET X W ex e ρ (!ds.isEmpty) := fun B F H σ Q E c q =>
  w_t (pt_truth pe_w hw) (h B F H σ _ E c fun l vs F1 H1 x1 h1 i1 => ⟨!ds.isEmpty, .inl ⟨vs, h1, by cases i1 <;> rfl⟩, q F1 H1 x1⟩)
theorem ed_ifx {k : Bool} (h : ET X W ex c ρ k) (h1 : k = true → ED X W ex a ρ d) (h2 : k = false → ED X W ex b ρ d) : ED X W ex (.IfExp c a b pos) ρ d := fun B F H σ Q E g q =>
  w_e (pe_ifExp pt_w pe_w pe_w) (h B F H σ _ E g fun F1 H1 x1 => by
    cases k with
    | false => exact iteF (h2 rfl B F1 H1 σ _ (E.ext x1) (g.ext x1) fun v F2 H2 x2 i2 => q v F2 H2 (x1.trans x2) i2)
    | true => exact iteT (h1 rfl B F1 H1 σ _ (E.ext x1) (g.ext x1) fun v F2 H2 x2 i2 => q v F2 H2 (x1.trans x2) i2))
/-! and, or, not as values -/
theorem ed_one {op : BoolOp} (h : ED X W ex a ρ d) : ED X W ex (.BoolOp op [a] pos) ρ d := fun B F H σ Q E c q => w_e (pe_one pe_w) (h B F H σ Q E c q)
theorem ed_and {k l : Bool} {r : List Expr} (h1 : ED X W ex a ρ (.bool k)) (h2 : k = true → ED X W ex (.BoolOp .And (b :: r) pos) ρ (.bool l)) : ED X W ex (.BoolOp .And (a :: b :: r) pos) ρ (.bool (k && l)) := fun B F H σ Q E c q =>
  w_e (pe_and pe_w pe_w) (h1 B F H σ _ E c fun v F1 H1 x1 i1 => ⟨k, i1.bl_eq, by
    cases k with
    | false => exact iteF (q _ F1 H1 x1 (.bl _))
    | true => exact iteT (h2 rfl B F1 H1 σ _ (E.ext x1) (c.ext x1) fun v F2 H2 x2 i2 => q v F2 H2 (x1.trans x2) i2)⟩)
theorem ed_or {k l : Bool} {r : List Expr} (h1 : ED X W ex a ρ (.bool k)) (h2 : k = false → ED X W ex (.BoolOp .Or (b :: r) pos) ρ (.bool l)) : ED X W ex (.BoolOp .Or (a :: b :: r) pos) ρ (.bool (k || l)) := fun B F H σ Q E c q =>
  w_e (pe_or pe_w pe_w) (h1 B F H σ _ E c fun v F1 H1 x1 i1 => ⟨k, i1.bl_eq, by
    cases k with
    | true => exact iteT (q _ F1 H1 x1 (.bl _))
    | false => exact iteF (h2 rfl B F1 H1 σ _ (E.ext x1) (c.ext x1) fun v F2 H2 x2 i2 => q v F2 H2 (x1.trans x2) i2)⟩)
theorem ed_not {k : Bool} (h1 : ED X W ex a ρ (.bool k)) : ED X W ex (.UnaryOp .Not a pos) ρ (.bool (!k)) := fun B F H σ Q E c q =>
  w_e (pe_not pe_w) (h1 B F H σ _ E c fun v F1 H1 x1 i1 => ⟨k, i1.bl_eq, q _ F1 H1 x1 (.bl _)⟩)
end
end PD

set_option maxHeartbeats 4000000
namespace PD
open PySem L2 PyProof.Rows

/-! ### statements -/
structure De where
  nx : List Sl → Prop
  rt : PyData → Prop := fun _ => False
  rl : List PyData → Prop := fun _ => False
  bk : List Sl → Prop := fun _ => False
  ct : List Sl → Prop := fun _ => False
  ex : Addr → List Sl → Prop := fun _ _ => False
/-- where a def's body stands; F0, H0: its entry -/
structure S2 (K : PySem.W.Frag) (F0 H0 F H : Hp) (σ : L2.St) (ρ : List Sl) : Prop where
  x : Ext F0 H0 F H
  e : En K H0 F H σ ρ
structure Lk (K : PySem.W.Frag) (W : WX) (F0 H0 : Hp) (T : De) (D : Ends) : Prop where
  nx : ∀ ρ σ F H, T.nx ρ → S2 K F0 H0 F H σ ρ → D.nx σ H
  rt : ∀ d v F H, T.rt d → Ext F0 H0 F H → Is K F v d → D.rt v H
  rl : ∀ ds p vs F H, T.rl ds → Ext F0 H0 F H → H0 p = none → F p = none → H p = some (.lst vs) → IsAll K F vs ds → D.rt (.ref p) H
  bk : ∀ ρ σ F H, T.bk ρ → S2 K F0 H0 F H σ ρ → D.bk σ H
  ct : ∀ ρ σ F H, T.ct ρ → S2 K F0 H0 F H σ ρ → D.ct σ H
  ex : ∀ C ρ σ F H, T.ex C ρ → S2 K F0 H0 F H σ ρ → W (.ref C) none σ H
def SD (X : Cx) (W : WX) (st : Stmt) (ρ : List Sl) (T : De) : Prop := ∀ F0 H0 F H σ D, S2 X.K F0 H0 F H σ ρ → Lk X.K W F0 H0 T D → WS X st D σ H
def SDs (X : Cx) (W : WX) (sts : List Stmt) (ρ : List Sl) (T : De) : Prop := ∀ F0 H0 F H σ D, S2 X.K F0 H0 F H σ ρ → Lk X.K W F0 H0 T D → WSs X sts D σ H
theorem S2.go {K : PySem.W.Frag} {F0 H0 F H F' H' : Hp} {σ : L2.St} {ρ : List Sl} (s : S2 K F0 H0 F H σ ρ) (x : Ext F H F' H') : S2 K F0 H0 F' H' σ ρ := ⟨s.x.trans x, s.e.ext x⟩
theorem Lk.xc {K : PySem.W.Frag} {W : WX} {F0 H0 F H : Hp} {σ : L2.St} {ρ : List Sl} {T : De} {D : Ends} (l : Lk K W F0 H0 T D) (s : S2 K F0 H0 F H σ ρ) : Xc W (fun C => T.ex C ρ) F H σ := fun C F' H' e x => l.ex C ρ σ F' H' e (s.go x)
theorem Lk.nxt {K : PySem.W.Frag} {W : WX} {F0 H0 : Hp} {T : De} {D : Ends} (l : Lk K W F0 H0 T D) {P : List Sl → Prop} {q : L2.St → Hp → Prop} (h : ∀ ρ σ F H, P ρ → S2 K F0 H0 F H σ ρ → q σ H) : Lk K W F0 H0 { T with nx := P } { D with nx := q } := ⟨h, l.rt, l.rl, l.bk, l.ct, l.ex⟩
theorem Ext.on {F0 H0 F H F' H' : Hp} (x : Ext F0 H0 F H) (y : Ext F H0 F' H') : Ext F0 H0 F' H' := ⟨x.f.trans y.f, y.h, y.i, fun a ha => (y.n a ha).trans (x.n a ha)⟩
theorem Ext.at {F0 H0 F H : Hp} (x : Ext F0 H0 F H) : Ext F H0 F H := ⟨Ex.refl F, x.h, x.i, fun _ _ => rfl⟩
theorem S2.on {K : PySem.W.Frag} {F0 H0 F H F' H' : Hp} {σ : L2.St} {ρ : List Sl} (x : Ext F0 H0 F H) (s : S2 K F H0 F' H' σ ρ) : S2 K F0 H0 F' H' σ ρ := ⟨x.on s.x, s.e⟩
theorem S2.at {K : PySem.W.Frag} {F0 H0 F H : Hp} {σ : L2.St} {ρ : List Sl} (s : S2 K F0 H0 F H σ ρ) : S2 K F H0 F H σ ρ := ⟨s.x.at, s.e⟩
theorem Lk.re {K : PySem.W.Frag} {W : WX} {F0 H0 F H : Hp} {T : De} {D : Ends} (l : Lk K W F0 H0 T D) (x : Ext F0 H0 F H) : Lk K W F H0 T D :=
  ⟨fun ρ σ F1 H1 q s => l.nx ρ σ F1 H1 q (s.on x), fun d v F1 H1 q y i => l.rt d v F1 H1 q (x.on y) i, fun ds p vs F1 H1 q y a b c d => l.rl ds p vs F1 H1 q (x.on y) a b c d,
    fun ρ σ F1 H1 q s => l.bk ρ σ F1 H1 q (s.on x), fun ρ σ F1 H1 q s => l.ct ρ σ F1 H1 q (s.on x), fun C ρ σ F1 H1 q s => l.ex C ρ σ F1 H1 q (s.on x)⟩
section
variable {X : Cx} {W : WX} {e a b c o : Expr} {es : List Expr} {st : Stmt} {sts ths els : List Stmt} {ρ : List Sl} {d : PyData} {ds xs ys : List PyData} {pos p p2 apos : Pos} {T : De}
theorem sds_nil (h : T.nx ρ) : SDs X W [] ρ T := fun F0 H0 F H σ D s l => w_ss pss_nil (l.nx ρ σ F H h s)
theorem sds_cons (h : SD X W st ρ { T with nx := fun ρ' => SDs X W sts ρ' T }) : SDs X W (st :: sts) ρ T := fun F0 H0 F H σ D s l =>
  w_ss (pss_cons ps_w pss_w) (h F0 H0 F H σ _ s (l.nxt fun ρ' σ' F' H' q s' => q F0 H0 F' H' σ' D s' l))
theorem sds_one (h : SD X W st ρ T) : SDs X W [st] ρ T := fun F0 H0 F H σ D s l => w_ss (pss_one ps_w) (h F0 H0 F H σ D s l)
theorem SDs.imp {T' : De} (h : SDs X W sts ρ T) (k : ∀ K F0 H0 D, Lk K W F0 H0 T' D → Lk K W F0 H0 T D) : SDs X W sts ρ T' := fun F0 H0 F H σ D s l => h F0 H0 F H σ D s (k _ _ _ _ l)
/-- x = e -/
theorem sd_set {i : Nat} {n : Str} (nd : X.N.Nodup) (hN : X.N[i]? = some n) (hl : Loc X.env.scope n) (hfn : X.fn n = true ∨ X.env.scope.names.lookup n = some .local) (h : ED X W (fun C => T.ex C ρ) e ρ d) (q : T.nx (ρ.set i (.sh d)))
    (hw : swapsWith e (some (.Name n p)) pos.line X.env = pure false := by rfl) : SD X W (.Assign [.Name n p] e pos) ρ T := fun F0 H0 F H σ D s l =>
  w_s (ps_set nd hN hl pe_w hw hfn) (h H0 F H σ _ s.e (l.xc s) fun v F1 H1 x1 i1 => l.nx _ _ F1 H1 q ⟨s.x.trans x1, (s.e.ext x1).set i1 rfl⟩)
theorem sd_setL {i : Nat} {n : Str} (nd : X.N.Nodup) (hN : X.N[i]? = some n) (hl : Loc X.env.scope n) (hfn : X.fn n = true ∨ X.env.scope.names.lookup n = some .local) (h : EL X W (fun C => T.ex C ρ) e ρ ds) (q : ∀ r, T.nx (ρ.set i (.ow r ds)))
    (hw : swapsWith e (some (.Name n p)) pos.line X.env = pure false := by rfl) : SD X W (.Assign [.Name n p] e pos) ρ T := fun F0 H0 F H σ D s l =>
  w_s (ps_set nd hN hl pe_w hw hfn) (h H0 F H σ _ s.e (l.xc s) fun r vs F1 H1 x1 h0 f0 h1 i1 => l.nx _ _ F1 H1 (q r) ⟨s.x.trans x1, s.e.own x1 h0 f0 h1 i1⟩)
/-- one's own list stands still from here on -/
theorem sds_frz {i : Nat} {r : Addr} (hi : ρ[i]? = some (.ow r ds)) (h : SDs X W sts (ρ.set i (.sh (.list ds))) T) : SDs X W sts ρ T := fun F0 H0 F H σ D s l => by
  obtain ⟨F', xf, nf, E'⟩ := s.e.frz hi
  exact h F0 H0 F' H σ D ⟨⟨s.x.f.trans xf, s.x.h, E'.i, fun a ha => (nf a ha).trans (s.x.n a ha)⟩, E'⟩ l
/-- x.append(e) -/
theorem sd_app {i : Nat} {n : Str} {r : Addr} (hN : X.N[i]? = some n) (hv : Vis X.env.scope n) (hi : ρ[i]? = some (.ow r ds)) (h : ED X W (fun C => T.ex C ρ) e ρ d) (hz : ds.length < 100000) (q : T.nx (ρ.set i (.ow r (ds ++ [d]))))
    (hd : (n == ("__debug__" : Str)) = false := by decide) (hcd : (n == ("__classdict__" : Str)) = false := by decide) (hs : starEach [e] X.env = [(false, eval e X.env)] := by rfl) (hb : attributeBase (.Name n p2) "append" X.env (eval (.Name n p2) X.env) = eval (.Name n p2) X.env := by rfl)
    (ha : (((backTo p (starEach [e] X.env)).all (fun x => !x.1) && (backToKw p (keywordEach [] X.env)).all (fun x => x.1.isSome)) && decide (([e].length + ([] : List Keyword).length + if ([] : List Keyword).isEmpty = true then 0 else 1) < 30)) = true := by rfl)
    (hl : (apos.endLine == p.line) = true := by rfl) (hz2 : (backTo p (starEach [] X.env)).any (·.1) = false := by rfl)
    (hw : swapsWith (.Call (.Attribute (.Name n p2) "append" apos) [e] [] p) none pos.line X.env = pure false := by rfl) : SD X W (.Expr (.Call (.Attribute (.Name n p2) "append" apos) [e] [] p) pos) ρ T := fun F0 H0 F H σ D s l => by
  obtain ⟨v, e1, h1⟩ := s.e.s i _ hi
  cases v with
  | none => exact h1.elim
  | some v =>
  obtain ⟨rfl, hf, hb0, vs, hh, a0⟩ := h1
  refine w_s (ps_expr (pe_bm PySem.F.plainAttrs_list PySem.F.slot_list_append PySem.F.type_list_append mt_append (pe_var hN hv hd hcd) (pa_cons pe_w pa_nil hs) hb ha hl hs hz2) hw) ⟨_, e1, .inl ⟨rfl, vs, SqL.of hh⟩, ?_⟩
  refine h H0 F H σ _ s.e (l.xc s) fun v2 F1 H1 x1 i1 => ?_
  have hh1 := x1.h _ _ hh
  have E1 := s.e.ext x1
  have hz1 : vs.length < sizeLine := Nat.lt_of_lt_of_le (by rw [a0.len]; exact hz) (by decide)
  refine ⟨r, vs, v2, rfl, rfl, hh1, hz1, ?_⟩
  have E2 := E1.wr (es := ds ++ [d]) hi ((a0.mono x1.f).append (.cons i1 .nil))
  exact l.nx _ _ F1 _ q ⟨⟨s.x.f.trans x1.f, (s.x.h.trans x1.h).mut hb0, E2.i, fun z hz => ((s.x.trans x1).n z hz)⟩, E2⟩
theorem sd_ret (h : ED X W (fun C => T.ex C ρ) e ρ d) (q : T.rt d) : SD X W (.Return (some e) pos) ρ T := fun F0 H0 F H σ D s l =>
  w_s (ps_ret pe_w) (h H0 F H σ _ s.e (l.xc s) fun v F1 H1 x1 i1 => l.rt d v F1 H1 q (s.x.trans x1) i1)
theorem sd_retL (h : EL X W (fun C => T.ex C ρ) e ρ ds) (q : T.rl ds) : SD X W (.Return (some e) pos) ρ T := fun F0 H0 F H σ D s l =>
  w_s (ps_ret pe_w) (h H0 F H σ _ s.e (l.xc s) fun r vs F1 H1 x1 h0 f0 h1 i1 => l.rl ds r vs F1 H1 q (s.x.trans x1) (s.x.h.back h0) f0 h1 i1)
theorem sd_retO {i : Nat} {n : Str} {r : Addr} (hN : X.N[i]? = some n) (hv : Vis X.env.scope n) (hi : ρ[i]? = some (.ow r ds)) (q : T.rl ds) (hd : (n == ("__debug__" : Str)) = false := by decide) (hcd : (n == ("__classdict__" : Str)) = false := by decide) :
    SD X W (.Return (some (.Name n p)) pos) ρ T := fun F0 H0 F H σ D s l => by
  obtain ⟨v, e1, h1⟩ := s.e.s i _ hi
  cases v with
  | none => exact h1.elim
  | some v =>
  obtain ⟨rfl, hf, hb0, vs, hh, a0⟩ := h1
  exact w_s (ps_ret (pe_var hN hv hd hcd)) ⟨_, e1, l.rl ds r vs F H q s.x hb0 hf hh a0⟩
theorem sd_expr (h : ED X W (fun C => T.ex C ρ) e ρ d) (q : T.nx ρ) (hw : swapsWith e none pos.line X.env = pure false := by rfl) : SD X W (.Expr e pos) ρ T := fun F0 H0 F H σ D s l =>
  w_s (ps_expr pe_w hw) (h H0 F H σ _ s.e (l.xc s) fun v F1 H1 x1 i1 => l.nx ρ σ F1 H1 q (s.go x1))
theorem sd_if {k : Bool} (h : ET X W (fun C => T.ex C ρ) c ρ k) (h1 : k = true → SDs X W ths ρ T) (h2 : k = false → SDs X W els ρ T) : SD X W (.If c ths els pos) ρ T := fun F0 H0 F H σ D s l =>
  w_s (ps_if pt_w pss_w pss_w) (h H0 F H σ _ s.e (l.xc s) fun F1 H1 x1 => by
    cases k with
    | false => exact iteF (h2 rfl F0 H0 F1 H1 σ D (s.go x1) l)
    | true => exact iteT (h1 rfl F0 H0 F1 H1 σ D (s.go x1) l))
/-- C(e), an error of one's own; nothing is handled meanwhile -/
theorem pmkN {C : Addr} {bmB : List Value} {B0 newId initId : String} {n : Str} {te : TE} (F : ExcBaseFacts B0 newId initId bmB) (q : PySem.W.excIn X.K C bmB newId = true) (gC : X.mg n = some (.ref C)) (kC : PySem.W.keepIn X.K (.ref C) = true) (r : Raises X (.ref C)) (hg : Gl X n)
    (h : PE X e te) (hs : starEach [e] X.env = (false, eval e X.env) :: starEach [] X.env := by rfl) (hdb : (n == ("__debug__" : Str)) = false := by decide) : L2N.PMk X (.Call (.Name n p) [e] [] pos) (fun σ H Q => te σ H fun _ H1 => Q (.ref C) none H1) := fun pins s σ H Q I hq => by
  refine wpAny_Call_Name_kw (ld_glob I hg gC (PySem.W.callWith_K (h₀ := X.base) I.ok.mod.kin kC ?_ hs (by rfl)) hdb)
  rw [hs]
  refine Calls.spliced_cons (thn (h.run pins s σ H _ I hq) fun u s1 ⟨v, H1, I1, _, q1⟩ => Calls.spliced_nil ⟨I1.kIn, ?_⟩)
  obtain ⟨_, _, _, _, _, _, _, _, _, _, _, _, _, _, _, _, _, hC, hN, hni, T⟩ := exc_obj I1.kIn q
  exact wpAny_call_exc_subT F T hC hN hni (fun h' e' hm => L2N.mk_of I1 hm r q1 (I1.hok.gone hm.new)) (by show 1 ≤ sizeLine; decide)
/-- raise C(e) -/
theorem sd_raise {C : Addr} {n : Str} {bmB : List Value} {B0 newId initId : String} (hc : X.calm = true) (tk : L2N.Takes X W) (F : ExcBaseFacts B0 newId initId bmB) (q : PySem.W.excIn X.K C bmB newId = true) (gC : X.mg n = some (.ref C)) (kC : PySem.W.keepIn X.K (.ref C) = true) (r : Raises X (.ref C)) (hg : Gl X n)
    (h : ED X W (fun C => T.ex C ρ) e ρ d) (hx : T.ex C ρ) (hs : starEach [e] X.env = (false, eval e X.env) :: starEach [] X.env := by rfl) (hdb : (n == ("__debug__" : Str)) = false := by decide) : SD X W (.Raise (some (.Call (.Name n p) [e] [] p2)) none pos) ρ T := fun F0 H0 F1 H1 σ D s l =>
  w_s (L2N.ps_raise hc tk (pmkN F q gC kC r hg pe_w hs hdb)) (h H0 F1 H1 σ _ s.e (l.xc s) fun v F2 H2 x2 i2 => l.ex C ρ σ F2 H2 hx (s.go x2))
/-- for x in a list that stands still -/
theorem sd_for {j : Nat} {n : Str} {body : List Stmt} (I : Nat → List Sl → Prop) (hp : PassesOwn (model X.prog X.w) X.A X.env X.xe) (hc : X.calm = true) (nd : X.N.Nodup) (hN : X.N[j]? = some n) (hl : Loc X.env.scope n) (hfn : X.fn n = true ∨ X.env.scope.names.lookup n = some .local)
    (h : EP' X W (fun C => T.ex C ρ) e ρ ds) (h0 : I 0 ρ) (hs : ∀ i d ρ', ds[i]? = some d → I i ρ' → SDs X W body (ρ'.set j (.sh d)) { T with nx := I (i + 1), ct := I (i + 1), bk := T.nx }) (hd : ∀ ρ', I ds.length ρ' → T.nx ρ')
    (hf : ∀ x, foldedSetIterable e X.env x = pure x := by intro _; rfl) : SD X W (.For (.Name n p) e body [] pos) ρ T := fun F0 H0 F H σ D s l =>
  w_s (ps_for hp hc (pi_list pe_w) (pg_name nd hN hl hfn) pss_w hf) (h H0 F H σ _ s.e (l.xc s) fun r vs F1 H1 x1 hr i1 => by
    have s1 := s.go x1
    refine ⟨r, rfl, ⟨vs, ?_⟩, for_list (xs := vs) (fun i σ' H' => ∃ F' ρ', I i ρ' ∧ Ex F1 F' ∧ S2 X.K F0 H0 F' H' σ' ρ') ⟨F1, ρ, h0, Ex.refl F1, s1⟩ ?_ ?_ ?_⟩
    · rcases hr with hr | hr
      · exact s1.e.b.sql hr
      · exact s1.e.i.sql hr
    · rintro i σ' H' hi ⟨F', ρ', hI, hx, s'⟩
      rcases hr with hr | hr
      · exact s'.e.b.sql hr
      · exact (hx.trans s'.e.i).sql hr
    · rintro i x σ' H' hi ⟨F', ρ', hI, hx, s'⟩
      obtain ⟨d, hd', id'⟩ := i1.get' hi
      refine hs i d ρ' hd' hI F' H0 F' H' (σ'.set j (some x)) _ ⟨s'.x.at, s'.e.set (s := .sh d) (id'.mono hx) rfl⟩ ?_
      have l' := l.re s'.x
      have nx : ∀ ρ2 σ2 F2 H2, I (i + 1) ρ2 → S2 X.K F' H0 F2 H2 σ2 ρ2 → ∃ F3 ρ3, I (i + 1) ρ3 ∧ Ex F1 F3 ∧ S2 X.K F0 H0 F3 H2 σ2 ρ3 := fun ρ2 σ2 F2 H2 q s2 => ⟨F2, ρ2, q, hx.trans s2.x.f, s2.on s'.x⟩
      exact ⟨nx, l'.rt, l'.rl, l'.nx, nx, l'.ex⟩
    · rintro σ' H' ⟨F', ρ', hI, hx, s'⟩
      rw [i1.len] at hI
      exact l.nx ρ' σ' F' H' (hd ρ' hI) s')
end
end PD

set_option maxHeartbeats 4000000
namespace PD
open PySem L2
section
variable {X : Cx} {W : WX} {ex : Addr → Prop} {e a b c o elt : Expr} {es : List Expr} {st : Stmt} {sts ths els body : List Stmt} {ρ : List Sl} {d : PyData} {ds xs ys : List PyData} {pos p p2 apos tpos : Pos} {T : De}
theorem ags_sh {K : PySem.W.Frag} {F H : Hp} : ∀ {vs ws : List V} {ds : List PyData} {as : List Sl}, IsAll K F vs ds → AgsOk K F H ws as → AgsOk K F H (vs ++ ws) (ds.map .sh ++ as)
  | _, _, _, _, .nil, r => r
  | _, _, _, _, .cons h t, r => .cons h (ags_sh t r)
theorem ea_star {as : List Sl} (h : EB X W ex e ρ ds) (r : EA X W ex es ρ as) (hs : starEach (.Starred e p :: es) X.env = (true, eval e X.env) :: starEach es X.env := by rfl) : EA X W ex (.Starred e p :: es) ρ (ds.map .sh ++ as) := fun B F H σ Q E c q =>
  w_a (StX.pa_star pe_w pa_w hs) (h B F H σ _ E c fun l vs F1 H1 x1 h1 i1 => ⟨l, vs, rfl, .inr h1, r B F1 H1 σ _ (E.ext x1) (c.ext x1) fun ws F2 H2 x2 i2 => q _ F2 H2 (x1.trans x2) (ags_sh (i1.mono x2.f) i2)⟩)

/-! f-strings: some text -/
def ShortS (z : Str) : Prop := z.length ≤ 20000
theorem ed_fs1 (h : ED X W ex e ρ d) : ED X W ex (.JoinedStr [e] pos) ρ d := fun B F H σ Q E c q => w_e (pe_joined1 pe_w) (h B F H σ Q E c q)
/-- parts, one behind the other -/
def EJ (X : Cx) (W : WX) (ex : Addr → Prop) (es : List Expr) (ρ : List Sl) (zs : List Str) : Prop := Paired (fun e z => ED X W ex e ρ (.str z)) es zs
theorem ed_fstr {e1 e2 : Expr} {zs : List Str} (h : EJ X W ex (e1 :: e2 :: es) ρ zs) (hz : (zs.map (·.length)).sum ≤ 100000) : ED X W ex (.JoinedStr (e1 :: e2 :: es) pos) ρ (.str (zs.foldl (· ++ ·) Str.empty)) := by
  have pj : ∀ fs : List Expr, PJ X fs (fs.map (WE X)) := fun fs => by
    induction fs with
    | nil => exact .nil
    | cons f r ih => exact .cons pe_w ih
  have go : ∀ (fs : List Expr) (zs : List Str), EJ X W ex fs ρ zs → ∀ (acc : Str) B F H σ (Q : Str → Hp → Prop), acc.length + (zs.map (·.length)).sum ≤ 100000 → En X.K B F H σ ρ → Xc W ex F H σ → (∀ F' H', Ext F H F' H' → Q (zs.foldl (· ++ ·) acc) H') → tJs (fs.map (WE X)) acc σ H Q := by
    intro fs zs h
    induction h with
    | nil => intro acc B F H σ Q _ E c q; exact q F H (Ext.refl E.i)
    | @cons f z fs zs hf _ ih =>
      intro acc B F H σ Q hl E c q
      refine hf B F H σ _ E c fun v F1 H1 x1 i1 => ?_
      rw [List.map_cons, List.sum_cons] at hl
      have e1 : (acc ++ z).length = acc.length + z.length := by
        show (acc ++ z).cps.size = _
        rw [Str.cps_append, Array.size_append]; rfl
      refine ⟨z, i1.str_eq, sz_le (by omega), ih (acc ++ z) B F1 H1 σ _ (by omega) (E.ext x1) (c.ext x1) fun F2 H2 x2 => q F2 H2 (x1.trans x2)⟩
  intro B F H σ Q E c q
  exact w_e (pe_joined (pj _)) (go _ _ h Str.empty B F H σ _ (by show 0 + _ ≤ _; omega) E c fun F1 H1 x1 => q _ F1 H1 x1 (.str _))
theorem ed_fmt {z : Str} (h : ED X W ex e ρ (.str z)) (hz : z.length ≤ 100000) : ED X W ex (.FormattedValue e (-1) none pos) ρ (.str z) := fun B F H σ Q E c q => w_e (pe_fmt pe_w) (h B F H σ _ E c fun v F1 H1 x1 i1 => .inl ⟨z, i1.str_eq, sz_le hz, q _ F1 H1 x1 (.str _)⟩)
theorem ed_fmtI {i : Int} (h : ED X W ex e ρ (.int i)) (hz : i.natAbs.log2 < 1920) : ED X W ex (.FormattedValue e (-1) none pos) ρ (.str (toString i)) := fun B F H σ Q E c q => w_e (pe_fmt pe_w) (h B F H σ _ E c fun v F1 H1 x1 i1 => .inr ⟨i, i1.int_eq, hz, q _ F1 H1 x1 (.str _)⟩)
theorem ed_fmtR {z : Str} (h : ED X W ex e ρ (.str z)) (hz : (reprText z).length ≤ 100000) : ED X W ex (.FormattedValue e 114 none pos) ρ (.str (reprText z)) := fun B F H σ Q E c q => w_e (pe_fmtR pe_w) (h B F H σ _ E c fun v F1 H1 x1 i1 => .inl ⟨z, i1.str_eq, sz_le hz, q _ F1 H1 x1 (.str _)⟩)

/-! targets: names, tuples of names -/
def GU (X : Cx) (tg : Expr) (f : List Sl → PyData → List Sl → Prop) : Prop := ∃ g, PG X tg g ∧ ∀ ρ d ρ', f ρ d ρ' → ∀ B F H σ v (Q : L2.St → Hp → Prop), En X.K B F H σ ρ → Is X.K F v d → (∀ σ', En X.K B F H σ' ρ' → Q σ' H) → g v σ H Q
def GUs (X : Cx) (tgs : List Expr) (f : List Sl → List PyData → List Sl → Prop) : Prop := ∃ g, PGs X tgs g ∧ ∀ ρ ds ρ', f ρ ds ρ' → ∀ B F H σ vs (Q : L2.St → Hp → Prop), En X.K B F H σ ρ → IsAll X.K F vs ds → (∀ σ', En X.K B F H σ' ρ' → Q σ' H) → g vs σ H Q
def fName (j : Nat) : List Sl → PyData → List Sl → Prop := fun ρ d ρ' => ρ' = ρ.set j (.sh d)
def fNil : List Sl → List PyData → List Sl → Prop := fun ρ ds ρ' => ds = [] ∧ ρ' = ρ
def fCons (f : List Sl → PyData → List Sl → Prop) (g : List Sl → List PyData → List Sl → Prop) : List Sl → List PyData → List Sl → Prop := fun ρ ds ρ' => ∃ d r ρ1, ds = d :: r ∧ f ρ d ρ1 ∧ g ρ1 r ρ'
def fTup (g : List Sl → List PyData → List Sl → Prop) (n : Nat) : List Sl → PyData → List Sl → Prop := fun ρ d ρ' => ∃ ds, d = .tuple ds ∧ ds.length = n ∧ g ρ ds ρ'
theorem gu_name {j : Nat} {n : Str} (nd : X.N.Nodup) (hN : X.N[j]? = some n) (hl : Loc X.env.scope n) (hfn : X.fn n = true ∨ X.env.scope.names.lookup n = some .local) : GU X (.Name n pos) (fName j) :=
  ⟨gName j, pg_name nd hN hl hfn, fun ρ d ρ' e B F H σ v Q E i q => by
    have e : ρ' = ρ.set j (.sh d) := e
    subst e
    exact q _ (E.set (s := .sh d) i rfl)⟩
theorem gus_nil : GUs X [] fNil := ⟨gNil, pgs_nil, fun ρ ds ρ' h B F H σ vs Q E i q => by
  obtain ⟨rfl, rfl⟩ := h
  cases i
  exact ⟨rfl, q σ E⟩⟩
theorem gus_cons {f : List Sl → PyData → List Sl → Prop} {g : List Sl → List PyData → List Sl → Prop} {tgs : List Expr} (h : GU X e f) (r : GUs X tgs g) (hm : (assignEach (e :: tgs) X.env).map (·.2) = assign e X.env :: (assignEach tgs X.env).map (·.2) := by rfl) : GUs X (e :: tgs) (fCons f g) := by
  obtain ⟨g1, p1, k1⟩ := h
  obtain ⟨g2, p2, k2⟩ := r
  refine ⟨gCons g1 g2, pgs_cons p1 p2 hm, fun ρ ds ρ' hf B F H σ vs Q E i q => ?_⟩
  obtain ⟨d, rest, ρ1, rfl, h1, h2⟩ := hf
  cases i with
  | cons i1 i2 => exact ⟨_, _, rfl, k1 ρ d ρ1 h1 B F H σ _ _ E i1 fun σ1 E1 => k2 ρ1 rest ρ' h2 B F H σ1 _ Q E1 i2 q⟩
theorem gu_tup {g : List Sl → List PyData → List Sl → Prop} {tgs : List Expr} {k n : Nat} (hc : X.calm = true) (h : GUs X tgs g) (h1 : (assignEach tgs X.env).length = n := by rfl) (h2 : (assignEach tgs X.env).findIdx? (·.1) = none := by rfl) : GU X (.Tuple tgs k pos) (fTup g n) := by
  obtain ⟨g1, p1, k1⟩ := h
  refine ⟨gTup X.K n g1, pg_tup hc p1 h1 h2, fun ρ d ρ' hf B F H σ v Q E i q => ?_⟩
  obtain ⟨ds, rfl, hn, hg⟩ := hf
  cases i with
  | tup hs ia => exact ⟨_, _, rfl, E.i.sqt hs, ia.len.trans hn, k1 ρ ds ρ' hg B F H σ _ Q E ia q⟩
/-- a, b = e -/
theorem sd_asg {tg : Expr} {ρ' : List Sl} {f : List Sl → PyData → List Sl → Prop} (h : ED X W (fun C => T.ex C ρ) e ρ d) (g : GU X tg f) (hf : f ρ d ρ') (q : T.nx ρ')
    (h1 : swapsWithSole [tg] e pos.line X.env = pure false := by rfl) (h2 : swappedStores [tg] e X.env = pure none := by rfl) (h3 : (assignEach [tg] X.env).map (·.2) = [assign tg X.env] := by rfl) : SD X W (.Assign [tg] e pos) ρ T := by
  obtain ⟨g1, p1, k1⟩ := g
  exact fun F0 H0 F H σ D s l => w_s (ps_asg pe_w p1 h1 h2 h3) (h H0 F H σ _ s.e (l.xc s) fun v F1 H1 x1 i1 => k1 ρ d ρ' hf H0 F1 H1 σ v _ (s.e.ext x1) i1 fun σ' E' => l.nx ρ' σ' F1 H1 q ⟨s.x.trans x1, E'⟩)
/-- for .. in a list that stands still, any target -/
theorem sd_forG {tg : Expr} {f : List Sl → PyData → List Sl → Prop} (I : Nat → List Sl → Prop) (hp : PassesOwn (model X.prog X.w) X.A X.env X.xe) (hc : X.calm = true) (g : GU X tg f)
    (h : EP' X W (fun C => T.ex C ρ) e ρ ds) (h0 : I 0 ρ) (hs : ∀ i d ρ1, ds[i]? = some d → I i ρ1 → ∃ ρ2, f ρ1 d ρ2 ∧ SDs X W body ρ2 { T with nx := I (i + 1), ct := I (i + 1), bk := T.nx }) (hd : ∀ ρ', I ds.length ρ' → T.nx ρ')
    (hf : ∀ x, foldedSetIterable e X.env x = pure x := by intro _; rfl) : SD X W (.For tg e body [] pos) ρ T := by
  obtain ⟨g1, p1, k1⟩ := g
  refine fun F0 H0 F H σ D s l => w_s (ps_for hp hc (pi_list pe_w) p1 pss_w hf) (h H0 F H σ _ s.e (l.xc s) fun r vs F1 H1 x1 hr i1 => ?_)
  have s1 := s.go x1
  refine ⟨r, rfl, ⟨vs, ?_⟩, for_list (xs := vs) (fun i σ' H' => ∃ F' ρ', I i ρ' ∧ Ex F1 F' ∧ S2 X.K F0 H0 F' H' σ' ρ') ⟨F1, ρ, h0, Ex.refl F1, s1⟩ ?_ ?_ ?_⟩
  · rcases hr with hr | hr
    · exact s1.e.b.sql hr
    · exact s1.e.i.sql hr
  · rintro i σ' H' hi ⟨F', ρ', hI, hx, s'⟩
    rcases hr with hr | hr
    · exact s'.e.b.sql hr
    · exact (hx.trans s'.e.i).sql hr
  · rintro i x σ' H' hi ⟨F', ρ', hI, hx, s'⟩
    obtain ⟨d, hd', id'⟩ := i1.get' hi
    obtain ⟨ρ2, hf2, hb⟩ := hs i d ρ' hd' hI
    refine k1 ρ' d ρ2 hf2 H0 F' H' σ' x _ s'.e (id'.mono hx) fun σ2 E2 => ?_
    refine hb F' H0 F' H' σ2 _ ⟨s'.x.at, E2⟩ ?_
    have l' := l.re s'.x
    have nx : ∀ ρ2 σ2 F2 H2, I (i + 1) ρ2 → S2 X.K F' H0 F2 H2 σ2 ρ2 → ∃ F3 ρ3, I (i + 1) ρ3 ∧ Ex F1 F3 ∧ S2 X.K F0 H0 F3 H2 σ2 ρ3 := fun ρ2 σ2 F2 H2 q s2 => ⟨F2, ρ2, q, hx.trans s2.x.f, s2.on s'.x⟩
    exact ⟨nx, l'.rt, l'.rl, l'.nx, nx, l'.ex⟩
  · rintro σ' H' ⟨F', ρ', hI, hx, s'⟩
    rw [i1.len] at hI
    exact l.nx ρ' σ' F' H' (hd ρ' hI) s'
/-- for j in range(n) -/
theorem sd_rng {j : Nat} {n : Str} {k : Int} (I : Nat → List Sl → Prop) (hp : PassesOwn (model X.prog X.w) X.A X.env X.xe) (hc : X.calm = true) (nd : X.N.Nodup) (hN : X.N[j]? = some n) (hl : Loc X.env.scope n) (hfn : X.fn n = true ∨ X.env.scope.names.lookup n = some .local)
    (hg : Gl X ("range" : Str)) (hm : X.mg ("range" : Str) = none) (h : ED X W (fun C => T.ex C ρ) a ρ (.int k)) (hk : k < 2 ^ 62 ∧ -(2 ^ 62) ≤ k) (h0 : I 0 ρ)
    (hs : ∀ (i : Nat) ρ', i < k.toNat → I i ρ' → SDs X W body (ρ'.set j (.sh (.int i))) { T with nx := I (i + 1), ct := I (i + 1), bk := T.nx }) (hd : ∀ ρ', I k.toNat ρ' → T.nx ρ')
    (hst : starEach [a] X.env = [(false, eval a X.env)] := by rfl) (hf : ∀ x, foldedSetIterable (.Call (.Name "range" p) [a] [] p2) X.env x = pure x := by intro _; rfl) : SD X W (.For (.Name n tpos) (.Call (.Name "range" p) [a] [] p2) body [] pos) ρ T := fun F0 H0 F H σ D s l =>
  w_s (ps_for hp hc (pi_range1 hg hm (pa_cons pe_w pa_nil hst) hst) (pg_name nd hN hl hfn) pss_w hf) (h H0 F H σ _ s.e (l.xc s) fun v F1 H1 x1 i1 => by
    have s1 := s.go x1
    refine ⟨k, by rw [i1.int_eq], hk.2, hk.1, for_range (lo := 0) (n := k.toNat) (fun i σ' H' => ∃ F' ρ', I i ρ' ∧ S2 X.K F0 H0 F' H' σ' ρ') ⟨F1, ρ, h0, s1⟩ ?_ ?_⟩
    · rintro i σ' H' hi ⟨F', ρ', hI, s'⟩
      have e0 : (0 : Int) + (i : Int) = (i : Int) := Int.zero_add _
      rw [e0]
      refine hs i ρ' hi hI F' H0 F' H' (σ'.set j (some (.int i))) _ ⟨s'.x.at, s'.e.set (s := .sh (.int i)) (.int _) rfl⟩ ?_
      have l' := l.re s'.x
      have nx : ∀ ρ2 σ2 F2 H2, I (i + 1) ρ2 → S2 X.K F' H0 F2 H2 σ2 ρ2 → ∃ F3 ρ3, I (i + 1) ρ3 ∧ S2 X.K F0 H0 F3 H2 σ2 ρ3 := fun ρ2 σ2 F2 H2 q s2 => ⟨F2, ρ2, q, s2.on s'.x⟩
      exact ⟨nx, l'.rt, l'.rl, l'.nx, nx, l'.ex⟩
    · rintro σ' H' ⟨F', ρ', hI, s'⟩
      exact l.nx ρ' σ' F' H' (hd ρ' hI) s')
end
end PD

set_option maxHeartbeats 4000000
namespace PD
open PySem L2

/-! ### comprehensions: one clause over a name, a test or none -/
abbrev noW : WX := fun _ _ _ _ => False
theorem xcN {W : WX} {F H : Hp} {σ : L2.St} : Xc W noX F H σ := fun _ _ _ e => e.elim
/-- in the comprehension's block -/
abbrev Blk (X : Cx) (scope : Scope) (P : Cx → Prop) : Prop := ∀ (s : Shared) (H : Hp) (C : Addr) (cl : List (Str × Addr)) (fp : List Addr), P (X.blk s H scope (compEnvC scope cl C X.env) fp)
/-- what is made so far: at D, told nowhere yet -/
def Cm (K : PySem.W.Frag) (F1 H1 : Hp) (D : Addr) (out : List PyData) (H : Hp) : Prop := ∃ F acc, Ext F1 H1 F H ∧ F D = none ∧ H D = some (.lst acc) ∧ IsAll K F acc out
theorem wipe1 {σ : L2.St} {j : Nat} {o : Option V} : wipe ((wipe σ [j]).set j o) [j] = wipe σ [j] := by
  show (((σ.set j none).set j o).set j none) = σ.set j none
  rw [List.set_set, List.set_set]
theorem En.wipe {K : PySem.W.Frag} {B F H : Hp} {σ : L2.St} {ρ : List Sl} (E : En K B F H σ ρ) (j : Nat) : En K B F H (L2.wipe σ [j]) (ρ.set j .un) :=
  E.set_ (o := none) (s := .un) trivial fun _ _ _ _ e => nomatch e
section
variable {X : Cx} {W : WX} {ex : Addr → Prop} {e a b c o elt iter : Expr} {es ifs : List Expr} {st : Stmt} {ρ : List Sl} {d : PyData} {ds xs ys : List PyData} {pos p p2 apos tpos spos : Pos} {T : De} {scope : Scope} {n : Str} {j : Nat}
/-- the turn of a block -/
theorem cm_turn {α : Type} {t : TT} {te : TE} {B F1 H1 H' : Hp} {D : Addr} {σ2 : L2.St} {ρ2 : List Sl} {out : List PyData} {k : Bool} {r : PyData} {σ : L2.St}
    (ht : ∀ F H (Q : Bool → Hp → Prop), En X.K B F H σ2 ρ2 → (∀ F' H', Ext F H F' H' → Q k H') → t σ2 H Q)
    (he : k = true → ∀ F H (Q : VK), En X.K B F H σ2 ρ2 → (∀ v F' H', Ext F H F' H' → Is X.K F' v r → Q v H') → te σ2 H Q)
    (hE : ∀ F H, Ext F1 H1 F H → En X.K B F H σ2 ρ2) (hD : H1 D = none) (hz : out.length < 100000) (c : Cm X.K F1 H1 D out H') :
    t σ2 H' fun b H3 => if b = true then te σ2 H3 fun y H4 => ∃ acc, H4 D = some (.lst acc) ∧ acc.length < sizeLine ∧ Cm X.K F1 H1 D (if k = true then out ++ [r] else out) (upd H4 D (.lst (acc ++ [y]))) else Cm X.K F1 H1 D (if k = true then out ++ [r] else out) H3 := by
  obtain ⟨F, acc, x, hf, hh, ia⟩ := c
  refine ht F H' _ (hE F H' x) fun F2 H2 x2 => ?_
  have nD : H' D ≠ none := by rw [hh]; exact fun q => nomatch q
  cases k with
  | false => exact iteF ⟨F2, acc, x.trans x2, (x2.n D nD).trans hf, x2.h _ _ hh, by rw [if_neg Bool.false_ne_true]; exact ia.mono x2.f⟩
  | true =>
    refine iteT (he rfl F2 H2 _ (hE F2 H2 (x.trans x2)) fun v F3 H3 x3 i3 => ?_)
    have x23 := x2.trans x3
    have x13 := x.trans x23
    have hf3 : F3 D = none := (x23.n D nD).trans hf
    refine ⟨acc, x23.h _ _ hh, Nat.lt_of_lt_of_le (by rw [ia.len]; exact hz) (by decide), F3, acc ++ [v], ⟨x13.f, x13.h.mut hD, x13.i.mut hf3, x13.n⟩, hf3, upd_same, ?_⟩
    rw [if_pos rfl]
    exact (ia.mono x23.f).append (.cons i3 .nil)
def TsD (X : Cx) (ifs : List Expr) (ρ : List Sl) (k : Bool) : Prop := match ifs with
  | [] => k = true
  | [c] => ET X noW noX c ρ k
  | _ => False
/-- a clause's tests as they are -/
theorem pts_w {X : Cx} : ∀ {ifs : List Expr}, (∃ ρ k, TsD X ifs ρ k) → ∃ t, PTs X ifs t ∧ ∀ ρ k, TsD X ifs ρ k → ∀ B F H σ (Q : Bool → Hp → Prop), En X.K B F H σ ρ → (∀ F' H', Ext F H F' H' → Q k H') → t σ H Q
  | [], _ => ⟨tYes, pts_nil, fun ρ k h B F H σ Q E q => by
      have h : k = true := h
      subst h
      exact q F H (Ext.refl E.i)⟩
  | [c], _ => ⟨WT X c, pts_one pt_w, fun ρ k h B F H σ Q E q => h B F H σ Q E xcN q⟩
  | _ :: _ :: _, ⟨_, _, h⟩ => h.elim
def ptsT (X : Cx) : List Expr → TT
  | [] => tYes
  | [c] => WT X c
  | _ => fun _ _ _ => False
theorem pts_T {X : Cx} {ifs : List Expr} (h : ifs.length ≤ 1) : PTs X ifs (ptsT X ifs) := match ifs, h with
  | [], _ => pts_nil
  | [c], _ => pts_one pt_w
theorem pts_run {X : Cx} {ifs : List Expr} {ρ : List Sl} {k : Bool} (h : TsD X ifs ρ k) {B F H : Hp} {σ : L2.St} {Q : Bool → Hp → Prop} (E : En X.K B F H σ ρ) (q : ∀ F' H', Ext F H F' H' → Q k H') : ptsT X ifs σ H Q := match ifs, h with
  | [], h => by
    have h : k = true := h
    subst h
    exact q F H (Ext.refl E.i)
  | [c], h => h B F H σ Q E xcN q
end

/-- the readings of a block, one for all its contexts -/
def WEB (X : Cx) (scope : Scope) (e : Expr) : TE := fun σ H Q => ∀ (s : Shared) (H0 : Hp) (C : Addr) (cl : List (Str × Addr)) (fp : List Addr), WE (X.blk s H0 scope (compEnvC scope cl C X.env) fp) e σ H Q
def WTB (X : Cx) (scope : Scope) (ifs : List Expr) : TT := fun σ H Q => ∀ (s : Shared) (H0 : Hp) (C : Addr) (cl : List (Str × Addr)) (fp : List Addr), ptsT (X.blk s H0 scope (compEnvC scope cl C X.env) fp) ifs σ H Q
section
variable {X : Cx} {W : WX} {ex : Addr → Prop} {e a b c o elt iter : Expr} {es ifs : List Expr} {st : Stmt} {ρ : List Sl} {d : PyData} {ds xs ys : List PyData} {pos p p2 apos tpos spos : Pos} {T : De} {scope : Scope} {n y : Str} {i j : Nat}
theorem pe_wb {s : Shared} {H0 : Hp} {C : Addr} {cl : List (Str × Addr)} {fp : List Addr} : PE (X.blk s H0 scope (compEnvC scope cl C X.env) fp) e (WEB X scope e) := ⟨fun pins s1 σ H Q I h => h s H0 C cl fp pins s1 I⟩
theorem pts_wb {s : Shared} {H0 : Hp} {C : Addr} {cl : List (Str × Addr)} {fp : List Addr} (h : ifs.length ≤ 1) : PTs (X.blk s H0 scope (compEnvC scope cl C X.env) fp) ifs (WTB X scope ifs) := ⟨fun pins s1 σ H Q I q => (pts_T h).run pins s1 σ H Q I (q s H0 C cl fp)⟩

theorem filt_snoc {α : Type} (xs : List α) (b : α → Bool) (g : α → PyData) {i : Nat} {x : α} (h : xs[i]? = some x) : ((xs.take (i + 1)).filter b).map g = if b x = true then ((xs.take i).filter b).map g ++ [g x] else ((xs.take i).filter b).map g := by
  rw [List.take_add_one, h, List.filter_append, List.map_append]
  show _ ++ (List.filter b [x]).map g = _
  cases hb : b x with
  | true => rw [List.filter_cons, if_pos hb, if_pos rfl]; rfl
  | false => rw [List.filter_cons, if_neg (by rw [hb]; exact Bool.false_ne_true), if_neg Bool.false_ne_true]; exact List.append_nil _

/-- what a comprehension asks: the names' side -/
structure LcOk (X : Cx) (scope : Scope) (ifs : List Expr) (n : Str) (j : Nat) (iter : Expr) : Prop where
  calm : X.calm = true
  nd : X.N.Nodup
  blk : BlkOk X.N X.env.scope scope [(n, j)]
  one : ifs.length ≤ 1
  loc : scope.names.lookup n = some .local
  at_ : X.N[j]? = some n
  fset : ∀ x, foldedSetIterable iter X.env x = pure x
theorem lc_tgt (L : LcOk X scope ifs n j iter) (s : Shared) (H : Hp) (C : Addr) (cl : List (Str × Addr)) (fp : List Addr) : PG (X.blk s H scope (compEnvC scope cl C X.env) fp) (.Name n tpos) (gName j) := by
  have h : (X.blk s H scope (compEnvC scope cl C X.env) fp).env.scope.names.lookup n = some .local := lookup_relabel_local (env := X.env) L.loc
  exact pg_name L.nd L.at_ (.inl h) (.inr h)
theorem lc_run {α : Type} {wi : TI} {J : It} {B F1 H1 : Hp} {σ : L2.St} (xs : List α) (q : α → PyData) (bt : α → Bool) (g : α → PyData) (hz : xs.length ≤ 50000)
    (E : En X.K B F1 H1 σ ρ) {Q : VK}
    (hT : ∀ x ∈ xs, Blk X scope fun Y => TsD Y ifs ((ρ.set j .un).set j (.sh (q x))) (bt x)) (hG : ∀ x ∈ xs, bt x = true → Blk X scope fun Y => ED Y noW noX elt ((ρ.set j .un).set j (.sh (q x))) (g x))
    {D : Addr} (hD : H1 D = none)
    (k : ∀ H', Cm X.K F1 H1 D ((xs.filter bt).map g) H' → Q (.ref D) H') :
    ∀ (i : Nat) (x : α) (v : V) (H' : Hp), xs[i]? = some x → Is X.K F1 v (q x) → Cm X.K F1 H1 D (((xs.take i).filter bt).map g) H' →
      (gName j v (wipe σ [j]) H' fun σ2 H2 => wipe σ2 [j] = wipe σ [j] ∧ WTB X scope ifs σ2 H2 fun b H3 => if b = true then WEB X scope elt σ2 H3 fun y H4 => ∃ acc, H4 D = some (.lst acc) ∧ acc.length < sizeLine ∧ Cm X.K F1 H1 D (((xs.take (i + 1)).filter bt).map g) (upd H4 D (.lst (acc ++ [y]))) else Cm X.K F1 H1 D (((xs.take (i + 1)).filter bt).map g) H3) := by
  intro i x v H' hi iv c
  refine ⟨wipe1, ?_⟩
  rw [filt_snoc xs bt g hi]
  have hm : x ∈ xs := List.mem_of_getElem? hi
  refine cm_turn (α := α) (σ := σ) (B := B) (ρ2 := (ρ.set j .un).set j (.sh (q x))) (fun F H Q E2 k2 s H0 C cl fp => ?_) (fun hk F H Q E2 k2 s H0 C cl fp => ?_) (fun F H x1 => ?_) hD ?_ c
  · exact pts_run (hT x hm s H0 C cl fp) E2 k2
  · exact hG x hm hk s H0 C cl fp B F H _ Q E2 xcN k2
  · exact ((E.ext x1).wipe j).set (s := .sh (q x)) (iv.mono x1.f) rfl
  · rw [List.length_map]
    have h1 := List.length_filter_le bt (xs.take i)
    have h2 := List.length_take_le i xs
    have h3 : (xs.take i).length ≤ xs.length := by rw [List.length_take]; exact Nat.min_le_right _ _
    omega
/-- [elt for n in xs if ..] over a list that stands still -/
theorem lc_over {α : Type} (L : LcOk X scope ifs n j iter) (xs : List α) (q : α → PyData) (bt : α → Bool) (g : α → PyData) (h : EP' X W ex iter ρ (xs.map q)) (hz : xs.length ≤ 50000)
    (hT : ∀ x ∈ xs, Blk X scope fun Y => TsD Y ifs ((ρ.set j .un).set j (.sh (q x))) (bt x)) (hG : ∀ x ∈ xs, bt x = true → Blk X scope fun Y => ED Y noW noX elt ((ρ.set j .un).set j (.sh (q x))) (g x))
    {B F H : Hp} {σ : L2.St} (E : En X.K B F H σ ρ) (c : Xc W ex F H σ) {Q : VK} (k : ∀ r vs F' H', Ext F H F' H' → H r = none → F' r = none → H' r = some (.lst vs) → IsAll X.K F' vs ((xs.filter bt).map g) → Q (.ref r) H') :
    tLc (iList X.K (WE X iter)) (gName j) (WTB X scope ifs) (WEB X scope elt) [j] σ H Q := by
  refine h B F H σ _ E c fun r vs F1 H1 x1 hr i1 => ?_
  have E1 := E.ext x1
  have hsq : ∀ H', Ex H1 H' → SqL X.K H' r vs := fun H' y => by
    rcases hr with hr | hr
    · exact (E1.b.trans y).sql hr
    · exact (x1.i.trans y).sql hr
  refine ⟨r, rfl, ⟨vs, hsq H1 (Ex.refl H1)⟩, fun D hD => lc_list (xs := vs) (fun i H' => Cm X.K F1 H1 D (((xs.take i).filter bt).map g) H') ⟨F1, [], Ext.kept x1.i hD, x1.i.back hD, upd_same, .nil⟩ (fun i H' _ ⟨F', acc, y, _⟩ => hsq H' y.h) ?_ ?_⟩
  · intro i v H' hi hc
    obtain ⟨d', hd, id'⟩ := i1.get' hi
    rw [List.getElem?_map] at hd
    cases hx : xs[i]? with
    | none => rw [hx] at hd; cases hd
    | some x =>
      rw [hx] at hd
      cases hd
      exact lc_run (wi := iList X.K (WE X iter)) (J := Itl X.K r) (Q := Q) xs q bt g hz E1 hT hG hD (fun H' ⟨F', acc, y, f0, h0, ia⟩ => k D acc F' H' (x1.trans y) (x1.h.back hD) f0 h0 ia) i x v H' hx id' hc
  · rintro H' ⟨F', acc, y, f0, h0, ia⟩
    rw [i1.len, List.length_map, List.take_length] at ia
    exact k D acc F' H' (x1.trans y) (x1.h.back hD) f0 h0 ia
theorem el_lc {α : Type} (L : LcOk X scope ifs n j iter) (xs : List α) (q : α → PyData) (bt : α → Bool) (g : α → PyData) (h : EP' X W ex iter ρ (xs.map q)) (hz : xs.length ≤ 50000)
    (hT : ∀ x ∈ xs, Blk X scope fun Y => TsD Y ifs ((ρ.set j .un).set j (.sh (q x))) (bt x)) (hG : ∀ x ∈ xs, bt x = true → Blk X scope fun Y => ED Y noW noX elt ((ρ.set j .un).set j (.sh (q x))) (g x)) :
    EL X W ex (.ListComp elt [⟨.Name n tpos, iter, ifs, 0⟩] scope pos) ρ ((xs.filter bt).map g) := fun B F H σ Q E c k =>
  w_e (pe_lc (own := [(n, j)]) L.calm L.nd (pi_list pe_w) L.blk (lc_tgt L) (fun _ _ _ _ _ => pts_wb L.one) (fun _ _ _ _ _ => pe_wb) L.fset) (lc_over L xs q bt g h hz hT hG E c k)
/-- y = [..] -/
theorem sd_lc {α : Type} (L : LcOk X scope ifs n j iter) (hy : X.N[i]? = some y) (hyl : X.env.scope.names.lookup y = some .local) (xs : List α) (q : α → PyData) (bt : α → Bool) (g : α → PyData) (h : EP' X W (fun C => T.ex C ρ) iter ρ (xs.map q)) (hz : xs.length ≤ 50000)
    (hT : ∀ x ∈ xs, Blk X scope fun Y => TsD Y ifs ((ρ.set j .un).set j (.sh (q x))) (bt x)) (hG : ∀ x ∈ xs, bt x = true → Blk X scope fun Y => ED Y noW noX elt ((ρ.set j .un).set j (.sh (q x))) (g x))
    (hsw : swapsWith (.ListComp elt [⟨.Name n tpos, iter, ifs, 0⟩] scope pos) (some (.Name y p)) spos.line X.env = pure true) (k : ∀ r, T.nx (ρ.set i (.ow r ((xs.filter bt).map g)))) :
    SD X W (.Assign [.Name y p] (.ListComp elt [⟨.Name n tpos, iter, ifs, 0⟩] scope pos) spos) ρ T := fun F0 H0 F H σ D s l =>
  w_s (ps_setLc (own := [(n, j)]) L.calm L.nd hy hyl hsw (pi_list pe_w) L.blk (lc_tgt L) (fun _ _ _ _ _ => pts_wb L.one) (fun _ _ _ _ _ => pe_wb) L.fset)
    (lc_over (Q := fun v H' => D.nx (σ.set i (some v)) H') L xs q bt g h hz hT hG s.e (l.xc s) fun r vs F1 H1 x1 h0 f0 h1 i1 => l.nx _ _ F1 H1 (k r) ⟨s.x.trans x1, s.e.own x1 h0 f0 h1 i1⟩)
/-- .. over range(k) -/
theorem el_lcR {k : Int} (L : LcOk X scope ifs n j (.Call (.Name "range" p) [a] [] p2)) (hg : Gl X ("range" : Str)) (hm : X.mg ("range" : Str) = none) (bt : Nat → Bool) (g : Nat → PyData) (h : ED X W ex a ρ (.int k)) (hk : -(2 ^ 62) ≤ k ∧ k ≤ 50000)
    (hT : ∀ x : Nat, x < k.toNat → Blk X scope fun Y => TsD Y ifs ((ρ.set j .un).set j (.sh (.int x))) (bt x)) (hG : ∀ x : Nat, x < k.toNat → bt x = true → Blk X scope fun Y => ED Y noW noX elt ((ρ.set j .un).set j (.sh (.int x))) (g x))
    (hst : starEach [a] X.env = [(false, eval a X.env)] := by rfl) :
    EL X W ex (.ListComp elt [⟨.Name n tpos, .Call (.Name "range" p) [a] [] p2, ifs, 0⟩] scope pos) ρ (((List.range k.toNat).filter bt).map g) := fun B F H σ Q E c kk =>
  w_e (pe_lc (own := [(n, j)]) L.calm L.nd (pi_range1 hg hm (pa_cons pe_w pa_nil hst) hst) L.blk (lc_tgt L) (fun _ _ _ _ _ => pts_wb L.one) (fun _ _ _ _ _ => pe_wb) L.fset) (by
    refine h B F H σ _ E c fun v F1 H1 x1 i1 => ⟨k, by rw [i1.int_eq], hk.1, by omega, fun D hD => ?_⟩
    refine lc_range (lo := 0) (n := k.toNat) (fun i H' => Cm X.K F1 H1 D ((((List.range k.toNat).take i).filter bt).map g) H') ⟨F1, [], Ext.kept x1.i hD, x1.i.back hD, upd_same, .nil⟩ ?_ ?_
    · intro i H' hi hc
      rw [show (0 : Int) + (i : Int) = (i : Int) from Int.zero_add _]
      exact lc_run (wi := iRng1 (WA X [a])) (J := Itr 0 k.toNat) (Q := Q) (List.range k.toNat) (fun x => .int x) bt g (by rw [List.length_range]; omega) (E.ext x1) (fun x hx => hT x (List.mem_range.mp hx)) (fun x hx => hG x (List.mem_range.mp hx)) hD
        (fun H' ⟨F', acc, y, f0, h0, ia⟩ => kk D acc F' H' (x1.trans y) (x1.h.back hD) f0 h0 ia) i i (.int i) H' (by rw [List.getElem?_range hi]) (.int _) hc
    · rintro H' ⟨F', acc, y, f0, h0, ia⟩
      rw [List.take_of_length_le (by rw [List.length_range]; exact Nat.le_refl _)] at ia
      exact kk D acc F' H' (x1.trans y) (x1.h.back hD) f0 h0 ia)
/-- .. over a text's signs -/
theorem el_lcS {z : Str} (L : LcOk X scope ifs n j iter) (bt : Nat → Bool) (g : Nat → PyData) (h : ED X W ex iter ρ (.str z)) (hz : z.length ≤ 50000)
    (hT : ∀ x ∈ z.cps.toList, Blk X scope fun Y => TsD Y ifs ((ρ.set j .un).set j (.sh (.str ⟨#[x]⟩))) (bt x)) (hG : ∀ x ∈ z.cps.toList, bt x = true → Blk X scope fun Y => ED Y noW noX elt ((ρ.set j .un).set j (.sh (.str ⟨#[x]⟩))) (g x)) :
    EL X W ex (.ListComp elt [⟨.Name n tpos, iter, ifs, 0⟩] scope pos) ρ ((z.cps.toList.filter bt).map g) := fun B F H σ Q E c kk =>
  w_e (pe_lc (own := [(n, j)]) L.calm L.nd (pi_str pe_w) L.blk (lc_tgt L) (fun _ _ _ _ _ => pts_wb L.one) (fun _ _ _ _ _ => pe_wb) L.fset) (by
    refine h B F H σ _ E c fun v F1 H1 x1 i1 => ⟨z, i1.str_eq, fun D hD => ?_⟩
    have sz : z.cps.size = z.cps.toList.length := by simp
    refine ⟨fun i m H' => m = z.cps.size - i ∧ Cm X.K F1 H1 D (((z.cps.toList.take i).filter bt).map g) H', ⟨z.cps.size, by omega, F1, [], Ext.kept x1.i hD, x1.i.back hD, upd_same, .nil⟩, ?_⟩
    rintro i m H' ⟨rfl, hc⟩
    by_cases hi : i < z.cps.size
    · refine .inr ⟨hi, fun H2 => Cm X.K F1 H1 D (((z.cps.toList.take (i + 1)).filter bt).map g) H2, fun H2 q => ⟨z.cps.size - (i + 1), by omega, rfl, q⟩, ?_⟩
      rintro x H2 ⟨rfl, cc, hcc, rfl⟩
      have hi2 : z.cps.toList[i]? = some cc := by rw [Array.getElem?_toList]; exact hcc
      exact lc_run (wi := iStr (WE X iter)) (J := Its z) (Q := Q) z.cps.toList (fun x => .str ⟨#[x]⟩) bt g (by rw [← sz]; exact hz) (E.ext x1) hT hG hD
        (fun H' ⟨F', acc, y, f0, h0, ia⟩ => kk D acc F' H' (x1.trans y) (x1.h.back hD) f0 h0 ia) i cc _ H2 hi2 (.str _) hc
    · refine .inl ⟨by show z.cps.size ≤ i; omega, ?_⟩
      obtain ⟨F', acc, y, f0, h0, ia⟩ := hc
      rw [List.take_of_length_le (by rw [← sz]; omega)] at ia
      exact kk D acc F' H' (x1.trans y) (x1.h.back hD) f0 h0 ia)
end
end PD

set_option maxHeartbeats 4000000
namespace PD
open PySem L2 PyProof.Rows

/-! ### defs: what they come to, told by data -/
inductive DOut where
  | val (d : PyData)
  | new (ds : List PyData)
  | exc (C : Addr)
def Got (K : PySem.W.Frag) (F H : Hp) (Q : VK) (E : XK) : DOut → Prop
  | .val d => ∀ v F' H', Ext F H F' H' → Is K F' v d → Q v H'
  | .new ds => ∀ p vs F' H', Ext F H F' H' → H p = none → F' p = none → H' p = some (.lst vs) → IsAll K F' vs ds → Q (.ref p) H'
  | .exc C => ∀ F' H', Ext F H F' H' → E (.ref C) none H'
def spD (K : PySem.W.Frag) (n : Nat) (R : List Sl → DOut → Prop) : Sp := fun vs H Q E => ∃ F as o, Ex F H ∧ AgsOk K F H vs as ∧ as.length = n ∧ R as o ∧ Got K F H Q E o
def deOf : DOut → De
  | .val d => { nx := fun _ => d = .none, rt := fun d' => d' = d, rl := fun ds => d = .list ds }
  | .new ds => { nx := fun _ => False, rl := fun ds' => ds' = ds }
  | .exc C => { nx := fun _ => False, ex := fun C' _ => C' = C }
/-- a def that can be called by its name -/
structure Cal (P : Program) (w : World) (K : PySem.W.Frag) (mg : Str → Option Value) (base : Heap) (k : Nat) (x : Str) (n : Nat) (R : List Sl → DOut → Prop) : Prop where
  ex : ∃ (f : Addr) (fd : FuncData) (ps : List Str), FnOk P w K mg base (L2N.CX P w) k f fd ps (spD K n R) ∧ mg x = some (.ref f) ∧ PySem.W.keepIn K (.ref f) = true ∧ Binds K fd ps []

theorem lk_of {K : PySem.W.Frag} {F H : Hp} {Q : VK} {E : XK} {N : List Str} : ∀ {o : DOut}, Got K F H Q E o → Lk K (fun c d _ H' => E c d H') F H (deOf o) { nx := fun _ H' => Q .non H', rt := Q }
  | .val d, g => ⟨fun ρ σ F1 H1 q s => by
      have q : d = .none := q
      subst q
      exact g .non F1 H1 s.x .non, fun d' v F1 H1 q x i => by
      have q : d' = d := q
      subst q
      exact g v F1 H1 x i, fun ds p vs F1 H1 q x h0 f0 h1 i => by
      have q : d = .list ds := q
      subst q
      exact g (.ref p) _ H1 (x.told h0 f0 h1) (.lst upd_same (i.mono (Ex.new f0))), fun _ _ _ _ q => q.elim, fun _ _ _ _ q => q.elim, fun _ _ _ _ _ q => q.elim⟩
  | .new ds, g => ⟨fun _ _ _ _ q => q.elim, fun _ _ _ _ q => q.elim, fun ds' p vs F1 H1 q x h0 f0 h1 i => by
      have q : ds' = ds := q
      subst q
      exact g p vs F1 H1 x h0 f0 h1 i, fun _ _ _ _ q => q.elim, fun _ _ _ _ q => q.elim, fun _ _ _ _ _ q => q.elim⟩
  | .exc C, g => ⟨fun _ _ _ _ q => q.elim, fun _ _ _ _ q => q.elim, fun _ _ _ _ _ q => q.elim, fun _ _ _ _ q => q.elim, fun _ _ _ _ q => q.elim, fun C' ρ σ F1 H1 q s => by
      have q : C' = C := q
      subst q
      exact g F1 H1 s.x⟩
theorem ags_sl {K : PySem.W.Frag} {F H : Hp} : ∀ {vs : List V} {as : List Sl}, AgsOk K F H vs as → ∀ (j : Nat) (s : Sl), as[j]? = some s → ∃ v, vs[j]? = some v ∧ SlOk K H F H (some v) s ∧ s.free = true
  | _, _, .nil, j, s, e => by simp at e
  | _ :: _, a :: _, .cons h t, 0, s, e => by
    have e : some a = some s := e
    cases e
    refine ⟨_, rfl, ?_⟩
    cases a with
    | un => exact h.elim
    | sh d => exact ⟨h, rfl⟩
    | bo ds => exact ⟨h, rfl⟩
    | raw w => exact ⟨h, rfl⟩
    | ow l ds => exact h.elim
  | _, _, .cons h t, j + 1, s, e => ags_sl t j s e
theorem paired_len {α β : Type} {R : α → β → Prop} : ∀ {xs : List α} {ys : List β}, Paired R xs ys → xs.length = ys.length
  | _, _, .nil => rfl
  | _, _, .cons _ t => congrArg (· + 1) (paired_len t)
theorem en_start {K : PySem.W.Frag} {F H : Hp} {vs : List V} {as : List Sl} (N : List Str) (i : Ex F H) (h : AgsOk K F H vs as) (hl : as.length ≤ N.length) : En K H F H (L2.start N vs) (as ++ List.replicate (N.length - as.length) .un) := by
  have hv : vs.length = as.length := paired_len h
  refine ⟨i, Ex.refl H, fun j s e => ?_, fun a b l ds es ea eb => ?_⟩
  · by_cases hj : j < as.length
    · rw [List.getElem?_append_left hj] at e
      obtain ⟨v, e1, h1, _⟩ := ags_sl h j s e
      refine ⟨some v, ?_, h1⟩
      unfold L2.start
      rw [List.getElem?_append_left (by rw [List.length_map, hv]; exact hj), List.getElem?_map, e1]; rfl
    · rw [List.getElem?_append_right (by omega), List.getElem?_replicate] at e
      split at e
      · cases e
        refine ⟨none, ?_, trivial⟩
        unfold L2.start
        rw [List.getElem?_append_right (by rw [List.length_map, hv]; omega), List.length_map, hv, List.getElem?_replicate, if_pos (by assumption)]
      · cases e
  · by_cases hj : a < as.length
    · rw [List.getElem?_append_left hj] at ea
      obtain ⟨_, _, _, f⟩ := ags_sl h a _ ea
      cases f
    · rw [List.getElem?_append_right (by omega), List.getElem?_replicate] at ea
      split at ea <;> cases ea
section
variable {P : Program} {w : World} {K : PySem.W.Frag} {mg : Str → Option Value} {base : Heap}
/-- THE RULE for a def -/
theorem fnD {x qual : Str} {st : Stmt} {f : Addr} {fd : FuncData} {N ps : List Str} {k : Nat} {R : List Sl → DOut → Prop} (F : Fun K x qual st f fd) (S : FnScope N ps (defScope st)) (hl : ps.length ≤ N.length)
    (hbody : ∀ (cdv : Value) (A : Around) (outer : List PySem.Env) (s : Shared) (H : Hp) (E : XK) (as : List Sl) (o : DOut), Room k (A.deeper (envOfC qual (defScope st) s.heap.objs.size f cdv)) → as.length = ps.length → R as o →
      SDs (cxOf (L2N.CX P w) P w K mg base N qual (defScope st) f cdv A outer s H E) (fun c d _ H' => E c d H') (defBody st) (as ++ List.replicate (N.length - as.length) .un) (deOf o)) : FnOk P w K mg base (L2N.CX P w) (k + 1) f fd ps (spD K ps.length R) := by
  obtain ⟨oc, od, kV, doc, pm, an, cdv, ct, osl, rfl, lk, hcd⟩ := F.ex
  refine fn_of lk hcd S (fun vs H Q E ⟨F, as, o, _, h, hn, _⟩ => (paired_len h).trans hn) fun A outer s H vs Q E hr ⟨F0, as, o, i0, h, hn, hR, g⟩ => ?_
  refine ⟨WSs _ (defBody st), pss_w, ?_⟩
  have E0 := en_start N i0 h (by omega)
  exact hbody cdv A outer s H E as o hr hn hR F0 H F0 H (L2.start N vs) _ ⟨Ext.refl i0, E0⟩ (lk_of (N := N) g)
theorem takesN0 {X : Cx} : L2N.Takes X (fun _ _ _ _ => False) := fun u s' ⟨_, _, _, _, _, _, _, _, _, _, _, _, _, _, _, _, w⟩ => w.elim
end
section
variable {X : Cx} {W : WX} {ex : Addr → Prop} {e a b : Expr} {es : List Expr} {ρ as : List Sl} {d : PyData} {ds : List PyData} {pos p : Pos} {k n : Nat} {x : Str} {R : List Sl → DOut → Prop}
theorem call_w (C : Cal X.prog X.w X.K X.mg X.base k x n R) (hr : Room k X.A) (hg : Gl X x) (tk : L2N.Takes X W) (ha : EA X W ex (e :: es) ρ as) (hn : as.length = n) {o : DOut} (hR : R as o)
    (hdb : (x == ("__debug__" : Str)) = false := by decide) (he : starEach (e :: es) X.env = (false, eval e X.env) :: starEach es X.env := by rfl) (hpl : (backTo pos (starEach es X.env)).any (·.1) = false := by rfl)
    {B F H : Hp} {σ : L2.St} {Q : VK} (E : En X.K B F H σ ρ) (c : Xc W ex F H σ) (q : ∀ F1 H1, Ext F H F1 H1 → Got X.K F1 H1 Q (L2.WE W σ) o) : PD.WE X (.Call (.Name x p) (e :: es) [] pos) σ H Q := by
  obtain ⟨f, fd, ps, Fn, hm, hk, hb⟩ := C.ex
  exact w_e (pe_callS Fn hr hg hm hk hb (fun σ => L2N.passAt tk σ) pa_w hdb he hpl) (ha B F H σ _ E c fun vs F1 H1 x1 i1 => ⟨F1, as, o, x1.i, i1, hn, hR, q F1 H1 x1⟩)
/-- f(..), a value -/
theorem ed_call (C : Cal X.prog X.w X.K X.mg X.base k x n R) (hr : Room k X.A) (hg : Gl X x) (tk : L2N.Takes X W) (ha : EA X W ex (e :: es) ρ as) (hn : as.length = n) (hR : R as (.val d))
    (hdb : (x == ("__debug__" : Str)) = false := by decide) (he : starEach (e :: es) X.env = (false, eval e X.env) :: starEach es X.env := by rfl) (hpl : (backTo pos (starEach es X.env)).any (·.1) = false := by rfl) : ED X W ex (.Call (.Name x p) (e :: es) [] pos) ρ d := fun B F H σ Q E c q =>
  call_w C hr hg tk ha hn hR hdb he hpl E c fun F1 H1 x1 v F2 H2 x2 i2 => q v F2 H2 (x1.trans x2) i2
theorem el_call (C : Cal X.prog X.w X.K X.mg X.base k x n R) (hr : Room k X.A) (hg : Gl X x) (tk : L2N.Takes X W) (ha : EA X W ex (e :: es) ρ as) (hn : as.length = n) (hR : R as (.new ds))
    (hdb : (x == ("__debug__" : Str)) = false := by decide) (he : starEach (e :: es) X.env = (false, eval e X.env) :: starEach es X.env := by rfl) (hpl : (backTo pos (starEach es X.env)).any (·.1) = false := by rfl) : EL X W ex (.Call (.Name x p) (e :: es) [] pos) ρ ds := fun B F H σ Q E c q =>
  call_w C hr hg tk ha hn hR hdb he hpl E c fun F1 H1 x1 r vs F2 H2 x2 h0 f0 h1 i1 => q r vs F2 H2 (x1.trans x2) (x1.h.back h0) f0 h1 i1
/-- f(..), raised -/
theorem ed_callX (C : Cal X.prog X.w X.K X.mg X.base k x n R) (hr : Room k X.A) (hg : Gl X x) (tk : L2N.Takes X W) (ha : EA X W ex (e :: es) ρ as) (hn : as.length = n) {D : Addr} (hR : R as (.exc D)) (hD : ex D)
    (hdb : (x == ("__debug__" : Str)) = false := by decide) (he : starEach (e :: es) X.env = (false, eval e X.env) :: starEach es X.env := by rfl) (hpl : (backTo pos (starEach es X.env)).any (·.1) = false := by rfl) : ED X W ex (.Call (.Name x p) (e :: es) [] pos) ρ d := fun B F H σ Q E c q =>
  call_w C hr hg tk ha hn hR hdb he hpl E c fun F1 H1 x1 F2 H2 x2 => c D F2 H2 hD (x1.trans x2)
end
/-! names in a def, in a block -/
section
theorem vis_rel {scope : Scope} {env : PySem.Env} {n : Str} (h : scope.names.lookup n = some .local ∨ scope.names.lookup n = some .cell ∨ scope.names.lookup n = some .free) : Vis (relabel scope env) n := by
  have go : ∀ names : List (Str × NameKind), (names.lookup n = some .local ∨ names.lookup n = some .cell ∨ names.lookup n = some .free) →
      ((names.map fun (n, k) => if (k == NameKind.free && env.scope.kind == .function && env.kindOf n == some .cell) then (n, NameKind.cell) else (n, k)).lookup n = some .local ∨
       (names.map fun (n, k) => if (k == NameKind.free && env.scope.kind == .function && env.kindOf n == some .cell) then (n, NameKind.cell) else (n, k)).lookup n = some .cell ∨
       (names.map fun (n, k) => if (k == NameKind.free && env.scope.kind == .function && env.kindOf n == some .cell) then (n, NameKind.cell) else (n, k)).lookup n = some .free) := by
    intro names
    induction names with
    | nil => intro h; simp at h
    | cons y r ih =>
      obtain ⟨m, k⟩ := y
      intro h
      rw [List.map_cons]
      cases hb : n == m with
      | true =>
        simp only [List.lookup_cons, hb] at h
        dsimp only
        by_cases hc : (k == NameKind.free && env.scope.kind == .function && env.kindOf m == some .cell) = true
        · rw [if_pos hc]; simp only [List.lookup_cons, hb]; exact .inr (.inl trivial)
        · rw [if_neg hc]; simp only [List.lookup_cons, hb]; exact h
      | false =>
        simp only [List.lookup_cons, hb] at h
        dsimp only
        by_cases hc : (k == NameKind.free && env.scope.kind == .function && env.kindOf m == some .cell) = true
        · rw [if_pos hc]; simp only [List.lookup_cons, hb]; exact ih h
        · rw [if_neg hc]; simp only [List.lookup_cons, hb]; exact ih h
  exact go scope.names h
theorem gl_rel {scope : Scope} {env : PySem.Env} {n : Str} (h : scope.names.lookup n = some .globalImplicit) : (relabel scope env).names.lookup n = some .globalImplicit := by
  have go : ∀ names : List (Str × NameKind), names.lookup n = some .globalImplicit →
      (names.map fun (n, k) => if (k == NameKind.free && env.scope.kind == .function && env.kindOf n == some .cell) then (n, NameKind.cell) else (n, k)).lookup n = some .globalImplicit := by
    intro names
    induction names with
    | nil => intro h; simp at h
    | cons y r ih =>
      obtain ⟨m, k⟩ := y
      intro h
      rw [List.map_cons]
      cases hb : n == m with
      | true =>
        simp only [List.lookup_cons, hb] at h
        cases h
        dsimp only
        rw [if_neg (show ¬ ((NameKind.globalImplicit == NameKind.free && env.scope.kind == .function && env.kindOf m == some .cell) = true) from by simp)]
        simp only [List.lookup_cons, hb]
      | false =>
        simp only [List.lookup_cons, hb] at h
        dsimp only
        by_cases hc : (k == NameKind.free && env.scope.kind == .function && env.kindOf m == some .cell) = true
        · rw [if_pos hc]; simp only [List.lookup_cons, hb]; exact ih h
        · rw [if_neg hc]; simp only [List.lookup_cons, hb]; exact ih h
  exact go scope.names h
/-- names of a def, checked at once -/
def locB (sc : Scope) (n : Str) : Bool := sc.names.lookup n == some .local || sc.names.lookup n == some .cell
def glB (sc : Scope) (n : Str) : Bool := sc.names.lookup n == some .globalImplicit
theorem loc_of {sc : Scope} {ns : List Str} (h : ns.all (locB sc) = true) {n : Str} (i : Nat) (hn : ns[i]? = some n := by rfl) : Loc sc n := by
  have := List.all_eq_true.mp h n (List.mem_of_getElem? hn)
  unfold locB at this
  rw [Bool.or_eq_true] at this
  rcases this with q | q
  · exact .inl (eq_of_beq q)
  · exact .inr (eq_of_beq q)
theorem vis_of {sc : Scope} {n : Str} (h : Loc sc n) : Vis sc n := by
  rcases h with q | q
  · exact .inl q
  · exact .inr (.inl q)
theorem gl_of {sc : Scope} {ns : List Str} (h : ns.all (glB sc) = true) {n : Str} (i : Nat) (hn : ns[i]? = some n := by rfl) : sc.names.lookup n = some .globalImplicit :=
  eq_of_beq (List.all_eq_true.mp h n (List.mem_of_getElem? hn))
end
end PD

set_option maxHeartbeats 4000000
namespace PD
open PySem L2 PyProof.Rows
/-! comparisons, as values and as tests -/
structure Cd (X : Cx) (op : CmpOp) (x y : PyData) (k : Bool) : Prop where
  ex : ∃ r, OpR X (compareOp op) r ∧ R2D X.K r x y (.bool k)
section
variable {X : Cx} {W : WX} {ex : Addr → Prop} {e a b c : Expr} {ρ : List Sl} {x y z : PyData} {pos : Pos} {op op' : CmpOp} {k l : Bool}
theorem cd_lt {i j : Int} : Cd X .Lt (.int i) (.int j) (decide (i < j)) := ⟨_, op_lt, r2_B (g := fun i j => decide (i < j))⟩
theorem cd_le {i j : Int} : Cd X .LtE (.int i) (.int j) (decide (i ≤ j)) := ⟨_, op_le, r2_B (g := fun i j => decide (i ≤ j))⟩
theorem cd_gt {i j : Int} : Cd X .Gt (.int i) (.int j) (decide (j < i)) := ⟨_, op_gt, r2_B (g := fun i j => decide (j < i))⟩
theorem cd_ge {i j : Int} : Cd X .GtE (.int i) (.int j) (decide (j ≤ i)) := ⟨_, op_ge, r2_B (g := fun i j => decide (j ≤ i))⟩
theorem cd_eqI {i j : Int} : Cd X .Eq (.int i) (.int j) (decide (i = j)) := ⟨_, op_eq, r2_eqI⟩
theorem cd_neI {i j : Int} : Cd X .NotEq (.int i) (.int j) (!decide (i = j)) := ⟨_, op_ne, r2_neI⟩
theorem cd_eqS {i j : Str} : Cd X .Eq (.str i) (.str j) (decide (i = j)) := ⟨_, op_eq, r2_eqS⟩
theorem cd_neS {i j : Str} : Cd X .NotEq (.str i) (.str j) (!decide (i = j)) := ⟨_, op_ne, r2_neS⟩
theorem r2_eqB {K : PySem.W.Frag} {i j : Bool} : R2D K rEq (.bool i) (.bool j) (.bool (decide (i = j))) := fun v u F H Q i0 hv hu q => by
  rw [hv.bl_eq, hu.bl_eq]
  refine ⟨rfl, ?_⟩
  rw [show decide (V.bl i = V.bl j) = decide (i = j) from by simp]
  exact q _ F H (Ext.refl i0) (.bl _)
theorem r2_neB {K : PySem.W.Frag} {i j : Bool} : R2D K rNe (.bool i) (.bool j) (.bool (!decide (i = j))) := fun v u F H Q i0 hv hu q => by
  rw [hv.bl_eq, hu.bl_eq]
  refine ⟨rfl, ?_⟩
  rw [show decide (V.bl i = V.bl j) = decide (i = j) from by simp]
  exact q _ F H (Ext.refl i0) (.bl _)
theorem cd_eqB {i j : Bool} : Cd X .Eq (.bool i) (.bool j) (decide (i = j)) := ⟨_, op_eq, r2_eqB⟩
theorem cd_neB {i j : Bool} : Cd X .NotEq (.bool i) (.bool j) (!decide (i = j)) := ⟨_, op_ne, r2_neB⟩
theorem cd_ltS {i j : Str} : Cd X .Lt (.str i) (.str j) (decide (i.cps.toList < j.cps.toList)) := ⟨_, op_lt_str, fun v u F H Q i0 hv hu q => ⟨i, j, hv.str_eq, hu.str_eq, q _ F H (Ext.refl i0) (.bl _)⟩⟩
theorem cd_gtS {i j : Str} : Cd X .Gt (.str i) (.str j) (decide (j.cps.toList < i.cps.toList)) := ⟨_, op_gt_str, fun v u F H Q i0 hv hu q => ⟨i, j, hv.str_eq, hu.str_eq, q _ F H (Ext.refl i0) (.bl _)⟩⟩
theorem cd_leS {i j : Str} : Cd X .LtE (.str i) (.str j) (!decide (j.cps.toList < i.cps.toList)) := ⟨_, op_le_str, fun v u F H Q i0 hv hu q => ⟨i, j, hv.str_eq, hu.str_eq, q _ F H (Ext.refl i0) (.bl _)⟩⟩
theorem cd_geS {i j : Str} : Cd X .GtE (.str i) (.str j) (!decide (i.cps.toList < j.cps.toList)) := ⟨_, op_ge_str, fun v u F H Q i0 hv hu q => ⟨i, j, hv.str_eq, hu.str_eq, q _ F H (Ext.refl i0) (.bl _)⟩⟩
theorem cd_eqD (hu : X.A.units + 64 < cLine) (hx : SeqAt.shaped x = true) (hy : SeqAt.shaped y = true) : Cd X .Eq x y (PyData.eqv x y) := ⟨_, op_eqD hu, fun v u F H Q i0 hv hu q => ⟨x, y, (hv.mono i0).dp, (hu.mono i0).dp, hx, hy, q _ F H (Ext.refl i0) (.bl _)⟩⟩
theorem cd_neD (hu : X.A.units + 64 < cLine) (hx : SeqAt.shaped x = true) (hy : SeqAt.shaped y = true) : Cd X .NotEq x y (!PyData.eqv x y) := ⟨_, op_neD hu, fun v u F H Q i0 hv hu q => ⟨x, y, (hv.mono i0).dp, (hu.mono i0).dp, hx, hy, q _ F H (Ext.refl i0) (.bl _)⟩⟩
theorem cd_inC {m : Nat} {w : Str} : Cd X .In (.str ⟨#[m]⟩) (.str w) (decide (m ∈ w.cps.toList)) := ⟨_, op_in_sign, fun v u F H Q i0 hv hu q => ⟨m, w, hv.str_eq, hu.str_eq, q _ F H (Ext.refl i0) (.bl _)⟩⟩
theorem cd_niC {m : Nat} {w : Str} : Cd X .NotIn (.str ⟨#[m]⟩) (.str w) (!decide (m ∈ w.cps.toList)) := ⟨_, op_notIn_sign, fun v u F H Q i0 hv hu q => ⟨m, w, hv.str_eq, hu.str_eq, q _ F H (Ext.refl i0) (.bl _)⟩⟩
theorem cd_isN : Cd X .Is x .none (isNone x) := ⟨_, op_isN, fun v u F H Q i0 hv hu q => ⟨hu.non_eq, by
    have e : decide (v = V.non) = isNone x := by cases hv <;> rfl
    rw [e]; exact q _ F H (Ext.refl i0) (.bl _)⟩⟩
theorem cd_notN : Cd X .IsNot x .none (!isNone x) := ⟨_, op_notN, fun v u F H Q i0 hv hu q => ⟨hu.non_eq, by
    have e : (!decide (v = V.non)) = (!isNone x) := by cases hv <;> rfl
    rw [e]; exact q _ F H (Ext.refl i0) (.bl _)⟩⟩
theorem cd_inT {i : Str} {zs : List Str} : Cd X .In (.str i) (.tuple (zs.map .str)) (decide (i ∈ zs)) := ⟨_, op_in_seq, fun v u F H Q i0 hv hu q => by
    rw [hv.str_eq]
    cases hu with
    | tup hs a =>
    rw [a.strs_eq] at hs
    refine ⟨_, _, rfl, .inr (i0.sqt hs), rfl, flat_strs zs, ?_⟩
    rw [if_neg Bool.false_ne_true, inV_strs]
    exact q _ F H (Ext.refl i0) (.bl _)⟩
theorem cd_niT {i : Str} {zs : List Str} : Cd X .NotIn (.str i) (.tuple (zs.map .str)) (!decide (i ∈ zs)) := ⟨_, op_notIn_seq, fun v u F H Q i0 hv hu q => by
    rw [hv.str_eq]
    cases hu with
    | tup hs a =>
    rw [a.strs_eq] at hs
    refine ⟨_, _, rfl, .inr (i0.sqt hs), rfl, flat_strs zs, ?_⟩
    rw [if_pos rfl, inV_strs]
    exact q _ F H (Ext.refl i0) (.bl _)⟩
theorem ed_c (h : Cd X op x y k) (ha : ED X W ex a ρ x) (hb : ED X W ex b ρ y) (hm : behindInMarks op b = false := by rfl) : ED X W ex (.Compare a [op] [b] pos) ρ (.bool k) := by
  obtain ⟨r, ho, hr⟩ := h.ex
  exact ed_cmp ho ha hb hm hr
theorem et_c (h : Cd X op x y k) (ha : ED X W ex a ρ x) (hb : ED X W ex b ρ y) (hm : behindInMarks op b = false := by rfl) : ET X W ex (.Compare a [op] [b] pos) ρ k := by
  obtain ⟨r, ho, hr⟩ := h.ex
  exact fun B F H σ Q E c q => w_t (pt_cmpR ho pe_w pe_w hm) (ha B F H σ _ E c fun v F1 H1 x1 i1 => hb B F1 H1 σ _ (E.ext x1) (c.ext x1) fun u F2 H2 x2 i2 => hr v u F2 H2 _ x2.i (i1.mono x2.f) i2 fun t F3 H3 x3 i3 => ⟨k, i3.bl_eq, q F3 H3 ((x1.trans x2).trans x3)⟩)
theorem et_inL {i : Str} {zs : List Str} (ha : ED X W ex a ρ (.str i)) (hb : EB X W ex b ρ (zs.map .str)) (hm : behindInMarks .In b = false := by rfl) : ET X W ex (.Compare a [.In] [b] pos) ρ (decide (i ∈ zs)) := fun B F H σ Q E c q =>
  w_t (pt_cmpR op_in_seq pe_w pe_w hm) (ha B F H σ _ E c fun v F1 H1 x1 i1 => hb B F1 H1 σ _ (E.ext x1) (c.ext x1) fun p vs F2 H2 x2 hs i2 => by
    rw [i1.str_eq]
    rw [i2.strs_eq] at hs
    refine ⟨p, _, rfl, .inl hs, rfl, flat_strs zs, ?_⟩
    rw [if_neg Bool.false_ne_true, inV_strs]
    exact ⟨_, rfl, q F2 H2 (x1.trans x2)⟩)
theorem et_niL {i : Str} {zs : List Str} (ha : ED X W ex a ρ (.str i)) (hb : EB X W ex b ρ (zs.map .str)) (hm : behindInMarks .NotIn b = false := by rfl) : ET X W ex (.Compare a [.NotIn] [b] pos) ρ (!decide (i ∈ zs)) := fun B F H σ Q E c q =>
  w_t (pt_cmpR op_notIn_seq pe_w pe_w hm) (ha B F H σ _ E c fun v F1 H1 x1 i1 => hb B F1 H1 σ _ (E.ext x1) (c.ext x1) fun p vs F2 H2 x2 hs i2 => by
    rw [i1.str_eq]
    rw [i2.strs_eq] at hs
    refine ⟨p, _, rfl, .inl hs, rfl, flat_strs zs, ?_⟩
    rw [if_pos rfl, inV_strs]
    exact ⟨_, rfl, q F2 H2 (x1.trans x2)⟩)
theorem ed_ch (h1 : Cd X op x y k) (h2 : Cd X op' y z l) (ha : ED X W ex a ρ x) (hb : ED X W ex b ρ y) (hc : ED X W ex c ρ z) (hm : lastMarks [op, op'] [b, c] = false := by rfl) : ED X W ex (.Compare a [op, op'] [b, c] pos) ρ (.bool (k && l)) := by
  obtain ⟨r, ho, hr⟩ := h1.ex
  obtain ⟨r', ho', hr'⟩ := h2.ex
  exact ed_chain ho ho' ha hb hc hr hr' hm
theorem et_ch (h1 : Cd X op x y k) (h2 : Cd X op' y z l) (ha : ED X W ex a ρ x) (hb : ED X W ex b ρ y) (hc : ED X W ex c ρ z) (hm : lastMarks [op, op'] [b, c] = false := by rfl) : ET X W ex (.Compare a [op, op'] [b, c] pos) ρ (k && l) := by
  obtain ⟨r, ho, hr⟩ := h1.ex
  obtain ⟨r', ho', hr'⟩ := h2.ex
  refine fun B F H σ Q E g q => w_t (pt_chain ho ho' pe_w pe_w pe_w hm) (ha B F H σ _ E g fun v F1 H1 x1 i1 => hb B F1 H1 σ _ (E.ext x1) (g.ext x1) fun u F2 H2 x2 i2 => hr v u F2 H2 _ x2.i (i1.mono x2.f) i2 fun t F3 H3 x3 i3 => ⟨k, i3.bl_eq, ?_⟩)
  have x13 := (x1.trans x2).trans x3
  cases k with
  | false => exact iteF ⟨_, rfl, q F3 H3 x13⟩
  | true => exact iteT (hc B F3 H3 σ _ (E.ext x13) (g.ext x13) fun t4 F4 H4 x4 i4 => hr' u t4 F4 H4 _ x4.i ((i2.mono x3.f).mono x4.f) i4 fun t5 F5 H5 x5 i5 => ⟨l, i5.bl_eq, q F5 H5 ((x13.trans x4).trans x5)⟩)
end
end PD

set_option maxHeartbeats 4000000
namespace PD
theorem le_b {a b : Nat} (h : Nat.ble a b = true := by rfl) : a ≤ b := Nat.le_of_ble_eq_true h
open PySem L2 PyProof.Rows
section
variable {X : Cx} {W : WX} {ex : Addr → Prop} {e a b c : Expr} {ρ ρ' : List Sl} {d x y z : PyData} {ds : List PyData} {pos : Pos} {n : Str} {sc : Scope} {ns : List Str} {l : Addr} {st : Stmt} {sts : List Stmt} {T : De}
/-! a def's own names -/
theorem ed_v (lo : ns.all (locB sc) = true) (i : Nat) (hN : X.N[i]? = some n := by rfl) (hn : ns[i]? = some n := by rfl) (hs : ρ[i]? = some (.sh d) := by rfl) (hsc : X.env.scope = sc := by rfl) (hd : (n == ("__debug__" : Str)) = false := by decide) (hcd : (n == ("__classdict__" : Str)) = false := by decide) : ED X W ex (.Name n pos) ρ d :=
  ed_at hN (by rw [hsc]; exact vis_of (loc_of lo i hn)) hs hd hcd
theorem ep_v (lo : ns.all (locB sc) = true) (i : Nat) (hN : X.N[i]? = some n := by rfl) (hn : ns[i]? = some n := by rfl) (hs : ρ[i]? = some (.bo ds) := by rfl) (hsc : X.env.scope = sc := by rfl) (hd : (n == ("__debug__" : Str)) = false := by decide) (hcd : (n == ("__classdict__" : Str)) = false := by decide) : EP' X W ex (.Name n pos) ρ ds :=
  eb_bo hN (by rw [hsc]; exact vis_of (loc_of lo i hn)) hs hd hcd
theorem eb_v (lo : ns.all (locB sc) = true) (i : Nat) (hN : X.N[i]? = some n := by rfl) (hn : ns[i]? = some n := by rfl) (hs : ρ[i]? = some (.ow l ds) := by rfl) (hsc : X.env.scope = sc := by rfl) (hd : (n == ("__debug__" : Str)) = false := by decide) (hcd : (n == ("__classdict__" : Str)) = false := by decide) : EB X W ex (.Name n pos) ρ ds :=
  eb_ow hN (by rw [hsc]; exact vis_of (loc_of lo i hn)) hs hd hcd
theorem eraw_v {es : List Expr} {as : List Sl} {w : V} (lo : ns.all (locB sc) = true) (i : Nat) (r : EA X W ex es ρ as) (hN : X.N[i]? = some n := by rfl) (hn : ns[i]? = some n := by rfl) (hs : ρ[i]? = some (.raw w) := by rfl) (hsc : X.env.scope = sc := by rfl) (h1 : starEach (.Name n pos :: es) X.env = (false, eval (.Name n pos) X.env) :: starEach es X.env := by rfl) (hd : (n == ("__debug__" : Str)) = false := by decide) (hcd : (n == ("__classdict__" : Str)) = false := by decide) : EA X W ex (.Name n pos :: es) ρ (.raw w :: as) :=
  ea_raw hN (by rw [hsc]; exact vis_of (loc_of lo i hn)) hs r h1 hd hcd
end
section
variable {X : Cx} {W : WX} {ex : Addr → Prop} {ρ : List Sl} {d : PyData} {ds : List PyData} {pos : Pos} {n : Str} {l : Addr} {s : Shared} {H : Hp} {scope : Scope} {C : Addr} {cl : List (Str × Addr)} {fp : List Addr}
/-! names in a block -/
theorem ed_b (i : Nat) (hN : X.N[i]? = some n := by rfl) (hv : scope.names.lookup n = some .local ∨ scope.names.lookup n = some .cell ∨ scope.names.lookup n = some .free := by first | exact .inl rfl | exact .inr (.inr rfl) | exact .inr (.inl rfl)) (hs : ρ[i]? = some (.sh d) := by rfl)
    (hd : (n == ("__debug__" : Str)) = false := by decide) (hcd : (n == ("__classdict__" : Str)) = false := by decide) : ED (X.blk s H scope (compEnvC scope cl C X.env) fp) W ex (.Name n pos) ρ d := ed_at hN (vis_rel (env := X.env) hv) hs hd hcd
theorem ep_b (i : Nat) (hN : X.N[i]? = some n := by rfl) (hv : scope.names.lookup n = some .local ∨ scope.names.lookup n = some .cell ∨ scope.names.lookup n = some .free := by first | exact .inl rfl | exact .inr (.inr rfl) | exact .inr (.inl rfl)) (hs : ρ[i]? = some (.bo ds) := by rfl)
    (hd : (n == ("__debug__" : Str)) = false := by decide) (hcd : (n == ("__classdict__" : Str)) = false := by decide) : EP' (X.blk s H scope (compEnvC scope cl C X.env) fp) W ex (.Name n pos) ρ ds := eb_bo hN (vis_rel (env := X.env) hv) hs hd hcd
theorem eb_b (i : Nat) (hN : X.N[i]? = some n := by rfl) (hv : scope.names.lookup n = some .local ∨ scope.names.lookup n = some .cell ∨ scope.names.lookup n = some .free := by first | exact .inl rfl | exact .inr (.inr rfl) | exact .inr (.inl rfl)) (hs : ρ[i]? = some (.ow l ds) := by rfl)
    (hd : (n == ("__debug__" : Str)) = false := by decide) (hcd : (n == ("__classdict__" : Str)) = false := by decide) : EB (X.blk s H scope (compEnvC scope cl C X.env) fp) W ex (.Name n pos) ρ ds := eb_ow hN (vis_rel (env := X.env) hv) hs hd hcd
theorem gl_b (h : scope.names.lookup n = some .globalImplicit := by rfl) : Gl (X.blk s H scope (compEnvC scope cl C X.env) fp) n := gl_rel (env := X.env) h
end
section
variable {X : Cx} {W : WX} {ex : Addr → Prop} {e a b c : Expr} {ρ ρ' : List Sl} {d x y z : PyData} {ds : List PyData} {pos p : Pos} {n : Str} {sc : Scope} {ns : List Str} {l : Addr} {st : Stmt} {sts ths : List Stmt} {T : De}
theorem ed_neg {i : Int} (h : ED X W ex a ρ (.int i)) : ED X W ex (.UnaryOp .USub a pos) ρ (.int (-i)) := fun B F H σ Q E c q => w_e (pe_un un_neg pe_w) (h B F H σ _ E c fun v F1 H1 x1 i1 => ⟨i, i1.int_eq, q _ F1 H1 x1 (.int _)⟩)
/-- a slot may be forgotten -/
def SlLe (ρ ρ' : List Sl) : Prop := ρ'.length ≤ ρ.length ∧ ∀ (j : Nat) (s : Sl), ρ'[j]? = some s → s = .un ∨ ρ[j]? = some s
theorem SlLe.refl (ρ : List Sl) : SlLe ρ ρ := ⟨Nat.le_refl _, fun j s h => .inr h⟩
theorem SlLe.nil : SlLe [] [] := SlLe.refl _
theorem SlLe.cons {s : Sl} {ρ ρ' : List Sl} (h : SlLe ρ ρ') : SlLe (s :: ρ) (s :: ρ') := ⟨Nat.succ_le_succ h.1, fun j t e => by
  cases j with
  | zero => exact .inr e
  | succ j => exact h.2 j t e⟩
theorem SlLe.forget {s : Sl} {ρ ρ' : List Sl} (h : SlLe ρ ρ') : SlLe (s :: ρ) (.un :: ρ') := ⟨Nat.succ_le_succ h.1, fun j t e => by
  cases j with
  | zero => exact .inl (Option.some.inj e).symm
  | succ j => exact h.2 j t e⟩
theorem En.le {K : PySem.W.Frag} {B F H : Hp} {σ : L2.St} (E : En K B F H σ ρ) (h : SlLe ρ ρ') : En K B F H σ ρ' := by
  refine ⟨E.i, E.b, fun j s e => ?_, fun i j l ds es ei ej => ?_⟩
  · have hj : j < ρ.length := Nat.lt_of_lt_of_le (List.getElem?_eq_some_iff.mp e).1 h.1
    rcases h.2 j s e with rfl | q
    · obtain ⟨o, e1, _⟩ := E.s j _ (List.getElem?_eq_getElem hj)
      exact ⟨o, e1, by cases o <;> trivial⟩
    · exact E.s j s q
  · rcases h.2 i _ ei with q | qi
    · cases q
    · rcases h.2 j _ ej with q | qj
      · cases q
      · exact E.d i j l ds es qi qj
/-- a statement, then the rest from slots that are said -/
theorem sds_cut (ρ' : List Sl) (h : SD X W st ρ { T with nx := fun ρ2 => SlLe ρ2 ρ' }) (k : SDs X W sts ρ' T) : SDs X W (st :: sts) ρ T := fun F0 H0 F H σ D s l =>
  w_ss (pss_cons ps_w pss_w) (h F0 H0 F H σ _ s (l.nxt fun ρ2 σ2 F2 H2 q s2 => k F0 H0 F2 H2 σ2 D ⟨s2.x, s2.e.le q⟩ l))
theorem sds_le (q : SlLe ρ ρ') (k : SDs X W sts ρ' T) : SDs X W sts ρ T := fun F0 H0 F H σ D s l => k F0 H0 F H σ D ⟨s.x, s.e.le q⟩ l
/-- if c: x = e -/
theorem sd_ifset {i : Nat} {k : Bool} {d0 : PyData} (nd : X.N.Nodup) (hN : X.N[i]? = some n) (hl : Loc X.env.scope n) (hfn : X.fn n = true ∨ X.env.scope.names.lookup n = some .local) {spos : Pos}
    (h : ET X W (fun C => T.ex C ρ) c ρ k) (h0 : ρ[i]? = some (.sh d0)) (h1 : k = true → ED X W (fun C => T.ex C ρ) e ρ d) (q : T.nx (ρ.set i (.sh (if k = true then d else d0)))) (hw : swapsWith e (some (.Name n p)) spos.line X.env = pure false := by rfl) : SD X W (.If c [.Assign [.Name n p] e spos] [] pos) ρ T := by
  refine sd_if h (fun hk => ?_) (fun hk => sds_nil ?_)
  · subst hk
    exact sds_one (sd_set nd hN hl hfn (h1 rfl) q hw)
  · subst hk
    have e : ρ.set i (.sh (if false = true then d else d0)) = ρ := by
      rw [if_neg Bool.false_ne_true]
      obtain ⟨hi, he⟩ := List.getElem?_eq_some_iff.mp h0
      rw [← he]
      exact List.set_getElem_self hi
    rw [e] at q
    exact q
end
end PD

set_option maxHeartbeats 4000000
/-! while an exception is handled: a list's end, a comprehension over a list of truths -/
namespace PD
open PySem PySem.Spec PyProof.Rows L2
section
variable {prog : Program} {w : World} {A : Around} {E : Value → Shared → Prop} {s : Shared}
theorem hot_listEnd {it l x1 : Addr} {i : Nat} {items : Array Value} {Q : Option Value → Shared → Prop} (hot : HotX.HotAt A x1 s.heap) (hit : s.heap.IsListIter it l i) (hl : s.heap.IsList l items) (hx : items[i]? = none) (hne : x1 ≠ it)
    (hQ : ∀ h', Heap.ExtBut it s.heap h' → Q none { s with heap := h' }) : wpAny (model prog w) A (pyNext (.ref it)) Q E s := by
  obtain ⟨o, ho, hc, hd⟩ := id hit
  obtain ⟨ol, hol, hcl, nl, hdl⟩ := hl
  obtain ⟨hh, o1, vs1, h1, d1, c1⟩ := hot
  unfold pyNext
  refine wpAny_bind (wpAny_attempt (wpAny_callSpecial?_slot (name := Str.ofString "__next__") hit.typeIs slot_listiter_next (wpAny_call_entry slot_listiter_next hit.typeIs entry_listiter_next ?_ (args_listiter_next _))))
  show wpAny _ _ (field (.ref it) 0 >>= _) _ _ s
  refine wpAny_bind (wpAny_field ho hd (x := .ref l) rfl ?_)
  show wpAny _ _ (if (Value.ref l == Value.none) = true then _ else _) _ _ s
  rw [if_neg (show ¬ ((Value.ref l == Value.none) = true) from Bool.false_ne_true)]
  show wpAny _ _ (field (.ref it) 1 >>= _) _ _ s
  refine wpAny_bind (wpAny_field ho hd (x := .int i 0) rfl ?_)
  show wpAny _ _ (seqItems? (.ref l) >>= _) _ _ s
  refine wpAny_bind (wpAny_seqItems hol hdl ?_)
  simp only [Int.toNat_natCast, hx]
  refine wpAny_bind (wpAny_rule (wpAny_bind (wpAny_setField ho hd (by simp) ?_)))
  show wpAny _ _ (newExc (.type "StopIteration") [] >>= _) _ _ _
  refine wpAny_bind ?_
  simp only [newExc, newTuple]
  refine wpAny_bind (wpAny_newObj_type ?_ (by size_fits))
  refine wpAny_bind (m := firstArgMember _ _) (wpAny_of_eq (a := Value.none) (by first | rfl | (simp only [firstArgMember]; rfl)) ?_)
  refine wpAny_newObj_type ?_ (by size_fits)
  have keep : (s.heap.update it (Obj.mapFields (·.setIfInBounds 0 Value.none))).get? x1 = some o1 := (Heap.get?_update_other _ _ (Ne.symm hne)).trans h1
  have k2 := Heap.get?_push_of_some { cls := .type "tuple", data := .seq ([] : List Value).toArray } keep
  refine HotX.raiseNew_hot (x1 := x1) ⟨hh, o1, vs1, Heap.get?_push_of_some _ k2, d1, c1⟩ (Nat.ne_of_lt (Heap.lt_size k2)) (Heap.get?_push_size _ rfl) rfl (by first | (simp; done) | (simp; omega)) ?_
  refine wpAny_bind (wpAny_isInstance (T := "StopIteration") (b := true) ⟨_, Heap.get?_update_self _ (Heap.get?_push_size _ rfl) rfl, rfl⟩ isSubtype_stop ?_)
  refine wpAny_pure (hQ _ fun b u hb e => ?_)
  have e1 : (s.heap.update it (Obj.mapFields (·.setIfInBounds 0 Value.none))).get? b = some u := (Heap.get?_update_other _ _ (Ne.symm hb)).trans e
  have e2 := Heap.get?_push_of_some { cls := .type "tuple", data := .seq ([] : List Value).toArray } e1
  rw [Heap.get?_update_other _ _ (Nat.ne_of_gt (Heap.lt_size e2))]
  exact Heap.get?_push_of_some _ e2
theorem hot_walks (x1 I ax : Addr) (hne : ax ≠ I) (hx : x1 ≠ I) (items : Array Value) :
    Walks prog w A I [I, ax, x1] [I] items.size (fun i v => items[i]? = some v) (fun i h => h.IsListIter I ax i ∧ h.IsList ax items ∧ HotX.HotAt A x1 h) where
  sub := fun b hb => by simp at hb; simp [hb]
  frame := fun i h h' st hk => ⟨st.1.at fun o e => hk I (by simp) o e, st.2.1.at fun o e => hk ax (by simp) o e, by
    obtain ⟨hh, o, vs, e, d, c⟩ := st.2.2
    exact ⟨hh, o, vs, hk x1 (by simp) o e, d, c⟩⟩
  item := fun i s Q E hi st hQ => by
    refine wpAny_pyNext_list_item st.1 st.2.1 (x := items[i]) (by simp [hi]) fun h' hit' hs' => ?_
    refine hQ _ h' s.toks (by simp [hi]) ⟨hit', st.2.1.extBut hs'.extBut hne, ?_⟩ fun b o hb e => hs'.extBut b o (fun h => hb (by simp [h])) e
    obtain ⟨hh, o, vs, e, d, c⟩ := st.2.2
    exact ⟨hh, o, vs, hs'.extBut x1 o hx e, d, c⟩
  done := fun s Q E st hQ => hot_listEnd st.2.2 st.1 st.2.1 (by simp) hx fun h' he' => hQ h' s.toks fun b o hb e => he' b o (fun h => hb (by simp [h])) e
  self := fun _ _ _ _ st hQ => wpAny_pyIter_listiter st.1 hQ
end
section
variable {X : Cx} {pins : List (Addr × Obj)} {σ : L2.St} {H : Hp} {s : Shared}
theorem inv_laid0 {D : Addr} {o : HO} {t' : Nat} {h' : Heap} (I : Inv X pins σ H s) (k : ∀ b u, s.heap.get? b = some u → h'.get? b = some u) (hD : s.heap.get? D = none) (new : ObjOk X.prog X.w (upd H D o) h' D o) : Inv X pins σ (upd H D o) { s with heap := h', toks := t' } := by
  have hn : H D = none := I.hok.gone hD
  have hb : ∀ b u, s.heap.get? b = some u → b ≠ D := fun b u e z => by rw [z, hD] at e; cases e
  refine I.un ⟨fun b u e _ _ _ => k b u e, fun b u e _ _ _ => ⟨u.slots, k b u e⟩, fun b u e n _ => by rw [upd_ne (hb b u e)]; exact n, fun b u e _ => ⟨u, k b u e⟩, fun b xs e => by rw [upd_ne (ne_of_none e hn)]; exact e,
    fun b u xs e => by rw [upd_ne (ne_of_none e hn)]; exact e, fun b ps e => ⟨#[], by rw [upd_ne (ne_of_none e hn), e]; simp⟩⟩ fun b u e => ?_
  by_cases q : b = D
  · subst q; rw [upd_same] at e; cases e; exact new
  · rw [upd_ne q] at e
    exact (I.hok b u e).stay (fun c v _ z => k c v z) (fun c z => by rw [upd_ne (ne_of_none z hn)]; exact z) fun c xs z => by rw [upd_ne (ne_of_none z hn)]; exact z
end
def isT : Value → Bool
  | .bool b => b
  | _ => false
theorem vals_bl : ∀ {bs : List Bool} {us : List Value}, Vals (bs.map V.bl) us → us = bs.map Value.bool
  | [], _, h => by cases h; rfl
  | b :: bs, _, h => by
    cases h with
    | cons r t => cases r; rw [vals_bl t]; rfl
theorem filt_isT : ∀ bs : List Bool, (bs.map Value.bool).filter isT = (bs.filter id).map Value.bool
  | [] => rfl
  | true :: bs => by rw [List.map_cons, List.filter_cons, if_pos (show isT (.bool true) = true from rfl), filt_isT bs]; rfl
  | false :: bs => by rw [List.map_cons, List.filter_cons, if_neg (show ¬ isT (.bool false) = true from Bool.false_ne_true), filt_isT bs]; rfl
theorem vals_of_bl : ∀ bs : List Bool, Vals (bs.map V.bl) (bs.map Value.bool)
  | [] => .nil
  | b :: bs => .cons rfl (vals_of_bl bs)
theorem paired_eq : ∀ {xs ys : List Value}, Paired (fun v y : Value => v = y) xs ys → xs = ys
  | _, _, .nil => rfl
  | _, _, .cons h t => by rw [h, paired_eq t]
/-- [n for n in .. if n] over truths, while an exception is handled -/
theorem pe_hotLc {X : Cx} {n : Str} {pe px pc pos : Pos} {iter : Expr} {scope : Scope} {ti : TE} (hot : L2H.HotC X) (hi : PE X iter ti) (hcell : ∀ y ∈ scope.names, y.2 ≠ .cell) (hfree : ∀ y ∈ scope.names, y.2 ≠ .free) (hkind : scope.kind = .function)
    (hnames : ∀ y ∈ scope.names, y.2 = .local → scope.names.lookup y.1 = some .local) (hx : scope.names.lookup n = some .local) (hdb : (n == ("__debug__" : Str)) = false := by decide) (hs : ∀ x, foldedSetIterable iter X.env x = pure x := by intro _; rfl) :
    PE X (.ListComp (.Name n pe) [⟨.Name n px, iter, [.Name n pc], 0⟩] scope pos) (fun σ H Q => ti σ H fun v H1 => ∃ (a : Addr) (bs : List Bool), v = .ref a ∧ SqL X.K H1 a (bs.map V.bl) ∧ bs.length ≤ 1000 ∧ ∀ D, H1 D = none → Q (.ref D) (upd H1 D (.lst ((bs.filter id).map V.bl)))) := by
  refine ⟨fun pins s σ H Q I h => ?_⟩
  refine wpAny_ListComp_free (cl := []) isT (fun v y => v = y) ?_ hcell hkind hnames hx (wpAny_mono (hi.run pins s σ H _ I h) (fun v s1 hv => ?_) fun _ _ z => z) hs
  · rw [closure_ok fun y hy e => absurd e (hfree y hy)]
    have : ∀ (names : List (Str × NameKind)) acc, (∀ y ∈ names, y.2 ≠ .free) → cloFrom X.env.cells names acc = acc := by
      intro names
      induction names with
      | nil => intro acc _; rfl
      | cons y r ih =>
        obtain ⟨m, k⟩ := y
        intro acc hy
        unfold cloFrom
        have hk : ¬ (k == NameKind.free) = true := fun q => hy (m, k) List.mem_cons_self (eq_of_beq q)
        rw [if_neg hk]
        exact ih acc fun y hm => hy y (List.mem_cons_of_mem _ hm)
    rw [this _ _ hfree]
  · obtain ⟨v0, H1, I1, rv, a, bs, rfl, hsq, hz, q⟩ := hv
    cases rv
    obtain ⟨its, rl, pl, hl⟩ := I1.list hsq
    have eits : its = bs.map Value.bool := vals_bl rl
    obtain ⟨x1, ht⟩ := hot.at I1
    subst eits
    refine wpAny_pyIter_list pl.isList ?_
    have la : a < s1.heap.objs.size := let ⟨_, e, _⟩ := pl.isList; Heap.lt_size e
    obtain ⟨hh, o1, vs1, e1, d1, c1⟩ := id ht
    have lx : x1 < s1.heap.objs.size := Heap.lt_size e1
    have kp : ∀ b o, s1.heap.get? b = some o → (s1.heap.push { cls := .type "list_iterator", data := .fields #[.ref a, .int 0 0] }).get? b = some o := fun b o e => Heap.get?_push_of_some _ e
    have hsz : (bs.map Value.bool).toArray.size = bs.length := by simp
    refine ⟨s1.heap.objs.size, _, _, _, _, _, rfl, hot_walks x1 s1.heap.objs.size a (Nat.ne_of_lt la) (Nat.ne_of_lt lx) (bs.map Value.bool).toArray, by rw [hsz]; exact Nat.le_trans hz (by decide), ⟨⟨_, Heap.get?_push_size _ rfl, rfl, rfl⟩, pl.isList.at fun o e => kp a o e, hh, o1, vs1, kp x1 o1 e1, d1, c1⟩, fun b hb => ?_, ⟨fun C i v s3 m3 E' hC hP hn hm hk ht => ?_, fun C i v s3 m3 E' hC hP hp hn hm hk ht => ?_⟩, fun D h' tk ys vs hD hl2 hpl hlen hP hF hk => ?_⟩
    · have : b = s1.heap.objs.size ∨ b = a ∨ b = x1 := by simpa using hb
      have h9 : b < s1.heap.objs.size + 1 := by
        rcases this with e | e | e
        · rw [e]; exact Nat.lt_succ_self _
        · rw [e]; exact Nat.lt_succ_of_lt la
        · rw [e]; exact Nat.lt_succ_of_lt lx
      show b < (s1.heap.push { cls := .type "list_iterator", data := .fields #[.ref a, .int 0 0] }).objs.size
      rw [Heap.size_push]
      exact h9
    · have hkn : (compEnvC scope [] C X.env).kindOf n = some .local := lookup_relabel_local (env := X.env) hx
      obtain ⟨b, rfl⟩ : ∃ b, v = Value.bool b := by
        have : v ∈ (bs.map Value.bool).toArray.toList := List.mem_of_getElem? (by rw [Array.getElem?_toList]; exact hP)
        obtain ⟨b, _, e⟩ := List.mem_map.mp (by simpa using this : v ∈ bs.map Value.bool)
        exact ⟨b, e.symm⟩
      refine wpAny_tests_one ?_
      show wpAny _ _ (do let v ← eval (.Name n pc) (compEnvC scope [] C X.env); standAt pc; holding [v] (truthy v)) _ _ _
      refine wpAny_bind (wpAny_Name (wpAny_loadName_local (show (relabel scope X.env).kind = .function from hkind) hkn hn hm (wpAny_bind (wpAny_standAt (wpAny_holding (wpAny_truthy_bool ?_))))) hdb)
      exact ⟨rfl, _, _, rfl, fun _ _ e => e⟩
    · have hkn : (compEnvC scope [] C X.env).kindOf n = some .local := lookup_relabel_local (env := X.env) hx
      exact wpAny_Name (wpAny_loadName_local (show (relabel scope X.env).kind = .function from hkind) hkn hn hm ⟨rfl, _, _, rfl, fun _ _ e => e⟩) hdb
    · have evs : vs = bs.map Value.bool := by
        refine List.ext_getElem (by rw [hlen, hsz, List.length_map]) fun j h1 h2 => ?_
        have := hP j vs[j] (List.getElem?_eq_getElem h1)
        rw [List.getElem?_toArray, List.getElem?_eq_getElem h2] at this
        exact (Option.some.inj this).symm
      subst evs
      rw [filt_isT] at hF
      have ey := paired_eq hF
      have hD1 : s1.heap.get? D = none := by
        cases z : s1.heap.get? D with
        | none => rfl
        | some u => rw [kp D u z] at hD; cases hD
      have k2 : ∀ b u, s1.heap.get? b = some u → h'.get? b = some u := fun b u e => hk b u (by
        have : b ≠ s1.heap.objs.size := Nat.ne_of_lt (Heap.lt_size e)
        simpa using this) (kp b u e)
      refine ⟨.ref D, _, inv_laid0 (s := s1) (t' := tk) (o := .lst ((bs.filter id).map V.bl)) I1 k2 hD1 ⟨?_, (bs.filter id).map Value.bool, ?_⟩, rfl, q D (I1.hok.gone hD1)⟩
      · rw [List.length_map]
        have := List.length_filter_le id bs
        exact Nat.le_trans (Nat.le_trans this hz) (by decide)
      · have e2 : ys = ((bs.filter id).map Value.bool).toArray := by rw [ey]
        obtain ⟨m, hm⟩ := hpl
        rw [e2] at hm
        exact ⟨m, vals_of_bl _, hm⟩
end PD

set_option maxHeartbeats 4000000
/-! a try whose clauses bind the error; a def that is handed the error it is called about -/
namespace PD
open PySem PySem.Spec PyProof.Rows L2
/-- what the clauses, one behind the other, wish of an error: slot i is the bound name's; one of them takes it -/
def wTry (K : PySem.W.Frag) (i : Nat) (D : Ends) : List (Value × (Addr → Value → Option Addr → TS)) → WX
  | [] => fun _ _ _ _ => False
  | (c, ts) :: r => fun cls d σ H => ∃ b, PySem.W.exmOne K cls c = some b ∧
      (b = true → ∀ a, H a = none → ts a cls d ⟨fun σ' H' => D.nx (σ'.set i none) H', D.rt, fun σ' H' => D.bk (σ'.set i none) H', fun σ' H' => D.ct (σ'.set i none) H'⟩ (σ.set i (some (.ref a))) H) ∧ (b = false → wTry K i D r cls d σ H)
inductive Clauses (X : Cx) (n : Str) : List ExceptHandler → List (Value × (Addr → Value → Option Addr → TS)) → Prop
  | nil : Clauses X n [] []
  | cons {x : Str} {c : Value} {ts : Addr → Value → Option Addr → TS} {b0 : Stmt} {suite : List Stmt} {np pos' : Pos} {hds : List ExceptHandler} {l : List (Value × (Addr → Value → Option Addr → TS))} (hc : Names X x c)
      (hsu : ∀ (a : Addr) (oe : Obj) (cls : Value) (d : Option Addr) (pn : List (Addr × Obj)), L2N.Zn cls d oe → (∃ vs, oe.data = .fields vs) → PSs (X.suite a ((a, oe) :: pn)) (b0 :: suite) (ts a cls d)) (r : Clauses X n hds l) :
      Clauses X n (.ExceptHandler (some (.Name x np)) (some n) (b0 :: suite) pos' :: hds) ((c, ts) :: l)
section
variable {X : Cx} {body : List Stmt} {n : Str} {i : Nat} {h0 : ExceptHandler} {hds : List ExceptHandler} {l : List (Value × (Addr → Value → Option Addr → TS))} {pos : Pos} {tb : WX → TS}
theorem ps_tryAs (hs : X.stack = X.env :: X.outer) (hf : X.env.frame = some X.env.locals) (hN : X.N.Nodup) (hi : X.N[i]? = some n) (hln : X.env.kindOf n = some .local)
    (hb : ∀ (W : WX) (pn : List (Addr × Obj)) (xe : Value → Shared → Prop), L2N.Takes (X.tr pn xe) W → PassesOwn (model X.prog X.w) X.A X.env xe → PSs (X.tr pn xe) body (tb W))
    (hh : Clauses X n (h0 :: hds) l) : PS X (.Try body (h0 :: hds) [] [] pos) (fun D σ H => tb (wTry X.K i D l) D σ H) := by
  refine ⟨fun pins s σ H D I q0 => ?_⟩
  have ok := I.ok
  have hloc : L2.Loc X.env.scope n := .inl hln
  have hfr : X.A.frames = some (X.env :: X.outer) := by rw [ok.frames, hs]
  refine wpAny_Try_except ?_
  let catch_ : Value → Shared → Prop := fun e s1 => wpAny (model X.prog X.w) X.A (noteFrame e X.env) (fun _ s2 => wpAny (model X.prog X.w) X.A (setFlight e none) (fun _ s3 => wpAny (model X.prog X.w) X.A (handleBy e X.env (h0 :: hds)) (SP X pins D) X.xe s3) X.xe s2) X.xe s1
  refine wpAny_mono ((hb (wTry X.K i D l) (X.pn ++ pins) catch_ (fun u s' xx => ?_) PassesOwn.looking).run [] s σ H D (I.toTry _) q0) (fun f s1 hsp => ?_) (fun e s1 he => he)
  · obtain ⟨a, B, sI, pins', σ', H', cls, d, rfl, J', nb, up, sky, na, os, ag, wish⟩ := xx
    have J : Inv X pins σ' H' sI := J'.ofTry ok
    have sky2 : Sky B (X.env :: X.outer) a (L2N.Zn cls d) X.env.locals s'.heap := by rw [← hs]; exact sky
    show wpAny (model X.prog X.w) X.A (noteFrame (.ref a) X.env) _ _ _
    refine L2N.Sky.land L2N.Zn.steady hfr hf sky2 fun h3 fl3 up3 => ?_
    have J3 : Inv X pins σ' H' { s' with heap := h3 } := J.landed nb fl3.1 (up.trans up3) os ag
    obtain ⟨oe3, vs3, he3, hz3, hd3⟩ := fl3.there
    have apart : a ∉ frs (X.env :: X.outer) := fun hm => by
      obtain ⟨_, o', e', hnf⟩ := fl3.2.2.1.mem hm
      rw [he3] at e'; cases e'
      exact hnf _ hd3
    have nL : a ≠ X.env.locals := fun z => apart (List.mem_filterMap.mpr ⟨X.env, List.mem_cons_self, by rw [hf, z]⟩)
    have nF : a ∉ X.fs := fun hm => let ⟨e, he, q⟩ := List.mem_filterMap.mp hm; apart (List.mem_filterMap.mpr ⟨e, List.mem_cons_of_mem _ he, q⟩)
    have S3 := J3.suite he3 hd3 na nL nF
    have LT : PySem.W.Looks (model X.prog X.w) h3 (typeOf (.ref a)) cls := fun A Q E s k q => wpAny_typeOf_ref (k _ _ he3) (by rw [hz3.1]; exact q)
    -- one clause behind the other
    have go : ∀ {hs' : List ExceptHandler} {l' : List (Value × (Addr → Value → Option Addr → TS))}, Clauses X n hs' l' → wTry X.K i D l' cls d σ' H' → wpAny (model X.prog X.w) X.A (handleBy (.ref a) X.env hs') (SP X pins D) X.xe { s' with heap := h3 } := by
      intro hs' l' hk
      induction hk with
      | nil => exact fun w => w.elim
      | @cons x c ts b0 suite np pos' hds2 l2 hc hsu r ih =>
        rintro ⟨b, hb1, hyes, hno⟩
        refine wpAny_handleBy_cons (codeAny_handlers_test ?_) (by intro q; cases q)
        have LM := PySem.W.exm_one (M := model X.prog X.w) (J3.kIn) LT hb1
        have named : ∀ {Q : Value → Shared → Prop} {E : Value → Shared → Prop}, Q c { s' with heap := h3 } → wpAny (model X.prog X.w) (X.A.mark (some (.ref a))) (eval (.Name x np) X.env) Q E { s' with heap := h3 } := fun {Q E} q => by
          obtain ⟨hg, hdbg, hm | ⟨hm, hv, hnn⟩⟩ := hc
          · exact ld_glob (X := X.suite a ((a, oe3) :: (X.pn ++ pins))) S3 hg hm q hdbg
          · exact ld_blt (X := X.suite a ((a, oe3) :: (X.pn ++ pins))) S3 hg hm hv q hnn hdbg
        refine named (LM.here ?_)
        cases b with
        | false => exact ih (hno rfl)
        | true =>
          refine codeAny_handlers_suite_as (HandSPX.lands_againZ fl3 fun h4 fl4 up4 => ?_)
          have J4 : Inv X pins σ' H' { s' with heap := h4 } := J.landed nb fl4.1 ((up.trans up3).trans up4) os ag
          obtain ⟨oe4, vs4, he4, hz4, hd4⟩ := fl4.there
          have S4 := J4.suite he4 hd4 na nL nF
          refine store_ok (X := X.suite a ((a, oe4) :: (X.pn ++ pins))) (v := .ref a) S4 hN hi hloc rfl (fun s5 S5 => ?_) (.inr hln)
          refine wpAny_mono ((hsu a oe4 cls d (X.pn ++ pins) hz4 ⟨_, hd4⟩).run [] s5 _ H' _ S5 (hyes rfl a na)) (fun f s6 hsp => ?_) (fun _ _ z => False.elim z)
          have over : ∀ {σ6 : L2.St} {H6 : Hp} {Q : Shared → Prop}, Inv (X.suite a ((a, oe4) :: (X.pn ++ pins))) [] σ6 H6 s6 → (∀ s7, Inv X pins (σ6.set i none) H6 s7 → Q s7) →
              wpAny (model X.prog X.w) X.A (do bindName X.env n .none; unbindBehindTheSuite X.env n pos') (fun _ s7 => Q s7) X.xe s6 := fun {σ6 H6 Q} S6 hq => gone_ok (S6.unsuite ok) hN hi hln hq
          cases f with
          | next => obtain ⟨σ6, H6, S6, q6⟩ := hsp; exact over S6 fun s7 J7 => ⟨_, _, J7, q6⟩
          | brk => obtain ⟨σ6, H6, S6, q6⟩ := hsp; exact over S6 fun s7 J7 => ⟨_, _, J7, q6⟩
          | cont => obtain ⟨σ6, H6, S6, q6⟩ := hsp; exact over S6 fun s7 J7 => ⟨_, _, J7, q6⟩
          | ret u => obtain ⟨v6, σ6, H6, S6, r6, q6⟩ := hsp; exact over S6 fun s7 J7 => ⟨_, _, _, J7, r6, q6⟩
    exact go hh wish
  · cases f with
    | next => obtain ⟨σ', H', J', q⟩ := hsp; exact wpAny_execs_nil ⟨σ', H', J'.ofTry ok, q⟩
    | brk => obtain ⟨σ', H', J', q⟩ := hsp; exact ⟨σ', H', J'.ofTry ok, q⟩
    | cont => obtain ⟨σ', H', J', q⟩ := hsp; exact ⟨σ', H', J'.ofTry ok, q⟩
    | ret u => obtain ⟨v, σ', H', J', r, q⟩ := hsp; exact ⟨v, σ', H', J'.ofTry ok, r, q⟩
end

/-! a def that is called in a suite; p: the error that is handled -/
structure FnE (P : Program) (w : World) (K : PySem.W.Frag) (mg : Str → Option Value) (base : Heap) (k : Nat) (f : Addr) (fd : FuncData) (ps : List Str) (sp : Addr × Obj → Sp) : Prop where
  len : ∀ p vs H Q E, sp p vs H Q E → vs.length = ps.length
  run : ∀ (A : Around) (outer : List PySem.Env) (s : Shared) (H : Hp) (args : Args) (us : List Value) (vs : List V) (Q : VK) (p : Addr × Obj), L2H.RoomH k A → L2H.Hot1 A p → L2H.PinOk outer H s p → Env0 P w K mg base A outer s H → BindsTo s fd args (ps.zip us) → Vals vs us →
    sp p vs H Q E0 → codeAny (model P w) A (.call (.ref f) args) (CR CX0 outer P w H s Q E0) s
section
variable {P : Program} {w : World} {K : PySem.W.Frag} {mg : Str → Option Value} {base : Heap}
theorem fnE {x qual : Str} {st : Stmt} {f : Addr} {fd : FuncData} {N ps : List Str} {k : Nat} {sp : Addr × Obj → Sp} (F : Fun K x qual st f fd) (S : FnScope N ps (defScope st)) (len : ∀ p vs H Q E, sp p vs H Q E → vs.length = ps.length)
    (hbody : ∀ (cdv : Value) (A : Around) (outer : List PySem.Env) (s : Shared) (H : Hp) (vs : List V) (Q : VK) (p : Addr × Obj), L2H.Hot1 A p → L2H.RoomH k (A.deeper (envOfC qual (defScope st) s.heap.objs.size f cdv)) → sp p vs H Q E0 →
      WSs (L2H.cxH CX0 P w K mg base N qual (defScope st) f cdv A outer s H E0 p) (defBody st) { nx := fun _ H' => Q .non H', rt := Q } (L2.start N vs) H) : FnE P w K mg base (k + 1) f fd ps sp := by
  obtain ⟨oc, od, kV, doc, pm, an, cdv, ct, osl, rfl, lk, hcd⟩ := F.ex
  refine ⟨len, fun A outer s H args us vs Q p hr hot hpin e0 hb r hsp => ?_⟩
  have hl := len _ _ _ _ _ hsp
  have KX : K.In s.heap := e0.mod.kin.keeps fun b o e => (e0.bs b o e).1
  have lim : s.heap.NoLimit := e0.mod.nolimit.keeps fun b o e => (e0.bs b o e).1
  have kinds : ∀ y ∈ ps.zip us, (defScope st).names.lookup y.1 = some .local ∨ ((defScope st).names.lookup y.1 = some .cell ∧ ((cellsFrom (s.heap.objs.size + 1) (defScope st).names []).lookup y.1).isSome = true) := fun ⟨n, v⟩ hy => by
    rcases S.par n (List.of_mem_zip hy).1 with q | q
    · exact .inl q
    · exact .inr ⟨q, PySem.W.cellsFrom_some _ _ _ (.inl q)⟩
  refine codeAny_call_function hr.depth (KX _ _ lk) rfl S.co S.gen rfl (PySem.W.codeRec_of KX hcd) (hb _ _ _ _ (wpAny_newFunctionEnv_cells S.kind kinds fun env he s1 x => ?_))
  subst he
  refine ⟨lim.keeps x.toInCall.keep, codeAny_func ?_⟩
  have I := L2H.inv_startH (CX := CX0) (cd := cdv) (E := E0) S hpin e0 hl r x
  refine wpAny_mono (hbody cdv A outer s H vs Q p hot (hr.deeper _) hsp [] s1 I) (fun fl s' hs => ?_) fun e s' hs => hs
  cases fl with
  | ret u => obtain ⟨v, σ', H', J, rv, q⟩ := hs; exact ⟨v, H', J.os, J.bare, J.base, J.hok, rv, q⟩
  | next => obtain ⟨σ', H', J, q⟩ := hs; exact ⟨.non, H', J.os, J.bare, J.base, J.hok, rfl, q⟩
  | brk => obtain ⟨_, _, _, q⟩ := hs; exact q.elim
  | cont => obtain ⟨_, _, _, q⟩ := hs; exact q.elim
end
section
variable {X : Cx} {k : Nat} {f : Addr} {fd : FuncData} {ps : List Str} {sp : Addr × Obj → Sp} {x : Str} {q pos : Pos} {e : Expr} {es : List Expr} {t : TA} {pe : Addr × Obj}
theorem pe_callE (F : FnE X.prog X.w X.K X.mg X.base k f fd ps sp) (hr : L2H.RoomH k X.A) (hot : L2H.Hot1 X.A pe) (hp : pe ∈ X.pn) (hg : Gl X x) (hm : X.mg x = some (.ref f)) (hk : PySem.W.keepIn X.K (.ref f) = true) (hb : Binds X.K fd ps [])
    (ha : PA X (e :: es) t) (hdb : (x == ("__debug__" : Str)) = false := by decide) (he : starEach (e :: es) X.env = (false, eval e X.env) :: starEach es X.env := by rfl) (hpl : (backTo pos (starEach es X.env)).any (·.1) = false := by rfl) :
    PE X (.Call (.Name x q) (e :: es) [] pos) (fun σ H Q => t σ H fun vs H1 => sp pe vs H1 Q E0) := by
  refine ⟨fun pins s σ H Q I h => wpAny_Call_Name_kw (ld_glob I hg hm (PySem.W.callWith_K (h₀ := X.base) I.ok.mod.kin hk (thn (ha.run pos pins s σ H _ I h) fun us s1 ⟨vs, H1, I1, r, q1⟩ => ⟨I1.kIn, ?_⟩) he hpl) hdb)⟩
  have hl : us.length = ps.length := by rw [← r.length]; exact F.len _ _ _ _ _ q1
  have b := hb s1 us I1.kIn (by rw [List.append_nil]; exact hl)
  rw [List.append_nil] at b
  have P1 := I1.pin pe (List.mem_append_left _ hp)
  have hpin : L2H.PinOk X.stack H1 s1 pe := ⟨P1.1, P1.2.1, fun hm2 => (List.mem_cons.mp (I1.stkSub pe.1 hm2)).elim P1.2.2.1 P1.2.2.2.1, P1.2.2.2.2⟩
  refine wpAny_call (codeAny_mono (F.run X.A X.stack s1 H1 ⟨us, []⟩ us vs Q pe hr hot hpin I1.env0 b r q1) fun r2 s' hq => ?_)
  cases r2 with
  | error e => exact hq.elim
  | ok fl =>
    cases fl with
    | ret u => exact I1.after hq
    | next => exact hq.elim
    | brk => exact hq.elim
    | cont => exact hq.elim
end
/-! isinstance of the error that is at hand -/
section
variable {X : Cx} {W : WX} {ex : Addr → Prop} {ρ : List Sl} {pos p p2 p3 : Pos} {n c : Str} {i : Nat} {a D : Addr} {oe : Obj}
theorem ed_isi {cv : V} {cu : Value} {b : Bool} (hN : X.N[i]? = some n) (hv : Vis X.env.scope n) (hs : ρ[i]? = some (.raw (.ref a))) (pin : (a, oe) ∈ X.pn) (C : ExcC X.K D) (hz : Zc (.ref D) none oe) (hf : ∃ vs, oe.data = .fields vs)
    (hc : PE X (.Name c p3) (tC cv)) (hcv : ∀ u, RelV cv u → u = cu) (e : PySem.W.kitOne X.K (.ref D) cu = some b) (hg : Gl X ("isinstance" : Str)) (hm : X.mg ("isinstance" : Str) = none)
    (hd : (n == ("__debug__" : Str)) = false := by decide) (hcd : (n == ("__classdict__" : Str)) = false := by decide) : ED X W ex (.Call (.Name "isinstance" p) [.Name n p2, .Name c p3] [] pos) ρ (.bool b) := fun B F H σ Q E xc q => by
  obtain ⟨o, e1, h1⟩ := E.s i _ hs
  cases o with
  | none => exact h1.elim
  | some v =>
  have h1 : v = .ref a := h1
  subst h1
  have r : CallR X (.builtin "isinstance") (rIsE X.K D a) := fun pins s σ H xs us Q I r h => by
    obtain ⟨c, cv, b, rfl, hcv, e, q⟩ := h
    cases r with
    | cons rx rr =>
    cases rr with
    | cons rt rr =>
    cases rr
    cases rx
    have ec := hcv _ rt
    subst ec
    obtain ⟨hget, _⟩ := I.pin (a, oe) (List.mem_append.mpr (.inl pin))
    obtain ⟨vs, hv⟩ := hf
    have J : PySem.W.InstAt s.heap a oe D none := by
      obtain ⟨oc, od, oda, osl⟩ := oe
      obtain ⟨h1, h2⟩ := hz
      dsimp only at h1 h2 hv
      subst h1 h2 hv
      exact ⟨hget, rfl, rfl, trivial⟩
    exact PySem.W.kia_one (PySem.W.handS_kitx_exc C.hg C.hk C.hs C.hd C.ha C.hn C.ht C.hm) I.kIn J e (fun z => nomatch z) fun tk => ⟨.bl b, H, I.kept (t' := tk) fun _ _ z => z, rfl, q⟩
  exact w_e (pe_callB r hg hm (by decide +kernel) (pa_cons (pe_var hN hv hd hcd) (pa_cons hc pa_nil)) (by decide) (by decide) rfl (by rfl)) ⟨_, e1, cv, cu, b, rfl, hcv, e, q _ F H (Ext.refl E.i) (.bl b)⟩
end
end PD

set_option maxHeartbeats 4000000
namespace PD
open PySem PySem.Spec PyProof.Rows L2
section
variable {X : Cx} {W : WX} {ex : Addr → Prop} {ρ : List Sl} {pos pe px pc p p2 p3 : Pos} {n c : Str} {i : Nat} {iter : Expr} {scope : Scope} {bs : List Bool}
/-- [n for n in .. if n] over truths, in a def that is called in a suite -/
theorem el_hot (hot : L2H.HotC X) (h : EB X W ex iter ρ (bs.map .bool)) (hz : bs.length ≤ 1000) (hcell : ∀ y ∈ scope.names, y.2 ≠ .cell := by decide +kernel) (hfree : ∀ y ∈ scope.names, y.2 ≠ .free := by decide +kernel) (hkind : scope.kind = .function := by rfl)
    (hnames : ∀ y ∈ scope.names, y.2 = .local → scope.names.lookup y.1 = some .local := by decide +kernel) (hx : scope.names.lookup n = some .local := by rfl) (hdb : (n == ("__debug__" : Str)) = false := by decide) (hs : ∀ x, foldedSetIterable iter X.env x = pure x := by intro _; rfl) :
    EL X W ex (.ListComp (.Name n pe) [⟨.Name n px, iter, [.Name n pc], 0⟩] scope pos) ρ ((bs.filter id).map .bool) := fun B F H σ Q E xc q =>
  w_e (pe_hotLc hot pe_w hcell hfree hkind hnames hx hdb hs) (h B F H σ _ E xc fun r vs F1 H1 x1 hr i1 => by
    rw [i1.bools_eq] at hr
    refine ⟨r, bs, rfl, hr, hz, fun D hD => ?_⟩
    exact q D _ F1 _ (x1.trans (Ext.kept x1.i hD)) (x1.h.back hD) (x1.i.back hD) upd_same (IsAll.bools _))
end
/-- what the class D says, of the eight and of the two above -/
structure Kit8 (K : PySem.W.Frag) (mg : Str → Option Value) (D : Addr) (b1 b2 b3 b4 b5 b6 b7 b8 : Bool) : Prop where
  cls : ExcC K D
  k1 : ∃ C, mg "BadChange" = some (.ref C) ∧ PySem.W.kitOne K (.ref D) (.ref C) = some b1
  k2 : ∃ C, mg "NotLeaned" = some (.ref C) ∧ PySem.W.kitOne K (.ref D) (.ref C) = some b2
  k3 : ∃ C, mg "Twice" = some (.ref C) ∧ PySem.W.kitOne K (.ref D) (.ref C) = some b3
  k4 : ∃ C, mg "Missing" = some (.ref C) ∧ PySem.W.kitOne K (.ref D) (.ref C) = some b4
  k5 : ∃ C, mg "NoLine" = some (.ref C) ∧ PySem.W.kitOne K (.ref D) (.ref C) = some b5
  k6 : ∃ C, mg "Other" = some (.ref C) ∧ PySem.W.kitOne K (.ref D) (.ref C) = some b6
  k7 : ∃ C, mg "Ring" = some (.ref C) ∧ PySem.W.kitOne K (.ref D) (.ref C) = some b7
  k8 : ∃ C, mg "NoNote" = some (.ref C) ∧ PySem.W.kitOne K (.ref D) (.ref C) = some b8
  k9 : ∃ C, mg "WeaveError" = some (.ref C) ∧ PySem.W.kitOne K (.ref D) (.ref C) = some true
  kv : PySem.W.kitOne K (.ref D) (.type "ValueError") = some true
  ve : mg "ValueError" = none
  is : mg "isinstance" = none
  ln : mg "len" = none
  one : [b1, b2, b3, b4, b5, b6, b7, b8].filter id = [true]
section
variable {X : Cx} {W : WX} {ex : Addr → Prop} {ρ : List Sl} {pos p p2 p3 : Pos} {n c : Str} {i : Nat} {a D : Addr} {oe : Obj} {b : Bool} {sc : Scope} {ns gs : List Str}
theorem ed_isiC (lo : ns.all (locB sc) = true) (gl : gs.all (glB sc) = true) (i j k : Nat) (pin : (a, oe) ∈ X.pn) (C : ExcC X.K D) (hz : Zc (.ref D) none oe) (hf : ∃ vs, oe.data = .fields vs) (kt : ∃ A, X.mg c = some (.ref A) ∧ PySem.W.kitOne X.K (.ref D) (.ref A) = some b) (hm : X.mg ("isinstance" : Str) = none)
    (hN : X.N[i]? = some n := by rfl) (hn : ns[i]? = some n := by rfl) (hs : ρ[i]? = some (.raw (.ref a)) := by rfl) (hj : gs[j]? = some ("isinstance" : Str) := by rfl) (hk : gs[k]? = some c := by rfl) (hsc : X.env.scope = sc := by rfl) (hdb : (c == ("__debug__" : Str)) = false := by decide)
    (hd : (n == ("__debug__" : Str)) = false := by decide) (hcd : (n == ("__classdict__" : Str)) = false := by decide) : ED X W ex (.Call (.Name "isinstance" p) [.Name n p2, .Name c p3] [] pos) ρ (.bool b) := by
  obtain ⟨A, hA, e⟩ := kt
  have g1 : Gl X c := by show X.env.scope.names.lookup c = _; rw [hsc]; exact gl_of gl k hk
  have g2 : Gl X ("isinstance" : Str) := by show X.env.scope.names.lookup _ = _; rw [hsc]; exact gl_of gl j hj
  exact ed_isi (cv := .ref A) hN (by rw [hsc]; exact vis_of (loc_of lo i hn)) hs pin C hz hf (pe_glob g1 hA rfl hdb) (fun u r => r) e g2 hm hd hcd
theorem ed_isiV (lo : ns.all (locB sc) = true) (gl : gs.all (glB sc) = true) (i j k : Nat) (pin : (a, oe) ∈ X.pn) (C : ExcC X.K D) (hz : Zc (.ref D) none oe) (hf : ∃ vs, oe.data = .fields vs) (e : PySem.W.kitOne X.K (.ref D) (.type "ValueError") = some b) (hv : X.mg ("ValueError" : Str) = none) (hm : X.mg ("isinstance" : Str) = none)
    (hN : X.N[i]? = some n := by rfl) (hn : ns[i]? = some n := by rfl) (hs : ρ[i]? = some (.raw (.ref a)) := by rfl) (hj : gs[j]? = some ("isinstance" : Str) := by rfl) (hk : gs[k]? = some ("ValueError" : Str) := by rfl) (hsc : X.env.scope = sc := by rfl)
    (hd : (n == ("__debug__" : Str)) = false := by decide) (hcd : (n == ("__classdict__" : Str)) = false := by decide) : ED X W ex (.Call (.Name "isinstance" p) [.Name n p2, .Name "ValueError" p3] [] pos) ρ (.bool b) := by
  have g1 : Gl X ("ValueError" : Str) := by show X.env.scope.names.lookup _ = _; rw [hsc]; exact gl_of gl k hk
  have g2 : Gl X ("isinstance" : Str) := by show X.env.scope.names.lookup _ = _; rw [hsc]; exact gl_of gl j hj
  exact ed_isi (cv := .ty "ValueError") hN (by rw [hsc]; exact vis_of (loc_of lo i hn)) hs pin C hz hf (pe_bltn g1 hv (by decide +kernel) rfl) (fun u r => r) e g2 hm hd hcd
end
/-- the promise of the law's look at an error: True -/
def spAlone (K : PySem.W.Frag) (mg : Str → Option Value) : Addr × Obj → Sp := fun p vs H Q _ => ∃ D b1 b2 b3 b4 b5 b6 b7 b8, vs = [.ref p.1] ∧ L2N.Zn (.ref D) none p.2 ∧ (∃ vs, p.2.data = .fields vs) ∧ Kit8 K mg D b1 b2 b3 b4 b5 b6 b7 b8 ∧ ∀ H', Ex H H' → Q (.bl true) H'
end PD

set_option maxHeartbeats 4000000
namespace PD
open PySem PySem.Spec PyProof.Rows L2
/-! ### try .. except C as n: .. (one clause or several; one of them takes what is raised) -/
inductive Cls (X : Cx) (n : Str) : List ExceptHandler → List (List Stmt × Value) → Prop
  | nil : Cls X n [] []
  | cons {x : Str} {c : Value} {b0 : Stmt} {suite : List Stmt} {np pos' : Pos} {hds : List ExceptHandler} {l : List (List Stmt × Value)} (hc : Names X x c) (r : Cls X n hds l) : Cls X n (.ExceptHandler (some (.Name x np)) (some n) (b0 :: suite) pos' :: hds) ((b0 :: suite, c) :: l)
/-- behind a suite its name is gone -/
def De.gone (T : De) (i : Nat) : De := { T with nx := fun ρ => T.nx (ρ.set i .un), bk := fun ρ => T.bk (ρ.set i .un), ct := fun ρ => T.ct (ρ.set i .un), ex := fun _ _ => False }
def Han (X : Cx) (i : Nat) (T : De) (C : Addr) (ρ : List Sl) : List (List Stmt × Value) → Prop
  | [] => False
  | (suite, c) :: r => ∃ b, PySem.W.exmOne X.K (.ref C) c = some b ∧
      (b = true → ∀ (a : Addr) (oe : Obj) (pn : List (Addr × Obj)), L2N.Zn (.ref C) none oe → (∃ vs, oe.data = .fields vs) → SDs (X.suite a ((a, oe) :: pn)) noW suite (ρ.set i (.raw (.ref a))) (T.gone i)) ∧ (b = false → Han X i T C ρ r)
section
variable {X : Cx}
def tSui (X : Cx) (suite : List Stmt) : Addr → Value → Option Addr → TS := fun a cls d D σ H => ∀ (oe : Obj) (pn : List (Addr × Obj)), L2N.Zn cls d oe → (∃ vs, oe.data = .fields vs) → WSs (X.suite a ((a, oe) :: pn)) suite D σ H
theorem Cls.cl {n : Str} : ∀ {hds : List ExceptHandler} {l : List (List Stmt × Value)}, Cls X n hds l → Clauses X n hds (l.map fun p => (p.2, tSui X p.1))
  | _, _, .nil => .nil
  | _, _, .cons hc r => .cons hc (fun a oe cls d pn hz hf => ⟨fun pins s σ H D I h => h oe pn hz hf pins s I⟩) r.cl
theorem han_wish {i : Nat} {T : De} {C : Addr} {F0 H0 F H : Hp} {σ : L2.St} {ρ : List Sl} {D : Ends} {W : WX} (l : Lk X.K W F0 H0 T D) (s : S2 X.K F0 H0 F H σ ρ) : ∀ {hs : List (List Stmt × Value)}, Han X i T C ρ hs → wTry X.K i D (hs.map fun p => (p.2, tSui X p.1)) (.ref C) none σ H
  | [], h => h.elim
  | (suite, c) :: r, ⟨b, hb, hy, hn⟩ => ⟨b, hb, fun q a na oe pn hz hf => by
      have s1 : S2 X.K F0 H0 F H (σ.set i (some (.ref a))) (ρ.set i (.raw (.ref a))) := ⟨s.x, s.e.set (s := .raw (.ref a)) rfl rfl⟩
      have drop : ∀ ρ2 σ2 F2 H2, S2 X.K F0 H0 F2 H2 σ2 ρ2 → S2 X.K F0 H0 F2 H2 (σ2.set i none) (ρ2.set i .un) := fun ρ2 σ2 F2 H2 s2 => ⟨s2.x, s2.e.set_ (o := none) (s := .un) trivial fun _ _ _ _ e => nomatch e⟩
      exact hy q a oe pn hz hf F0 H0 F H _ _ s1 ⟨fun ρ2 σ2 F2 H2 z s2 => l.nx _ _ F2 H2 z (drop _ _ _ _ s2), l.rt, l.rl, fun ρ2 σ2 F2 H2 z s2 => l.bk _ _ F2 H2 z (drop _ _ _ _ s2), fun ρ2 σ2 F2 H2 z s2 => l.ct _ _ F2 H2 z (drop _ _ _ _ s2), fun _ _ _ _ _ z => z.elim⟩, fun q => han_wish l s (hn q)⟩
variable {W : WX} {ρ : List Sl} {T : De} {body : List Stmt} {n : Str} {i : Nat} {h0 : ExceptHandler} {hds : List ExceptHandler} {hs : List (List Stmt × Value)} {pos : Pos}
theorem sd_try (ex0 : Addr → List Sl → Prop) (hst : X.stack = X.env :: X.outer) (hf : X.env.frame = some X.env.locals) (hN : X.N.Nodup) (hi : X.N[i]? = some n) (hln : X.env.kindOf n = some .local) (cl : Cls X n (h0 :: hds) hs)
    (hb : ∀ (W0 : WX) (pn : List (Addr × Obj)) (xe : Value → Shared → Prop), L2N.Takes (X.tr pn xe) W0 → PassesOwn (model X.prog X.w) X.A X.env xe → SDs (X.tr pn xe) W0 body ρ { T with ex := ex0 })
    (hh : ∀ C ρ1, ex0 C ρ1 → Han X i T C ρ1 hs) : SD X W (.Try body (h0 :: hds) [] [] pos) ρ T := fun F0 H0 F H σ D s l =>
  w_s (ps_tryAs (tb := fun W0 D σ H => ∀ pn xe, L2N.Takes (X.tr pn xe) W0 → PassesOwn (model X.prog X.w) X.A X.env xe → WSs (X.tr pn xe) body D σ H) hst hf hN hi hln (fun W0 pn xe tk po => ⟨fun pins s1 σ1 H1 D1 I1 q => q pn xe tk po pins s1 I1⟩) cl.cl)
    fun pn xe tk po => hb _ pn xe tk po F0 H0 F H σ D s ⟨l.nx, l.rt, l.rl, l.bk, l.ct, fun C ρ1 σ1 F1 H1 e s1 => han_wish l s1 (hh C ρ1 e)⟩
end
section
variable {X : Cx} {W : WX} {ex : Addr → Prop} {ρ : List Sl} {k : Nat} {f : Addr} {fd : FuncData} {ps : List Str} {x n : Str} {q p pos : Pos} {i : Nat} {a D : Addr} {oe : Obj} {sc : Scope} {ns gs : List Str} {b1 b2 b3 b4 b5 b6 b7 b8 : Bool}
/-- a suite's look at its error: True -/
theorem ed_alone (lo : ns.all (locB sc) = true) (gl : gs.all (glB sc) = true) (i j : Nat) (F : FnE X.prog X.w X.K X.mg X.base k f fd ps (spAlone X.K X.mg)) (hr : L2H.RoomH k X.A) (hh : X.A.handled = some (.ref a)) (pin : (a, oe) ∈ X.pn) (hz : L2N.Zn (.ref D) none oe) (hf : ∃ vs, oe.data = .fields vs) (kit : Kit8 X.K X.mg D b1 b2 b3 b4 b5 b6 b7 b8)
    (hm : X.mg x = some (.ref f)) (hk : PySem.W.keepIn X.K (.ref f) = true) (hb : Binds X.K fd ps []) (hN : X.N[i]? = some n := by rfl) (hn : ns[i]? = some n := by rfl) (hs : ρ[i]? = some (.raw (.ref a)) := by rfl) (hj : gs[j]? = some x := by rfl) (hsc : X.env.scope = sc := by rfl)
    (hd : (n == ("__debug__" : Str)) = false := by decide) (hcd : (n == ("__classdict__" : Str)) = false := by decide) (hdb : (x == ("__debug__" : Str)) = false := by decide) : ED X W ex (.Call (.Name x q) [.Name n p] [] pos) ρ (.bool true) := fun B F0 H σ Q E xc k0 => by
  obtain ⟨o, e1, h1⟩ := E.s i _ hs
  cases o with
  | none => exact h1.elim
  | some v =>
  have h1 : v = .ref a := h1
  subst h1
  obtain ⟨vs, hv⟩ := hf
  have g1 : Gl X x := by show X.env.scope.names.lookup x = _; rw [hsc]; exact gl_of gl j hj
  refine w_e (pe_callE (pe := (a, oe)) F hr ⟨hh, vs, hv, hz.2.2 vs hv⟩ pin g1 hm hk hb (pa_cons (pe_var hN (by rw [hsc]; exact vis_of (loc_of lo i hn)) hd hcd) pa_nil) hdb rfl (by rfl)) ⟨_, e1, D, b1, b2, b3, b4, b5, b6, b7, b8, rfl, hz, ⟨vs, hv⟩, kit, fun H' x => ?_⟩
  exact k0 _ F0 H' ⟨Ex.refl F0, x, E.i.trans x, fun _ _ => rfl⟩ (.bl true)
end
end PD

set_option maxHeartbeats 4000000
namespace PD
open PySem PySem.Spec PyProof.Rows L2
/-- an error class of one's own, below ValueError -/
structure Er (K : PySem.W.Frag) (mg : Str → Option Value) (x : Str) (C : Addr) : Prop where
  g : mg x = some (.ref C)
  q : PySem.W.excIn K C [.type "ValueError", .type "Exception", .type "BaseException", .type "object"] "ValueError.__new__" = true
  k : PySem.W.keepIn K (.ref C) = true
  b : PySem.W.subIn K (.ref C) (.type "BaseException") = some true
  t : PySem.W.typeIn K (.ref C) = some (.type "type")
section
variable {X : Cx} {W : WX} {e : Expr} {ρ : List Sl} {d : PyData} {pos p p2 : Pos} {n : Str} {C : Addr} {T : De} {sc : Scope} {gs : List Str}
theorem sd_rz (E : Er X.K X.mg n C) (hc : X.calm = true) (tk : L2N.Takes X W) (hg : Gl X n) (h : ED X W (fun C => T.ex C ρ) e ρ d) (hx : T.ex C ρ) (hs : starEach [e] X.env = (false, eval e X.env) :: starEach [] X.env := by rfl) (hdb : (n == ("__debug__" : Str)) = false := by decide) :
    SD X W (.Raise (some (.Call (.Name n p) [e] [] p2)) none pos) ρ T := sd_raise hc tk PySem.F.excBase_ValueError E.q E.g E.k (raises_own E.b E.t) hg h hx hs hdb
/-- a short text of plain signs -/
def Tx0 (z : Str) : Prop := z.length ≤ 1000 ∧ ∀ c ∈ z.cps.toList, c < 256
theorem sz_repr {z : Str} (h : Tx0 z) : (reprText z).length ≤ 10002 := by
  have h1 := StrLaws.reprText_len z (fun c hc => Nat.lt_of_lt_of_le (h.2 c hc) (by decide))
  have h2 := h.1
  omega
theorem str_ok {z : Str} (h : Tx0 z) : PyData.strOk z = true := by
  unfold PyData.strOk
  rw [← Array.all_toList, List.all_eq_true]
  intro c hc
  exact decide_eq_true (Nat.lt_of_lt_of_le (h.2 c hc) (by decide))
/-- the comprehension without a test -/
theorem lc_all {α β : Type} (xs : List α) (g : α → β) : (xs.filter fun _ => true).map g = xs.map g := by rw [List.filter_eq_self.mpr (fun _ _ => rfl)]
/-- an expression that raises -/
def EX (X : Cx) (W : WX) (ex : Addr → Prop) (e : Expr) (ρ : List Sl) : Prop := ∀ B F H σ (Q : VK), En X.K B F H σ ρ → Xc W ex F H σ → PD.WE X e σ H Q
theorem sd_exprX (h : EX X W (fun C => T.ex C ρ) e ρ) (hw : swapsWith e none pos.line X.env = pure false := by rfl) : SD X W (.Expr e pos) ρ T := fun F0 H0 F H σ D s l => w_s (ps_expr pe_w hw) (h H0 F H σ _ s.e (l.xc s))
theorem sd_retX (h : EX X W (fun C => T.ex C ρ) e ρ) : SD X W (.Return (some e) pos) ρ T := fun F0 H0 F H σ D s l => w_s (ps_ret pe_w) (h H0 F H σ _ s.e (l.xc s))
theorem sd_setX {i : Nat} {m : Str} (nd : X.N.Nodup) (hN : X.N[i]? = some m) (hl : Loc X.env.scope m) (hfn : X.fn m = true ∨ X.env.scope.names.lookup m = some .local) (h : EX X W (fun C => T.ex C ρ) e ρ) (hw : swapsWith e (some (.Name m p)) pos.line X.env = pure false := by rfl) : SD X W (.Assign [.Name m p] e pos) ρ T := fun F0 H0 F H σ D s l =>
  w_s (ps_set nd hN hl pe_w hw hfn) (h H0 F H σ _ s.e (l.xc s))
end
section
variable {X : Cx} {W : WX} {ex : Addr → Prop} {e a b : Expr} {es : List Expr} {ρ as : List Sl} {d : PyData} {ds : List PyData} {pos p : Pos} {k n : Nat} {x : Str} {R : List Sl → DOut → Prop}
theorem EX.ed (h : EX X W ex e ρ) : ED X W ex e ρ d := fun B F H σ Q E c _ => h B F H σ Q E c
theorem ex_call (C : Cal X.prog X.w X.K X.mg X.base k x n R) (hr : Room k X.A) (hg : Gl X x) (tk : L2N.Takes X W) (ha : EA X W ex (e :: es) ρ as) (hn : as.length = n) {D : Addr} (hR : R as (.exc D)) (hD : ex D)
    (hdb : (x == ("__debug__" : Str)) = false := by decide) (he : starEach (e :: es) X.env = (false, eval e X.env) :: starEach es X.env := by rfl) (hpl : (backTo pos (starEach es X.env)).any (·.1) = false := by rfl) : EX X W ex (.Call (.Name x p) (e :: es) [] pos) ρ := fun B F H σ Q E c =>
  call_w C hr hg tk ha hn hR hdb he hpl E c fun F1 H1 x1 F2 H2 x2 => c D F2 H2 hD (x1.trans x2)
end
/-- a test that raises -/
def ETX (X : Cx) (W : WX) (ex : Addr → Prop) (e : Expr) (ρ : List Sl) : Prop := ∀ B F H σ (Q : Bool → Hp → Prop), En X.K B F H σ ρ → Xc W ex F H σ → WT X e σ H Q
section
variable {X : Cx} {W : WX} {ex : Addr → Prop} {e a b : Expr} {ρ : List Sl} {pos : Pos} {T : De} {ths els : List Stmt}
theorem etx_is (h : EX X W ex a ρ) (hm : behindInMarks .Is b = false := by rfl) : ETX X W ex (.Compare a [.Is] [b] pos) ρ := fun B F H σ Q E c => w_t (pt_cmpR op_isN pe_w pe_w hm) (h B F H σ _ E c)
theorem sd_ifX (h : ETX X W (fun C => T.ex C ρ) e ρ) : SD X W (.If e ths els pos) ρ T := fun F0 H0 F H σ D s l => w_s (ps_if pt_w pss_w pss_w) (h H0 F H σ _ s.e (l.xc s))
end
theorem num_len {n : Nat} (h : n ≤ 1000) : (Str.ofString (toString (n : Int))).length ≤ 10 := by
  have a : ((List.range 1001).all fun n => decide ((Str.ofString (toString (n : Int))).length ≤ 10)) = true := by decide +kernel
  exact of_decide_eq_true (List.all_eq_true.mp a n (List.mem_range.mpr (by omega)))
end PD

set_option maxHeartbeats 4000000
namespace PD
open PySem PySem.Spec PyProof.Rows L2
section
variable {X : Cx} {W : WX} {e1 e2 : Expr} {body : List Stmt} {ρ : List Sl} {xs ys : List PyData} {pos p p2 tpos : Pos} {T : De} {elts : List Expr} {kk : Nat}
/-- for .. in zip(xs, ys), both lists stand still -/
theorem sd_zip {f : List Sl → PyData → List Sl → Prop} (I : Nat → List Sl → Prop) (hp : PassesOwn (model X.prog X.w) X.A X.env X.xe) (hc : X.calm = true) (g : GU X (.Tuple elts kk tpos) f) (hg : Gl X ("zip" : Str)) (hm : X.mg ("zip" : Str) = none)
    (h1 : EP' X W (fun C => T.ex C ρ) e1 ρ xs) (h2 : EP' X W (fun C => T.ex C ρ) e2 ρ ys) (h0 : I 0 ρ)
    (hs : ∀ i d1 d2 ρ1, xs[i]? = some d1 → ys[i]? = some d2 → I i ρ1 → ∃ ρ2, f ρ1 (.tuple [d1, d2]) ρ2 ∧ SDs X W body ρ2 { T with nx := I (i + 1), ct := I (i + 1), bk := T.nx }) (hd : ∀ ρ', I (min xs.length ys.length) ρ' → T.nx ρ')
    (s1 : starEach [e1, e2] X.env = (false, eval e1 X.env) :: starEach [e2] X.env := by rfl) (s2 : starEach [e2] X.env = [(false, eval e2 X.env)] := by rfl) (s3 : (backTo p2 (starEach [e2] X.env)).any (fun x => x.1) = false := by rfl)
    (hf : ∀ x, foldedSetIterable (.Call (.Name "zip" p) [e1, e2] [] p2) X.env x = pure x := by intro _; rfl) : SD X W (.For (.Tuple elts kk tpos) (.Call (.Name "zip" p) [e1, e2] [] p2) body [] pos) ρ T := by
  obtain ⟨g1, p1, k1⟩ := g
  refine fun F0 H0 F H σ D s l => w_s (ps_for hp hc (pi_zip hg hm (pa_cons pe_w (pa_cons pe_w pa_nil s2) s1) s1 s3) p1 pss_w hf) (h1 H0 F H σ _ s.e (l.xc s) fun a vs F1 H1 x1 hr1 i1 => h2 H0 F1 H1 σ _ (s.e.ext x1) ((l.xc s).ext x1) fun b ws F2 H2 x2 hr2 i2 => ?_)
  have s4 := (s.go x1).go x2
  have ra : ∀ F' H', Ex F2 F' → Ex F' H' → Ex H0 H' → SqL X.K H' a vs := fun F' H' y z u => by
    rcases hr1 with hr | hr
    · exact u.sql hr
    · exact ((x2.f.trans y).trans z).sql hr
  have rb : ∀ F' H', Ex F2 F' → Ex F' H' → Ex H0 H' → SqL X.K H' b ws := fun F' H' y z u => by
    rcases hr2 with hr | hr
    · exact u.sql hr
    · exact (y.trans z).sql hr
  refine ⟨a, b, vs, ws, rfl, ra F2 H2 (Ex.refl _) s4.e.i s4.e.b, rb F2 H2 (Ex.refl _) s4.e.i s4.e.b, fun i m σ' H' => m = min xs.length ys.length - i ∧ i ≤ min xs.length ys.length ∧ ∃ F' ρ', I i ρ' ∧ Ex F2 F' ∧ S2 X.K F0 H0 F' H' σ' ρ', ⟨_, rfl, Nat.zero_le _, F2, ρ, h0, Ex.refl F2, s4⟩, ?_⟩
  rintro i m σ' H' ⟨rfl, him, F', ρ', hI, hx, s'⟩
  have qa := ra F' H' hx s'.e.i s'.e.b
  have qb := rb F' H' hx s'.e.i s'.e.b
  by_cases hi : i < min xs.length ys.length
  · have hi1 : i < xs.length := by omega
    have hi2 : i < ys.length := by omega
    obtain ⟨v, hv, iv⟩ := i1.get (List.getElem?_eq_getElem hi1)
    obtain ⟨u, hu, iu⟩ := i2.get (List.getElem?_eq_getElem hi2)
    refine .inr ⟨⟨vs, ws, v, u, qa, qb, hv, hu⟩, fun σ2 H2 => ∃ F2' ρ2, I (i + 1) ρ2 ∧ Ex F2 F2' ∧ S2 X.K F0 H0 F2' H2 σ2 ρ2, fun σ2 H2 ⟨F2', ρ2, a1, a2, a3⟩ => ⟨min xs.length ys.length - (i + 1), by omega, rfl, by omega, F2', ρ2, a1, a2, a3⟩, ?_⟩
    rintro x H3 ⟨t, v', u', rfl, nt, rfl, fa, fb⟩
    have ev : v' = v := Option.some.inj ((fa vs qa).symm.trans hv)
    have eu : u' = u := Option.some.inj ((fb ws qb).symm.trans hu)
    subst ev eu
    have x3 : Ext F' H' (upd F' t (.tup [v', u'])) (upd H' t (.tup [v', u'])) := Ext.made s'.e.i nt
    have s3 := s'.go x3
    obtain ⟨ρ2, hf2, hb⟩ := hs i _ _ ρ' (List.getElem?_eq_getElem hi1) (List.getElem?_eq_getElem hi2) hI
    have iv3 := (iv.mono x2.f).mono (hx.trans x3.f)
    have iu3 := iu.mono (hx.trans x3.f)
    refine k1 ρ' _ ρ2 hf2 H0 _ _ σ' (.ref t) _ s3.e (.tup (SqT.of upd_same) (.cons iv3 (.cons iu3 .nil))) fun σ2 E2 => ?_
    refine hb _ H0 _ _ σ2 _ ⟨s3.x.at, E2⟩ ?_
    have l' := l.re s3.x
    have nx : ∀ ρ2 σ2 F4 H4, I (i + 1) ρ2 → S2 X.K (upd F' t (.tup [v', u'])) H0 F4 H4 σ2 ρ2 → ∃ F5 ρ5, I (i + 1) ρ5 ∧ Ex F2 F5 ∧ S2 X.K F0 H0 F5 H4 σ2 ρ5 := fun ρ2 σ2 F4 H4 q s2 => ⟨F4, ρ2, q, (hx.trans x3.f).trans s2.x.f, s2.on s3.x⟩
    exact ⟨nx, l'.rt, l'.rl, l'.nx, nx, l'.ex⟩
  · have ei : i = min xs.length ys.length := by omega
    refine .inl ⟨⟨vs, ws, qa, qb, ?_⟩, l.nx ρ' σ' F' H' (hd ρ' (ei ▸ hI)) s'⟩
    rw [i1.len, i2.len]
    omega
end
end PD

set_option maxHeartbeats 4000000
namespace PD
open PySem L2
/-! a text times a number -/
def repS (z : Str) (n : Nat) : Str := ⟨(List.replicate n z.cps).foldl (· ++ ·) #[]⟩
theorem repS_go (a : Array Nat) : ∀ (n : Nat) (acc : Array Nat), ((List.replicate n a).foldl (· ++ ·) acc).toList = acc.toList ++ (List.replicate n a.toList).flatten
  | 0, acc => by simp
  | n + 1, acc => by rw [List.replicate_succ, List.foldl_cons, repS_go a n, List.replicate_succ, List.flatten_cons, Array.toList_append, List.append_assoc]
theorem repS_cs (z : Str) (n : Nat) : (repS z n).cps.toList = (List.replicate n z.cps.toList).flatten := (repS_go _ n #[]).trans (by simp)
variable {X : Cx} {W : WX} {ex : Addr → Prop} {ρ : List Sl} {a b : Expr} {pos : Pos}
theorem op_repS : OpR X (binaryOp .Mult) (fun x y H Q => ∃ z k, x = .str z ∧ y = .int k ∧ 2 ≤ k ∧ k ≤ 1000 ∧ 1 ≤ z.length ∧ z.length ≤ 100 ∧ Q (.str (repS z k.toNat)) H) := by
  intro pins s σ H x y v u Q I rx ry h
  obtain ⟨z, k, rfl, rfl, h1, h2, h3, h4, q⟩ := h
  obtain ⟨t, rfl⟩ := rx
  obtain ⟨t', rfl⟩ := ry
  have hl : z.length * k.toNat ≤ 100 * 1000 := Nat.mul_le_mul h4 (by omega)
  have hb : ¬ ((z.length : Int) > (2 ^ 63 - 1) / k) := by
    intro hq
    have h5 : (2 ^ 63 - 1 : Int) / 1000 ≤ (2 ^ 63 - 1) / k := by
      refine Int.le_ediv_of_mul_le (by omega) ?_
      have : (2 ^ 63 - 1 : Int) / 1000 * k ≤ (2 ^ 63 - 1) / 1000 * 1000 := Int.mul_le_mul_of_nonneg_left h2 (by decide)
      omega
    have h6 : (100 : Int) < (2 ^ 63 - 1) / 1000 := by decide
    omega
  have hs : (k == 1 || z.length == 0) = false := by
    have e1 : (k == 1) = false := by simp; omega
    have e2 : (z.length == 0) = false := by simp; omega
    rw [e1, e2]; rfl
  have hsl : ¬ z.length * k.toNat > sizeLine := fun hq => by
    have h7 : 100 * 1000 ≤ sizeLine := by decide
    omega
  refine P.mul_str (by
    have e1 : decide (k < -2 ^ 63) = false := decide_eq_false (by omega)
    have e2 : decide (k ≥ 2 ^ 63) = false := decide_eq_false (by omega)
    rw [e1, e2]; rfl) (fun _ _ => hb) (fun _ _ => decide_eq_false hsl) ?_
  rw [if_neg (by omega), hs, if_neg Bool.false_ne_true]
  refine ⟨?_, ⟨.str (repS z k.toNat), H, I.tok _, ⟨_, rfl⟩, q⟩⟩
  show (repS z k.toNat).length ≤ sizeLine
  have e : (repS z k.toNat).length = z.length * k.toNat := by
    show (repS z k.toNat).cps.size = z.cps.size * k.toNat
    rw [← Array.length_toList, repS_cs, List.length_flatten, List.map_replicate, List.sum_replicate_nat, Array.length_toList, Nat.mul_comm]
  rw [e]
  exact Nat.le_of_not_lt hsl
theorem ed_repS {z : Str} {k : Int} (ha : ED X W ex a ρ (.str z)) (hb : ED X W ex b ρ (.int k)) (h : 2 ≤ k ∧ k ≤ 1000 ∧ 1 ≤ z.length ∧ z.length ≤ 100) : ED X W ex (.BinOp a .Mult b pos) ρ (.str (repS z k.toNat)) :=
  ed_op op_repS ha hb fun v u F H Q i0 hv hu q => ⟨z, k, hv.str_eq, hu.int_eq, h.1, h.2.1, h.2.2.1, h.2.2.2, q _ F H (Ext.refl i0) (.str _)⟩
end PD

set_option maxHeartbeats 4000000
/-! the numbers, names and lines that the laws draw, as plain functions -/
namespace LW
open PySem L2 PD
def cell (ns : List Int) (k : Nat) : Int := ns.getD k 0
def mixed (c k : Int) : Int := (c + 7919 * k) * 48271 % 2147483647
theorem mixed_nn (c k : Int) : 0 ≤ mixed c k := Int.emod_nonneg _ (by decide)
theorem mixed_lt (c k : Int) : mixed c k < 2147483647 := Int.emod_lt_of_pos _ (by decide)
def sgn : Str := "abcdefghijklmnopqrstuvwxyz0123456789"
abbrev cs (z : Str) : List Nat := z.cps.toList
def chS (c : Nat) : Str := ⟨#[c]⟩
def sgnC (i : Int) : Nat := (cs sgn).getD i.toNat 0
def numS (n : Int) : Str := Str.ofString (toString n)
theorem cs_ext {x y : Str} (h : cs x = cs y) : x = y := TL.ext_tl h
theorem cs_app (x y : Str) : cs (x ++ y) = cs x ++ cs y := TL.tl_append x y
theorem cs_ch (c : Nat) : cs (chS c) = [c] := rfl
theorem len_cs (x : Str) : x.length = (cs x).length := TL.len_tl x
theorem len_app (x y : Str) : (x ++ y).length = x.length + y.length := by rw [len_cs, cs_app, List.length_append, ← len_cs, ← len_cs]
/-- singles joined -/
theorem cs_join {α : Type} (xs : List α) (g : α → Nat) : cs (Str.join "" (xs.map fun x => chS (g x))) = xs.map g := by
  show TL.tl _ = _
  rw [TL.tl_join]
  show TL.joinL [] _ = _
  have go : ∀ l : List (List Nat), TL.joinL [] l = l.flatten := by
    intro l
    induction l with
    | nil => rfl
    | cons p r ih =>
      cases r with
      | nil => simp [TL.joinL]
      | cons q r => rw [TL.joinL, ih]; simp
  rw [go, List.map_map]
  induction xs with
  | nil => rfl
  | cons x r ih =>
    rw [List.map_cons, List.flatten_cons, ih]; rfl
theorem cs_take (z : Str) (k : Nat) : cs (cutS z none (some (k : Int))) = (cs z).take k := by
  unfold cutS cs
  rw [HT.sIx_none, HT.sIx_nat, List.drop_zero, Nat.sub_zero]
  show List.take (min k z.length) z.cps.toList = _
  rw [TL.len_tl]
  rcases Nat.le_total k (TL.tl z).length with h | h
  · rw [Nat.min_eq_left h]
  · rw [Nat.min_eq_right h, List.take_of_length_le (Nat.le_refl _), List.take_of_length_le h]
theorem cs_drop (z : Str) (k : Nat) : cs (cutS z (some (k : Int)) none) = (cs z).drop k := by
  unfold cutS cs
  rw [HT.sIx_none, HT.sIx_nat]
  show List.take (z.length - min k z.length) (List.drop (min k z.length) z.cps.toList) = _
  rw [TL.len_tl]
  rcases Nat.le_total k (TL.tl z).length with h | h
  · rw [Nat.min_eq_left h, List.take_of_length_le (by rw [List.length_drop]; exact Nat.le_refl _)]
  · rw [Nat.min_eq_right h, Nat.sub_self, List.take_zero, List.drop_eq_nil_of_le h]
/-! names -/
def NameOk (z : Str) : Prop := 1 ≤ z.length ∧ z.length ≤ 12 ∧ ∀ c ∈ cs z, c ∈ cs sgn
instance (z : Str) : Decidable (NameOk z) := by unfold NameOk; exact inferInstance
theorem sgn_len : (cs sgn).length = 36 := by decide +kernel
theorem sgnC_mem {i : Int} (h0 : 0 ≤ i) (h : i < 36) : sgnC i ∈ cs sgn := by
  have hi : i.toNat < (cs sgn).length := by rw [sgn_len]; omega
  unfold sgnC
  rw [List.getD_eq_getElem?_getD, List.getElem?_eq_getElem hi]
  exact List.getElem_mem hi
theorem sgn_at {i : Int} (h0 : 0 ≤ i) (h : i < 36) : atI (cs sgn) i = some (sgnC i) := by
  have hi : i.toNat < (cs sgn).length := by rw [sgn_len]; omega
  have e : ((i.toNat : Nat) : Int) = i := by omega
  have h2 : (cs sgn)[i.toNat]? = some (sgnC i) := by
    unfold sgnC
    rw [List.getD_eq_getElem?_getD, List.getElem?_eq_getElem hi]; rfl
  have h3 := atI_nat h2
  rw [e] at h3
  exact h3
theorem numOk {n : Nat} (h : n ≤ 1000) : NameOk (numS (n : Int)) := by
  have a : ((List.range 1001).all fun n => decide (NameOk (numS (n : Int)))) = true := by decide +kernel
  exact of_decide_eq_true (List.all_eq_true.mp a n (List.mem_range.mpr (by omega)))
theorem numInj {n m : Nat} (hn : n < 80) (hm : m < 80) (h : numS (n : Int) = numS (m : Int)) : n = m := by
  have a : ((List.range 80).all fun n => (List.range 80).all fun m => decide (numS (n : Int) = numS (m : Int) → n = m)) = true := by decide +kernel
  exact of_decide_eq_true (List.all_eq_true.mp (List.all_eq_true.mp a n (List.mem_range.mpr hn)) m (List.mem_range.mpr hm)) h
def nm0 (c : Int) : Str := Str.join "" ((List.range (1 + mixed c 5 % 12).toNat).map fun (j : Nat) => chS (sgnC (mixed c j % 36)))
def nm1 (c : Int) : Str := if decide (c % 8 = 1) = true then numS (mixed c 5 % 130) else nm0 c
def nm2 (c : Int) (taken : List Str) : Str := if (decide (c % 8 = 2) && !taken.isEmpty) = true then cutS (taken.getLastD "") none (some 11) ++ chS (sgnC (mixed c 5 % 36)) else nm1 c
def nmT (c : Int) (taken : List Str) : Str := taken.getD (mixed c 5 % (taken.length : Int)).toNat ""
def nmA (c : Int) (taken : List Str) : Int := mixed c 5 / 60 % ((nmT c taken).length : Int)
def nm3 (c : Int) (taken : List Str) : Str := if (decide (4 < c % 8) && !taken.isEmpty) = true then cutS (nmT c taken) none (some (nmA c taken)) ++ chS (sgnC (mixed c 5 / 720 % 36)) ++ cutS (nmT c taken) (some (nmA c taken + 1)) none else nm2 c taken
def frees (taken : List Str) : List Str := ((List.range (taken.length + 1)).map fun (j : Nat) => numS (j : Int)).filter fun z => !decide (z ∈ taken)
def nameOf (c : Int) (taken : List Str) : Str := if (!decide (nm3 c taken ∈ taken)) = true then nm3 c taken else (frees taken).headD ""
theorem nm0_ok (c : Int) : NameOk (nm0 c) := by
  have h0 := Int.emod_nonneg (mixed c 5) (show (12 : Int) ≠ 0 by decide)
  have h1 := Int.emod_lt_of_pos (mixed c 5) (show (0 : Int) < 12 by decide)
  have e : cs (nm0 c) = (List.range (1 + mixed c 5 % 12).toNat).map fun (j : Nat) => sgnC (mixed c j % 36) := cs_join _ _
  refine ⟨?_, ?_, fun x hx => ?_⟩
  · rw [len_cs, e, List.length_map, List.length_range]; omega
  · rw [len_cs, e, List.length_map, List.length_range]; omega
  · rw [e] at hx
    obtain ⟨j, _, rfl⟩ := List.mem_map.mp hx
    exact sgnC_mem (Int.emod_nonneg _ (by decide)) (Int.emod_lt_of_pos _ (by decide))
theorem nm1_ok (c : Int) : NameOk (nm1 c) := by
  unfold nm1
  split
  · have h0 := Int.emod_nonneg (mixed c 5) (show (130 : Int) ≠ 0 by decide)
    have h1 := Int.emod_lt_of_pos (mixed c 5) (show (0 : Int) < 130 by decide)
    have e : mixed c 5 % 130 = ((mixed c 5 % 130).toNat : Int) := by omega
    rw [e]
    exact numOk (by omega)
  · exact nm0_ok c
theorem getLastD_mem {taken : List Str} (h : taken.isEmpty = false) : taken.getLastD "" ∈ taken := by
  cases taken with
  | nil => cases h
  | cons a r => rw [List.getLastD_eq_getLast?, List.getLast?_eq_getLast (List.cons_ne_nil a r)]; exact List.getLast_mem _
theorem nm2_ok (c : Int) {taken : List Str} (ht : ∀ z ∈ taken, NameOk z) : NameOk (nm2 c taken) := by
  unfold nm2
  split
  · rename_i h
    rw [Bool.and_eq_true] at h
    obtain ⟨l1, l2, l3⟩ := ht _ (getLastD_mem (by simpa using h.2))
    have e : cs (cutS (taken.getLastD "") none (some 11) ++ chS (sgnC (mixed c 5 % 36))) = (cs (taken.getLastD "")).take 11 ++ [sgnC (mixed c 5 % 36)] := by rw [cs_app, cs_ch]; exact congrArg (· ++ _) (cs_take _ 11)
    refine ⟨?_, ?_, fun x hx => ?_⟩
    · rw [len_cs, e, List.length_append, List.length_singleton]; omega
    · rw [len_cs, e, List.length_append, List.length_singleton, List.length_take]; omega
    · rw [e] at hx
      rcases List.mem_append.mp hx with hx | hx
      · exact l3 x (List.mem_of_mem_take hx)
      · rw [List.mem_singleton.mp hx]
        exact sgnC_mem (Int.emod_nonneg _ (by decide)) (Int.emod_lt_of_pos _ (by decide))
  · exact nm1_ok c
theorem nmT_mem (c : Int) {taken : List Str} (h : taken.isEmpty = false) : nmT c taken ∈ taken ∧ taken[(mixed c 5 % (taken.length : Int)).toNat]? = some (nmT c taken) := by
  have hl : 0 < taken.length := by cases taken with | nil => cases h | cons => simp
  have h0 := Int.emod_nonneg (mixed c 5) (show (taken.length : Int) ≠ 0 by omega)
  have h1 := Int.emod_lt_of_pos (mixed c 5) (show (0 : Int) < (taken.length : Int) by omega)
  have hi : (mixed c 5 % (taken.length : Int)).toNat < taken.length := by omega
  unfold nmT
  rw [List.getD_eq_getElem?_getD, List.getElem?_eq_getElem hi]
  exact ⟨List.getElem_mem hi, rfl⟩
theorem nmA_bd (c : Int) {taken : List Str} (h : taken.isEmpty = false) (ht : ∀ z ∈ taken, NameOk z) : 0 ≤ nmA c taken ∧ nmA c taken < (nmT c taken).length := by
  have h1 := (ht _ (nmT_mem c h).1).1
  exact ⟨Int.emod_nonneg _ (by omega), Int.emod_lt_of_pos _ (by omega)⟩
theorem nm3_ok (c : Int) {taken : List Str} (ht : ∀ z ∈ taken, NameOk z) : NameOk (nm3 c taken) := by
  unfold nm3
  split
  · rename_i h
    rw [Bool.and_eq_true] at h
    have he : taken.isEmpty = false := by simpa using h.2
    obtain ⟨l1, l2, l3⟩ := ht _ (nmT_mem c he).1
    obtain ⟨a0, a1⟩ := nmA_bd c he ht
    have ea : nmA c taken = ((nmA c taken).toNat : Int) := by omega
    have eb : nmA c taken + 1 = (((nmA c taken).toNat + 1 : Nat) : Int) := by omega
    have e : cs (cutS (nmT c taken) none (some (nmA c taken)) ++ chS (sgnC (mixed c 5 / 720 % 36)) ++ cutS (nmT c taken) (some (nmA c taken + 1)) none) = ((cs (nmT c taken)).take (nmA c taken).toNat ++ [sgnC (mixed c 5 / 720 % 36)]) ++ (cs (nmT c taken)).drop ((nmA c taken).toNat + 1) := by
      rw [cs_app, cs_app, cs_ch, eb, cs_drop]
      have : cs (cutS (nmT c taken) none (some (nmA c taken))) = (cs (nmT c taken)).take (nmA c taken).toNat := by
        have := cs_take (nmT c taken) (nmA c taken).toNat
        rw [← ea] at this; exact this
      rw [this]
    have lz := len_cs (nmT c taken)
    refine ⟨?_, ?_, fun x hx => ?_⟩
    · rw [len_cs, e, List.length_append, List.length_append, List.length_singleton]; omega
    · rw [len_cs, e, List.length_append, List.length_append, List.length_singleton, List.length_take, List.length_drop]; omega
    · rw [e] at hx
      rcases List.mem_append.mp hx with hx | hx
      · rcases List.mem_append.mp hx with hx | hx
        · exact l3 x (List.mem_of_mem_take hx)
        · rw [List.mem_singleton.mp hx]
          exact sgnC_mem (Int.emod_nonneg _ (by decide)) (Int.emod_lt_of_pos _ (by decide))
      · exact l3 x (List.mem_of_mem_drop hx)
  · exact nm2_ok c ht
theorem nodup_le {α : Type} [DecidableEq α] : ∀ {l m : List α}, l.Nodup → (∀ x ∈ l, x ∈ m) → l.length ≤ m.length
  | [], m, _, _ => Nat.zero_le _
  | x :: r, m, hn, hs => by
    rw [List.nodup_cons] at hn
    have hx : x ∈ m := hs x List.mem_cons_self
    have ih := nodup_le (l := r) (m := m.erase x) hn.2 fun y hy => (List.mem_erase_of_ne (fun e => hn.1 (by rw [← e]; exact hy))).mpr (hs y (List.mem_cons_of_mem _ hy))
    rw [List.length_erase_of_mem hx] at ih
    have : 0 < m.length := List.length_pos_of_mem hx
    rw [List.length_cons]; omega
theorem frees_ne {taken : List Str} (h : taken.length ≤ 70) : frees taken ≠ [] := by
  intro e
  have hall : ∀ z ∈ (List.range (taken.length + 1)).map (fun (j : Nat) => numS (j : Int)), z ∈ taken := fun z hz => by
    unfold frees at e
    have := List.filter_eq_nil_iff.mp e z hz
    simpa using this
  have hn : ((List.range (taken.length + 1)).map (fun (j : Nat) => numS (j : Int))).Nodup := by
    refine List.pairwise_map.mpr (List.Pairwise.imp_of_mem (R := (· ≠ ·)) (fun {a b} ha hb hne q => hne (numInj ?_ ?_ q)) List.nodup_range)
    · have := List.mem_range.mp ha; omega
    · have := List.mem_range.mp hb; omega
  have := nodup_le hn hall
  rw [List.length_map, List.length_range] at this
  omega
theorem frees_head {taken : List Str} (h : taken.length ≤ 70) : (frees taken).headD "" ∈ frees taken := by
  cases e : frees taken with
  | nil => exact absurd e (frees_ne h)
  | cons a r => exact List.mem_cons_self
theorem nameOf_new (c : Int) {taken : List Str} (h : taken.length ≤ 70) : nameOf c taken ∉ taken := by
  unfold nameOf
  split
  · rename_i h1; simpa using h1
  · have := List.mem_filter.mp (frees_head h)
    simpa using this.2
theorem nameOf_ok (c : Int) {taken : List Str} (h : taken.length ≤ 70) (ht : ∀ z ∈ taken, NameOk z) : NameOk (nameOf c taken) := by
  unfold nameOf
  split
  · exact nm3_ok c ht
  · have := (List.mem_filter.mp (frees_head h)).1
    obtain ⟨j, hj, e⟩ := List.mem_map.mp this
    rw [← e]
    exact numOk (by have := List.mem_range.mp hj; omega)
end LW

set_option maxHeartbeats 4000000
/-! lines, and strings in order -/
namespace LW
open PySem L2 PD PyProof.Rows
/-! lines -/
def some1 : Str := " !\"#$&'()*+,-./0123456789:;<=>?@ABCDEFGHIJKLMNOPQRSTUVWXYZ[\\]^_`"
def some2 : Str := "abcdefghijklmnopqrstuvwxyz{|}~"
abbrev somes : Str := some1 ++ some2
def someC (i : Int) : Nat := (cs some1 ++ cs some2).getD i.toNat 0
def lsize (c : Int) : Int := if decide (c / 4 % 9 = 1) = true then c / 36 % 201 else c % 4
def ln0 (c : Int) : Str := Str.join "" ((List.range (lsize c).toNat).map fun (j : Nat) => chS (someC ((c / 7 + (j : Int) * (1 + c % 5)) % 94)))
def lineOf (c : Int) : Str := if (decide (c / 3 % 8 = 1) && decide (lsize c < 199)) = true then cutS (ln0 c) none (some 1) ++ ": " ++ cutS (ln0 c) (some 1) none else ln0 c
def LineOk (z : Str) : Prop := z.length ≤ 200 ∧ ∀ c ∈ cs z, 32 ≤ c ∧ c ≤ 126
theorem cs_somes : cs somes = cs some1 ++ cs some2 := cs_app _ _
theorem somes_len : (cs some1 ++ cs some2).length = 94 := by decide +kernel
theorem len_somes : somes.length = 94 := by rw [len_cs, cs_somes, somes_len]
theorem len_some1 : some1.length = 64 := by decide +kernel
theorem len_some2 : some2.length = 30 := by decide +kernel
theorem somes_ok : ∀ c ∈ cs some1 ++ cs some2, 32 ≤ c ∧ c ≤ 126 := by
  have a : ((cs some1 ++ cs some2).all fun c => decide (32 ≤ c ∧ c ≤ 126)) = true := by decide +kernel
  exact fun c hc => of_decide_eq_true (List.all_eq_true.mp a c hc)
theorem some_at {i : Int} (h0 : 0 ≤ i) (h : i < 94) : atI (cs somes) i = some (someC i) := by
  have hi : i.toNat < (cs some1 ++ cs some2).length := by rw [somes_len]; omega
  have e : ((i.toNat : Nat) : Int) = i := by omega
  have h2 : (cs some1 ++ cs some2)[i.toNat]? = some (someC i) := by
    unfold someC
    rw [List.getD_eq_getElem?_getD, List.getElem?_eq_getElem hi]; rfl
  have h3 := atI_nat h2
  rw [e] at h3
  rw [cs_somes]
  exact h3
theorem someC_mem {i : Int} (h0 : 0 ≤ i) (h : i < 94) : 32 ≤ someC i ∧ someC i ≤ 126 := by
  have hi : i.toNat < (cs some1 ++ cs some2).length := by rw [somes_len]; omega
  refine somes_ok _ ?_
  unfold someC
  rw [List.getD_eq_getElem?_getD, List.getElem?_eq_getElem hi]
  exact List.getElem_mem hi
theorem lsize_bd (c : Int) : 0 ≤ lsize c ∧ lsize c ≤ 200 := by
  unfold lsize
  split
  · exact ⟨Int.emod_nonneg _ (by decide), Int.le_of_lt_add_one (Int.emod_lt_of_pos _ (by decide))⟩
  · have := Int.emod_lt_of_pos c (show (0 : Int) < 4 by decide)
    exact ⟨Int.emod_nonneg _ (by decide), by omega⟩
theorem cs_ln0 (c : Int) : cs (ln0 c) = (List.range (lsize c).toNat).map fun (j : Nat) => someC ((c / 7 + (j : Int) * (1 + c % 5)) % 94) := cs_join _ _
theorem ln0_len (c : Int) : ((ln0 c).length : Int) = lsize c := by
  have := lsize_bd c
  rw [len_cs, cs_ln0, List.length_map, List.length_range]; omega
theorem ln0_ok (c : Int) : LineOk (ln0 c) := by
  have h1 := lsize_bd c
  have h2 := ln0_len c
  refine ⟨by omega, fun x hx => ?_⟩
  rw [cs_ln0] at hx
  obtain ⟨j, _, rfl⟩ := List.mem_map.mp hx
  exact someC_mem (Int.emod_nonneg _ (by decide)) (Int.emod_lt_of_pos _ (by decide))
theorem cs_take1 (z : Str) : cs (cutS z none (some 1)) = (cs z).take 1 := cs_take z 1
theorem cs_drop1 (z : Str) : cs (cutS z (some 1) none) = (cs z).drop 1 := cs_drop z 1
theorem line_ok (c : Int) : LineOk (lineOf c) := by
  unfold lineOf
  split
  · rename_i h
    rw [Bool.and_eq_true] at h
    have h2 : lsize c < 199 := by simpa using h.2
    have h3 := ln0_len c
    have h4 := len_cs (ln0 c)
    have e : cs (cutS (ln0 c) none (some 1) ++ ": " ++ cutS (ln0 c) (some 1) none) = (cs (ln0 c)).take 1 ++ cs ": " ++ (cs (ln0 c)).drop 1 := by rw [cs_app, cs_app, cs_take1, cs_drop1]
    have h5 : (cs ": ").length = 2 := by decide +kernel
    have h6 : ∀ x ∈ cs ": ", 32 ≤ x ∧ x ≤ 126 := by decide +kernel
    refine ⟨?_, fun x hx => ?_⟩
    · rw [len_cs, e, List.length_append, List.length_append, List.length_take, List.length_drop, h5]; omega
    · rw [e] at hx
      rcases List.mem_append.mp hx with hx | hx
      · rcases List.mem_append.mp hx with hx | hx
        · exact (ln0_ok c).2 x (List.mem_of_mem_take hx)
        · exact h6 x hx
      · exact (ln0_ok c).2 x (List.mem_of_mem_drop hx)
  · exact ln0_ok c
theorem name_tx {z : Str} (h : NameOk z) : Tx0 z := by
  obtain ⟨h1, h2, h3⟩ := h
  refine ⟨by omega, fun c hc => ?_⟩
  have a : ((cs sgn).all fun c => decide (c < 256)) = true := by decide +kernel
  exact of_decide_eq_true (List.all_eq_true.mp a c (h3 c hc))
theorem line_tx {z : Str} (h : LineOk z) : Tx0 z := ⟨Nat.le_trans h.1 (by decide), fun c hc => by have := h.2 c hc; omega⟩
/-! strings in order -/
theorem lt_irr (a : List Nat) : ¬ a < a := List.lt_irrefl a
theorem le_tr {a b c : List Nat} (h : ¬ b < a) (k : ¬ c < b) : ¬ c < a := List.le_trans (l₁ := a) (l₂ := b) (l₃ := c) h k
theorem le_as {a b : List Nat} (h : ¬ b < a) (k : ¬ a < b) : a = b := List.le_antisymm (as := a) (bs := b) h k
theorem le_tot (a b : List Nat) : ¬ b < a ∨ ¬ a < b := List.le_total a b
theorem lt_as {a b : List Nat} (h : a < b) : ¬ b < a := List.lt_asymm h
abbrev leS (a b : Str) : Bool := !decide (cs b < cs a)
def sortS (zs : List Str) : List Str := zs.mergeSort leS
theorem sortS_perm (zs : List Str) : (sortS zs).Perm zs := List.mergeSort_perm zs _
theorem sortS_pw (zs : List Str) : (sortS zs).Pairwise fun a b => ¬ cs b < cs a := by
  have h := List.pairwise_mergeSort (le := leS) (fun a b c h k => by
    have h1 : ¬ cs b < cs a := by simpa [leS] using h
    have h2 : ¬ cs c < cs b := by simpa [leS] using k
    have := le_tr h1 h2
    simp [leS, this]) (fun a b => by
    rcases le_tot (cs a) (cs b) with h | h
    · simp [leS, h]
    · simp [leS, h]) zs
  exact h.imp fun {a b} q => by simpa [leS] using q
theorem risingS_pw : ∀ {l : List Str} {x : Str}, risingS x l = true → (x :: l).Pairwise fun a b => ¬ cs b < cs a
  | [], x, _ => List.pairwise_singleton _ _
  | a :: r, x, h => by
    have h0 : (!Spec.ltCps (cs a) (cs x) && risingS a r) = true := h
    rw [Bool.and_eq_true, ltCps_eq] at h0
    have h1 : ¬ cs a < cs x := by simpa using h0.1
    have ih := risingS_pw h0.2
    refine List.pairwise_cons.mpr ⟨fun y hy => ?_, ih⟩
    rcases List.mem_cons.mp hy with rfl | hy
    · exact h1
    · exact le_tr h1 (List.rel_of_pairwise_cons ih hy)
theorem sorted_pw {l : List Str} (h : sortedS l = true) : l.Pairwise fun a b => ¬ cs b < cs a := by
  cases l with
  | nil => exact List.Pairwise.nil
  | cons x r => exact risingS_pw h
theorem sortS_uniq {ys zs : List Str} (p : ys.Perm zs) (h : sortedS ys = true) : ys = sortS zs :=
  List.Perm.eq_of_pairwise (fun a b _ _ h k => cs_ext (le_as h k)) (sorted_pw h) (sortS_pw zs) (p.trans (sortS_perm zs).symm)
theorem sortS_mem {zs : List Str} {x : Str} : x ∈ sortS zs ↔ x ∈ zs := (sortS_perm zs).mem_iff
theorem sortS_len (zs : List Str) : (sortS zs).length = zs.length := (sortS_perm zs).length_eq
/-- without one twice it rises -/
theorem sortS_rise {zs : List Str} (h : zs.Nodup) : (sortS zs).Pairwise fun a b => cs a < cs b := by
  have h1 := sortS_pw zs
  have h2 : (sortS zs).Nodup := (sortS_perm zs).nodup_iff.mpr h
  refine (h1.and h2).imp fun {a b} q => ?_
  exact Decidable.byContradiction fun k => q.2 (cs_ext (le_as q.1 k))
end LW

set_option maxHeartbeats 4000000
namespace K1
open PySem L2 PD PyProof.Rows
def topS (i : Nat) : Stmt := PySem.Challenge.pw_patchweave_k01_changes_checked.main.body.getD i (.Pass ⟨0, 0, 0, 0⟩)

/-! ### data -/
structure Deed where
  w : Str
  m : Option (Str × Int)
  l : Option Str
structure Change where
  n : Str
  ls : List Str
  ds : List Deed
def qM : Option (Str × Int) → PyData
  | none => .none
  | some (n, k) => .tuple [.str n, .int k]
def qD (d : Deed) : PyData := match d.l with
  | none => .tuple [.str d.w, qM d.m]
  | some l => .tuple [.str d.w, qM d.m, .str l]
def qC (c : Change) : PyData := .tuple [.str c.n, .list (c.ls.map .str), .list (c.ds.map qD)]
def sgn : Str := "abcdefghijklmnopqrstuvwxyz0123456789"
def isName (z : Str) : Bool := !(decide (z = "") || decide (12 < (z.length : Int))) && z.cps.toList.all fun c => decide (c ∈ sgn.cps.toList)
def isLine (z : Str) : Bool := !decide (200 < (z.length : Int)) && z.cps.toList.all fun c => (!decide ((⟨#[c]⟩ : Str).cps.toList < (" " : Str).cps.toList)) && (!decide (("~" : Str).cps.toList < (⟨#[c]⟩ : Str).cps.toList))
/-- the leans rise -/
def rising : List Str → Bool
  | a :: b :: r => decide (a.cps.toList < b.cps.toList) && rising (b :: r)
  | _ => true
def badNames (n : Str) (ls : List Str) : Bool := !((n :: ls).all isName) || !rising ls || decide (n ∈ ls)
def badDeed (d : Deed) : Bool := !decide (d.w ∈ (["add", "cut", "set"] : List Str)) || (!decide (d.w = "add") && d.m.isNone) || (!decide (d.w = "cut") && !(isLine (d.l.getD "")))
def badDeeds (ds : List Deed) : Bool := decide (20 < ds.length) || ds.any badDeed
def notLeaned (n : Str) (ls : List Str) (d : Deed) : Bool := match d.m with
  | none => false
  | some (x, _) => !decide (x = n) && !decide (x ∈ ls)
/-- a deed that can be looked at -/
def DeedOk (d : Deed) : Prop := Tx0 d.w ∧ (d.w ≠ "cut" → d.l.isSome = true) ∧ (∀ l, d.l = some l → Tx0 l) ∧ ∀ x k, d.m = some (x, k) → Tx0 x
def ChangeOk (c : Change) : Prop := Tx0 c.n ∧ (∀ z ∈ c.ls, Tx0 z) ∧ c.ls.length ≤ 1000 ∧ c.ds.length ≤ 1000 ∧ ∀ d ∈ c.ds, DeedOk d

structure Tx (K : PySem.W.Frag) (mg : Str → Option Value) (cB cN : Addr) : Prop where
  len : mg "len" = none
  str : mg "str" = none
  min : mg "min" = none
  range : mg "range" = none
  sorted : mg "sorted" = none
  list : mg "list" = none
  all : mg "all" = none
  zip : mg "zip" = none
  signs : ∃ t, mg "NAME_SIGNS" = some (.str sgn t)
  name : ∃ t, mg "LONGEST_NAME" = some (.int 12 t)
  line : ∃ t, mg "LONGEST_LINE" = some (.int 200 t)
  deeds : ∃ t, mg "MOST_DEEDS" = some (.int 20 t)
  words : ∃ t, mg "WORDS" = some (.ref t) ∧ ∀ H, SqT K H t [.str "add", .str "cut", .str "set"]
  bad : Er K mg "BadChange" cB
  not : Er K mg "NotLeaned" cN

section
variable {P : Program} {w : World} {K : PySem.W.Frag} {mg : Str → Option Value} {base : Heap} {cB cN : Addr}
/-! ### is_name -/
abbrev sIsName : Stmt := topS 16
abbrev nIsName : List Str := ["text", "sign"]
theorem scIsName : FnScope nIsName ["text"] (defScope sIsName) := ⟨rfl, rfl, rfl, by decide +kernel, rfl, by decide +kernel, by decide +kernel⟩
theorem ndIsName : (nIsName).Nodup := scIsName.nd
theorem loIsName : (["text"] : List Str).all (locB (defScope sIsName)) = true := by decide +kernel
theorem glIsName : (["all", "LONGEST_NAME", "len"] : List Str).all (glB (defScope sIsName)) = true := by decide +kernel
def rIsName : List Sl → DOut → Prop := fun as o => ∃ z, as = [.sh (.str z)] ∧ Tx0 z ∧ o = .val (.bool (isName z))
theorem okIsName {f : Addr} {fd : FuncData} (F : Fun K "is_name" "is_name" sIsName f fd) (T : Tx K mg cB cN) : FnOk P w K mg base (L2N.CX P w) 1 f fd ["text"] (spD K 1 rIsName) := by
  refine fnD F scIsName (by decide) fun cdv A outer s H E as o hr hl hR => ?_
  obtain ⟨z, rfl, hz, rfl⟩ := hR
  have hc : (cxOf (L2N.CX P w) P w K mg base nIsName "is_name" (defScope sIsName) f cdv A outer s H E).calm = true := rfl
  have lz : z.length ≤ 1000 := hz.1
  refine sds_cons (sd_if (et_w (ew_or (et_c cd_eqS (ed_v loIsName 0) ed_str) (fun _ => (ew_or1 (et_c cd_gt (ed_lenS (ed_v loIsName 0) (by omega) (gl_of glIsName 2) T.len) (ed_gint (gl_of glIsName 1) T.name)))))) (fun hb => ?_) (fun hb => ?_))
  · refine sds_one (sd_ret ed_bl ?_)
    show PyData.bool _ = .bool (isName z)
    unfold isName
    rw [hb]; rfl
  · refine sds_nil ?_
    refine sds_one (sd_ret (ed_all (bs := z.cps.toList.map fun c => decide (c ∈ sgn.cps.toList)) hc (EL.rd (EL.to (el_lcS (j := 1) ⟨hc, ndIsName, blkOk_by (N := nIsName) (sc := defScope sIsName) (by decide +kernel), by decide, rfl, rfl, by intro _; rfl⟩ (fun _ => true) _ (ed_v loIsName 0) (by omega) (fun x hx s H C cl fp => rfl) (fun x hx _ s H C cl fp => (ed_c cd_inC (ed_b 1) (ed_gstr gl_b T.signs)))) (by rw [lc_all, List.map_map]; rfl))) (gl_of glIsName 0) T.all) ?_)
    show PyData.bool _ = .bool (isName z)
    unfold isName
    rw [hb, List.all_map]; rfl
/-! ### is_line -/
abbrev sIsLine : Stmt := topS 17
abbrev nIsLine : List Str := ["text", "sign"]
theorem scIsLine : FnScope nIsLine ["text"] (defScope sIsLine) := ⟨rfl, rfl, rfl, by decide +kernel, rfl, by decide +kernel, by decide +kernel⟩
theorem ndIsLine : (nIsLine).Nodup := scIsLine.nd
theorem loIsLine : (["text"] : List Str).all (locB (defScope sIsLine)) = true := by decide +kernel
theorem glIsLine : (["LONGEST_LINE", "all", "len"] : List Str).all (glB (defScope sIsLine)) = true := by decide +kernel
def rIsLine : List Sl → DOut → Prop := fun as o => ∃ z, as = [.sh (.str z)] ∧ Tx0 z ∧ o = .val (.bool (isLine z))
theorem okIsLine {f : Addr} {fd : FuncData} (F : Fun K "is_line" "is_line" sIsLine f fd) (T : Tx K mg cB cN) : FnOk P w K mg base (L2N.CX P w) 1 f fd ["text"] (spD K 1 rIsLine) := by
  refine fnD F scIsLine (by decide) fun cdv A outer s H E as o hr hl hR => ?_
  obtain ⟨z, rfl, hz, rfl⟩ := hR
  have hc : (cxOf (L2N.CX P w) P w K mg base nIsLine "is_line" (defScope sIsLine) f cdv A outer s H E).calm = true := rfl
  have lz : z.length ≤ 1000 := hz.1
  refine sds_cons (sd_if (et_c cd_gt (ed_lenS (ed_v loIsLine 0) (by omega) (gl_of glIsLine 2) T.len) (ed_gint (gl_of glIsLine 0) T.line)) (fun hb => ?_) (fun hb => ?_))
  · refine sds_one (sd_ret ed_bl ?_)
    show PyData.bool _ = .bool (isLine z)
    unfold isLine
    rw [hb]; rfl
  · refine sds_nil ?_
    refine sds_one (sd_ret (ed_all (bs := z.cps.toList.map fun c => (!decide ((⟨#[c]⟩ : Str).cps.toList < (" " : Str).cps.toList)) && (!decide (("~" : Str).cps.toList < (⟨#[c]⟩ : Str).cps.toList))) hc (EL.rd (EL.to (el_lcS (j := 1) ⟨hc, ndIsLine, blkOk_by (N := nIsLine) (sc := defScope sIsLine) (by decide +kernel), by decide, rfl, rfl, by intro _; rfl⟩ (fun _ => true) _ (ed_v loIsLine 0) (by omega) (fun x hx s H C cl fp => rfl) (fun x hx _ s H C cl fp => (ed_ch cd_leS cd_leS ed_str (ed_b 1) ed_str))) (by rw [lc_all, List.map_map]; rfl))) (gl_of glIsLine 1) T.all) ?_)
    show PyData.bool _ = .bool (isLine z)
    unfold isLine
    rw [hb, List.all_map]; rfl
/-! ### check_deed -/
abbrev sCheckDeed : Stmt := topS 21
abbrev nCheckDeed : List Str := ["deed", "word"]
theorem scCheckDeed : FnScope nCheckDeed ["deed"] (defScope sCheckDeed) := ⟨rfl, rfl, rfl, by decide +kernel, rfl, by decide +kernel, by decide +kernel⟩
theorem ndCheckDeed : (nCheckDeed).Nodup := scCheckDeed.nd
theorem loCheckDeed : (["deed", "word"] : List Str).all (locB (defScope sCheckDeed)) = true := by decide +kernel
theorem glCheckDeed : (["WORDS", "BadChange", "is_line"] : List Str).all (glB (defScope sCheckDeed)) = true := by decide +kernel
def rCheckDeed (cB : Addr) : List Sl → DOut → Prop := fun as o => ∃ d, as = [.sh (qD d)] ∧ DeedOk d ∧ o = if badDeed d = true then .exc cB else .val .none
theorem qD_tup (d : Deed) : ∃ r, qD d = .tuple (.str d.w :: qM d.m :: r) ∧ ∀ l, d.l = some l → r = [.str l] := by
  unfold qD
  cases d.l with
  | none => exact ⟨[], rfl, fun _ h => nomatch h⟩
  | some l => exact ⟨[.str l], rfl, fun _ h => by cases h; rfl⟩
theorem none_qM (m : Option (Str × Int)) : isNone (qM m) = m.isNone := by
  cases m with
  | none => rfl
  | some p => rfl
theorem okCheckDeed {f : Addr} {fd : FuncData} (F : Fun K "check_deed" "check_deed" sCheckDeed f fd) (T : Tx K mg cB cN) (cIsLine : Cal P w K mg base 1 "is_line" 1 rIsLine) : FnOk P w K mg base (L2N.CX P w) 2 f fd ["deed"] (spD K 1 (rCheckDeed cB)) := by
  refine fnD F scCheckDeed (by decide) fun cdv A outer s H E as o hr hl hR => ?_
  obtain ⟨d, rfl, hd, rfl⟩ := hR
  have hc : (cxOf (L2N.CX P w) P w K mg base nCheckDeed "check_deed" (defScope sCheckDeed) f cdv A outer s H E).calm = true := rfl
  have tk : L2N.Takes (cxOf (L2N.CX P w) P w K mg base nCheckDeed "check_deed" (defScope sCheckDeed) f cdv A outer s H E) (fun c d _ H' => E c d H') := L2N.takes_of rfl rfl rfl rfl
  obtain ⟨r, er, hl2⟩ := qD_tup d
  obtain ⟨hw, hcut, htl, hm⟩ := hd
  rw [er]
  have lw : d.w.length ≤ 1000 := hw.1
  refine sds_cons (sd_set (i := 1) ndCheckDeed rfl (loc_of loCheckDeed 1) (.inl rfl) (ed_ixT (ed_v loCheckDeed 0) ed_int (atI_nat (j := 0) rfl)) ?_)
  obtain ⟨t, ht1, ht2⟩ := T.words
  refine sds_cons (sd_if (et_c (cd_niT (zs := ["add", "cut", "set"])) (ed_v loCheckDeed 1) (ed_gtup (gl_of glCheckDeed 0) ht1 ht2 (fun F => IsAll.strs ["add", "cut", "set"]))) (fun hb => ?_) (fun hb => ?_))
  · have hbad : badDeed d = true := by unfold badDeed; rw [hb]; rfl
    rw [if_pos hbad]
    exact sds_one (sd_rz T.bad hc tk (gl_of glCheckDeed 1) (ed_fstr (zs := [_, _]) (.cons ed_str (.cons (ed_fmtR (ed_v loCheckDeed 1) (Nat.le_trans (sz_repr hw) (by decide))) .nil)) (by have := sz_repr hw; show 21 + ((reprText d.w).length + 0) ≤ _; omega)) rfl)
  · refine sds_nil ?_
    refine sds_cons (sd_if (et_w (ew_and (et_c cd_neS (ed_v loCheckDeed 1) ed_str) (fun _ => (ew_and1 (et_c cd_isN (ed_ixT (ed_v loCheckDeed 0) ed_int (atI_nat (j := 1) rfl)) ed_non))))) (fun hb2 => ?_) (fun hb2 => ?_))
    · have hbad : badDeed d = true := by unfold badDeed; rw [← none_qM, hb2]; simp
      rw [if_pos hbad]
      exact sds_one (sd_rz T.bad hc tk (gl_of glCheckDeed 1) (ed_fstr (zs := [_, _, _]) (.cons ed_str (.cons (ed_fmt (ed_v loCheckDeed 1) (by omega)) (.cons ed_str .nil))) (by show 2 + (d.w.length + (13 + 0)) ≤ _; omega)) rfl)
    · refine sds_nil ?_
      refine sds_cons (sd_if (et_w (ew_and (l := !(isLine (d.l.getD ""))) (et_c cd_neS (ed_v loCheckDeed 1) ed_str) (fun h => ?_))) (fun hb3 => ?_) (fun hb3 => ?_))
      · have hn : d.w ≠ "cut" := by simpa using h
        obtain ⟨l, el⟩ := Option.isSome_iff_exists.mp (hcut hn)
        have er2 := hl2 l el
        subst er2
        rw [el]
        exact ew_and1 (et_not (et_val (ed_call cIsLine (hr.mono (by decide)) (gl_of glCheckDeed 2) tk (ea_d (ed_ixT (ed_v loCheckDeed 0) ed_int (atI_nat (j := 2) rfl)) ea_nil) rfl ⟨l, rfl, htl l el, rfl⟩)))
      · have hbad : badDeed d = true := by unfold badDeed; rw [hb3]; simp
        have hn : d.w ≠ "cut" := by
          rw [Bool.and_eq_true] at hb3
          simpa using hb3.1
        obtain ⟨l, el⟩ := Option.isSome_iff_exists.mp (hcut hn)
        have er2 := hl2 l el
        subst er2
        rw [if_pos hbad]
        have hs := sz_repr (htl l el)
        exact sds_one (sd_rz T.bad hc tk (gl_of glCheckDeed 1) (ed_fstr (zs := [_, _]) (.cons (ed_fmtR (ed_ixT (ed_v loCheckDeed 0) ed_int (atI_nat (j := 2) rfl)) (Nat.le_trans hs (by decide))) (.cons ed_str .nil)) (by show (reprText l).length + (11 + 0) ≤ _; omega)) rfl)
      · have hbad : badDeed d = false := by
          unfold badDeed
          rw [← none_qM, hb, hb2, hb3]; rfl
        rw [hbad, if_neg Bool.false_ne_true]
        exact sds_nil (sds_nil rfl)
/-! ### check_deeds -/
abbrev sCheckDeeds : Stmt := topS 20
abbrev nCheckDeeds : List Str := ["deeds", "deed"]
theorem scCheckDeeds : FnScope nCheckDeeds ["deeds"] (defScope sCheckDeeds) := ⟨rfl, rfl, rfl, by decide +kernel, rfl, by decide +kernel, by decide +kernel⟩
theorem ndCheckDeeds : (nCheckDeeds).Nodup := scCheckDeeds.nd
theorem loCheckDeeds : (["deeds", "deed"] : List Str).all (locB (defScope sCheckDeeds)) = true := by decide +kernel
theorem glCheckDeeds : (["MOST_DEEDS", "len", "BadChange", "check_deed"] : List Str).all (glB (defScope sCheckDeeds)) = true := by decide +kernel
def rCheckDeeds (cB : Addr) : List Sl → DOut → Prop := fun as o => ∃ ds, as = [.sh (.list (ds.map qD))] ∧ ds.length ≤ 1000 ∧ (∀ d ∈ ds, DeedOk d) ∧ o = if badDeeds ds = true then .exc cB else .val .none
theorem log_small {n : Nat} (h : n ≤ 100000) : ((n : Int).natAbs).log2 < 1920 := by
  show n.log2 < 1920
  rcases Nat.eq_zero_or_pos n with rfl | hp
  · decide
  · exact (Nat.log2_lt (by omega)).mpr (Nat.lt_of_le_of_lt h (by decide +kernel))
theorem okCheckDeeds {f : Addr} {fd : FuncData} (F : Fun K "check_deeds" "check_deeds" sCheckDeeds f fd) (T : Tx K mg cB cN) (cCheckDeed : Cal P w K mg base 2 "check_deed" 1 (rCheckDeed cB)) : FnOk P w K mg base (L2N.CX P w) 3 f fd ["deeds"] (spD K 1 (rCheckDeeds cB)) := by
  refine fnD F scCheckDeeds (by decide) fun cdv A outer s H E as o hr hl hR => ?_
  obtain ⟨ds, rfl, hz, hd, rfl⟩ := hR
  have hc : (cxOf (L2N.CX P w) P w K mg base nCheckDeeds "check_deeds" (defScope sCheckDeeds) f cdv A outer s H E).calm = true := rfl
  have tk : L2N.Takes (cxOf (L2N.CX P w) P w K mg base nCheckDeeds "check_deeds" (defScope sCheckDeeds) f cdv A outer s H E) (fun c d _ H' => E c d H') := L2N.takes_of rfl rfl rfl rfl
  refine sds_cons (sd_if (et_c cd_gt (ed_len (ED.rd (ed_v loCheckDeeds 0)) (gl_of glCheckDeeds 1) T.len) (ed_gint (gl_of glCheckDeeds 0) T.deeds)) (fun hb => ?_) (fun hb => ?_))
  · have hlen : 20 < ds.length := by
      have h := of_decide_eq_true hb
      rw [List.length_map] at h
      omega
    have hbad : badDeeds ds = true := by unfold badDeeds; rw [decide_eq_true hlen]; rfl
    rw [if_pos hbad]
    have hmz : (ds.map qD).length ≤ 1000 := by rw [List.length_map]; exact hz
    refine sds_one (sd_rz T.bad hc tk (gl_of glCheckDeeds 2) (ed_fstr (zs := [_, _, _]) (.cons (ed_fmtI (ed_len (ED.rd (ed_v loCheckDeeds 0)) (gl_of glCheckDeeds 1) T.len) (log_small (by omega))) (.cons ed_str (.cons (ed_fmtI (ed_gint (gl_of glCheckDeeds 0) T.deeds) (by decide)) .nil))) ?_) rfl)
    have h1 := num_len hmz
    have h2 : (Str.ofString (toString (20 : Int))).length ≤ 10 := num_len (n := 20) (by decide)
    show (Str.ofString (toString (((ds.map qD).length : Nat) : Int))).length + (21 + ((Str.ofString (toString (20 : Int))).length + 0)) ≤ 100000
    omega
  · refine sds_nil ?_
    have hlen : ds.length ≤ 20 := by
      have h := of_decide_eq_false hb
      rw [List.length_map] at h
      omega
    refine sds_cons (sd_for (fun i ρ => ∃ s, ρ = [.sh (.list (ds.map qD)), s] ∧ (ds.take i).any badDeed = false) (L2.passes_of rfl) hc (j := 1) ndCheckDeeds rfl (loc_of loCheckDeeds 1) (.inl rfl) (ED.pst (ed_v loCheckDeeds 0)) ⟨_, rfl, by simp⟩ (fun i d ρ1 hi hI => ?_) (fun ρ1 hI => ?_))
    · obtain ⟨s1, rfl, hI⟩ := hI
      rw [List.getElem?_map] at hi
      cases hx : ds[i]? with
      | none => rw [hx] at hi; cases hi
      | some x =>
        rw [hx] at hi
        cases hi
        have hm : x ∈ ds := List.mem_of_getElem? hx
        cases hbx : badDeed x with
        | true =>
          have hbad : badDeeds ds = true := by
            unfold badDeeds
            rw [List.any_eq_true.mpr ⟨x, hm, hbx⟩, Bool.or_true]
          rw [if_pos hbad]
          exact sds_one (sd_exprX (ex_call cCheckDeed (hr.mono (by decide)) (gl_of glCheckDeeds 3) tk (ea_d (ed_v loCheckDeeds 1) ea_nil) rfl (D := cB) ⟨x, rfl, hd x hm, by rw [if_pos hbx]⟩ rfl))
        | false =>
          refine sds_cons (sd_expr (ed_call cCheckDeed (hr.mono (by decide)) (gl_of glCheckDeeds 3) tk (ea_d (ed_v loCheckDeeds 1) ea_nil) rfl ⟨x, rfl, hd x hm, by rw [hbx, if_neg Bool.false_ne_true]⟩) (sds_nil ⟨_, rfl, ?_⟩))
          rw [List.take_add_one, hx, List.any_append, hI]
          simp [hbx]
    · obtain ⟨s1, rfl, hI⟩ := hI
      rw [List.length_map, List.take_length] at hI
      have hbad : badDeeds ds = false := by
        unfold badDeeds
        rw [hI, decide_eq_false (by omega)]; rfl
      rw [hbad, if_neg Bool.false_ne_true]
      exact sds_nil rfl
end
end K1

set_option maxHeartbeats 4000000
namespace K1
open PySem L2 PD PyProof.Rows
section
variable {P : Program} {w : World} {K : PySem.W.Frag} {mg : Str → Option Value} {base : Heap} {cB cN : Addr}
/-! ### check_marks -/
abbrev sCheckMarks : Stmt := topS 22
abbrev nCheckMarks : List Str := ["name", "leans", "deeds", "deed", "mark"]
theorem scCheckMarks : FnScope nCheckMarks ["name", "leans", "deeds"] (defScope sCheckMarks) := ⟨rfl, rfl, rfl, by decide +kernel, rfl, by decide +kernel, by decide +kernel⟩
theorem ndCheckMarks : (nCheckMarks).Nodup := scCheckMarks.nd
theorem loCheckMarks : (["name", "leans", "deeds", "deed", "mark"] : List Str).all (locB (defScope sCheckMarks)) = true := by decide +kernel
theorem glCheckMarks : (["NotLeaned"] : List Str).all (glB (defScope sCheckMarks)) = true := by decide +kernel
def rCheckMarks (cN : Addr) : List Sl → DOut → Prop := fun as o => ∃ c, as = [.sh (.str c.n), .sh (.list (c.ls.map .str)), .sh (.list (c.ds.map qD))] ∧ ChangeOk c ∧ o = if c.ds.any (notLeaned c.n c.ls) = true then .exc cN else .val .none
theorem okCheckMarks {f : Addr} {fd : FuncData} (F : Fun K "check_marks" "check_marks" sCheckMarks f fd) (T : Tx K mg cB cN) : FnOk P w K mg base (L2N.CX P w) 1 f fd ["name", "leans", "deeds"] (spD K 3 (rCheckMarks cN)) := by
  refine fnD F scCheckMarks (by decide) fun cdv A outer s H E as o hr hl hR => ?_
  obtain ⟨c, rfl, ok, rfl⟩ := hR
  obtain ⟨n, ls, ds⟩ := c
  obtain ⟨hn, hls, hll, hdl, hds⟩ := ok
  dsimp only at hn hls hll hdl hds ⊢
  have hc : (cxOf (L2N.CX P w) P w K mg base nCheckMarks "check_marks" (defScope sCheckMarks) f cdv A outer s H E).calm = true := rfl
  have tk : L2N.Takes (cxOf (L2N.CX P w) P w K mg base nCheckMarks "check_marks" (defScope sCheckMarks) f cdv A outer s H E) (fun c d _ H' => E c d H') := L2N.takes_of rfl rfl rfl rfl
  refine sds_cons (sd_for (fun i ρ => ∃ s1 s2, ρ = [.sh (.str n), .sh (.list (ls.map .str)), .sh (.list (ds.map qD)), s1, s2] ∧ (ds.take i).any (notLeaned n ls) = false) (L2.passes_of rfl) hc (j := 3) ndCheckMarks rfl (loc_of loCheckMarks 3) (.inl rfl) (ED.pst (ed_v loCheckMarks 2)) ⟨_, _, rfl, by simp⟩ (fun i d ρ1 hi hI => ?_) (fun ρ1 hI => ?_))
  · obtain ⟨s1, s2, rfl, hI⟩ := hI
    rw [List.getElem?_map] at hi
    cases hx : ds[i]? with
    | none => rw [hx] at hi; cases hi
    | some x =>
      rw [hx] at hi
      cases hi
      have hm : x ∈ ds := List.mem_of_getElem? hx
      obtain ⟨r, er, _⟩ := qD_tup x
      obtain ⟨_, _, _, hxm⟩ := hds x hm
      rw [er]
      have more : ∀ b, notLeaned n ls x = b → (ds.take (i + 1)).any (notLeaned n ls) = b := fun b hb => by
        rw [List.take_add_one, hx, List.any_append, hI]
        simp [hb]
      refine sds_cons (sd_set (i := 4) ndCheckMarks rfl (loc_of loCheckMarks 4) (.inl rfl) (ed_ixT (ed_v loCheckMarks 3) ed_int (atI_nat (j := 1) rfl)) ?_)
      cases em : x.m with
      | none =>
        refine sds_cons (sd_if (et_w (ew_and (l := false) (et_c cd_notN (ed_v loCheckMarks 4) ed_non) (fun h => by cases h))) (fun hb => by cases hb) (fun hb => ?_))
        exact sds_nil (sds_nil ⟨_, _, rfl, more false (by unfold notLeaned; rw [em])⟩)
      | some y =>
        obtain ⟨z, k⟩ := y
        have hz := hxm z k em
        refine sds_cons (sd_if (et_w (ew_and (et_c cd_notN (ed_v loCheckMarks 4) ed_non) (fun _ => (ew_and (et_c cd_neS (ed_ixT (ds := [.str z, .int k]) (ed_v loCheckMarks 4) ed_int (atI_nat (j := 0) rfl)) (ed_v loCheckMarks 0)) (fun _ => (ew_and1 (et_niL (ed_ixT (ds := [.str z, .int k]) (ed_v loCheckMarks 4) ed_int (atI_nat (j := 0) rfl)) (ED.rd (ed_v loCheckMarks 1))))))))) (fun hb => ?_) (fun hb => ?_))
        · have hnl : notLeaned n ls x = true := by unfold notLeaned; rw [em]; simpa [isNone, qM] using hb
          have hbad : ds.any (notLeaned n ls) = true := List.any_eq_true.mpr ⟨x, hm, hnl⟩
          rw [if_pos hbad]
          have h1 := hn.1
          have h2 := sz_repr hz
          exact sds_one (sd_rz T.not hc tk (gl_of glCheckMarks 0) (ed_fstr (zs := [_, _, _]) (.cons (ed_fmt (ed_v loCheckMarks 0) (by omega)) (.cons ed_str (.cons (ed_fmtR (ed_ixT (ds := [.str z, .int k]) (ed_v loCheckMarks 4) ed_int (atI_nat (j := 0) rfl)) (Nat.le_trans h2 (by decide))) .nil))) (by show n.length + (18 + ((reprText z).length + 0)) ≤ _; omega)) rfl)
        · refine sds_nil (sds_nil ⟨_, _, rfl, more false ?_⟩)
          unfold notLeaned; rw [em]; simpa [isNone, qM] using hb
  · obtain ⟨s1, s2, rfl, hI⟩ := hI
    rw [List.length_map, List.take_length] at hI
    rw [hI, if_neg Bool.false_ne_true]
    exact sds_nil rfl
/-! ### check_names -/
abbrev sCheckNames : Stmt := topS 19
abbrev nCheckNames : List Str := ["name", "leans", "text", "low", "high"]
theorem scCheckNames : FnScope nCheckNames ["name", "leans"] (defScope sCheckNames) := ⟨rfl, rfl, rfl, by decide +kernel, rfl, by decide +kernel, by decide +kernel⟩
theorem ndCheckNames : (nCheckNames).Nodup := scCheckNames.nd
theorem loCheckNames : (["name", "leans", "text", "low", "high"] : List Str).all (locB (defScope sCheckNames)) = true := by decide +kernel
theorem glCheckNames : (["zip", "BadChange", "is_name"] : List Str).all (glB (defScope sCheckNames)) = true := by decide +kernel
def rCheckNames (cB : Addr) : List Sl → DOut → Prop := fun as o => ∃ n ls, as = [.sh (.str n), .sh (.list (ls.map .str))] ∧ Tx0 n ∧ (∀ z ∈ ls, Tx0 z) ∧ ls.length ≤ 1000 ∧ o = if badNames n ls = true then .exc cB else .val .none
theorem rising_at : ∀ {ls : List Str}, rising ls = true ↔ ∀ (i : Nat) (a b : Str), ls[i]? = some a → ls[i + 1]? = some b → a.cps.toList < b.cps.toList
  | [] => ⟨fun _ i a b h => by simp at h, fun _ => rfl⟩
  | [_] => ⟨fun _ i a b _ h => by simp at h, fun _ => rfl⟩
  | x :: y :: r => by
    have ih := @rising_at (y :: r)
    constructor
    · intro h i a b ha hb
      unfold rising at h
      rw [Bool.and_eq_true] at h
      cases i with
      | zero => cases ha; cases hb; exact of_decide_eq_true h.1
      | succ i => exact ih.mp h.2 i a b ha hb
    · intro h
      unfold rising
      rw [Bool.and_eq_true]
      exact ⟨decide_eq_true (h 0 x y rfl rfl), ih.mpr fun i a b ha hb => h (i + 1) a b ha hb⟩
theorem okCheckNames {f : Addr} {fd : FuncData} (F : Fun K "check_names" "check_names" sCheckNames f fd) (T : Tx K mg cB cN) (cIsName : Cal P w K mg base 1 "is_name" 1 rIsName) : FnOk P w K mg base (L2N.CX P w) 2 f fd ["name", "leans"] (spD K 2 (rCheckNames cB)) := by
  refine fnD F scCheckNames (by decide) fun cdv A outer s H E as o hr hl hR => ?_
  obtain ⟨n, ls, rfl, hn, hls, hll, rfl⟩ := hR
  have hc : (cxOf (L2N.CX P w) P w K mg base nCheckNames "check_names" (defScope sCheckNames) f cdv A outer s H E).calm = true := rfl
  have tk : L2N.Takes (cxOf (L2N.CX P w) P w K mg base nCheckNames "check_names" (defScope sCheckNames) f cdv A outer s H E) (fun c d _ H' => E c d H') := L2N.takes_of rfl rfl rfl rfl
  have hall : ∀ z ∈ n :: ls, Tx0 z := fun z hz => by
    rcases List.mem_cons.mp hz with rfl | hz
    · exact hn
    · exact hls z hz
  -- each is a name
  refine sds_cons (sd_for (fun i ρ => ∃ s1, ρ = [.sh (.str n), .sh (.list (ls.map .str)), s1, .un, .un] ∧ ((n :: ls).take i).all isName = true) (L2.passes_of rfl) hc (j := 2) ndCheckNames rfl (loc_of loCheckNames 2) (.inl rfl)
    (EL.pst (el_lst (ds := (n :: ls).map .str) (by
      have h : (((n :: ls).map PyData.str).map Sl.sh) = .sh (.str n) :: ((ls.map PyData.str).map Sl.sh ++ []) := by simp
      rw [h]
      exact ea_d (ed_v loCheckNames 0) (ea_star (ED.rd (ed_v loCheckNames 1)) ea_nil)) (by rw [List.length_map, List.length_cons]; omega))) ⟨_, rfl, by simp⟩ (fun i d ρ1 hi hI => ?_) (fun ρ1 hI => ?_))
  · obtain ⟨s1, rfl, hI⟩ := hI
    rw [List.getElem?_map] at hi
    cases hx : (n :: ls)[i]? with
    | none => rw [hx] at hi; cases hi
    | some x =>
      rw [hx] at hi
      cases hi
      have hm : x ∈ n :: ls := List.mem_of_getElem? hx
      refine sds_cons (sd_if (et_not (et_val (ed_call cIsName (hr.mono (by decide)) (gl_of glCheckNames 2) tk (ea_d (ed_v loCheckNames 2) ea_nil) rfl ⟨x, rfl, hall x hm, rfl⟩))) (fun hb => ?_) (fun hb => ?_))
      · have hx0 : isName x = false := by simpa using hb
        have hbad : badNames n ls = true := by
          unfold badNames
          have : (n :: ls).all isName = false := by
            rw [← Bool.not_eq_true, List.all_eq_true]
            intro h
            rw [h x hm] at hx0; cases hx0
          rw [this]; rfl
        rw [if_pos hbad]
        have h2 := sz_repr (hall x hm)
        exact sds_one (sd_rz T.bad hc tk (gl_of glCheckNames 1) (ed_fstr (zs := [_, _]) (.cons (ed_fmtR (ed_v loCheckNames 2) (Nat.le_trans h2 (by decide))) (.cons ed_str .nil)) (by show (reprText x).length + (11 + 0) ≤ _; omega)) rfl)
      · refine sds_nil (sds_nil ⟨_, rfl, ?_⟩)
        rw [List.take_add_one, hx, List.all_append, hI]
        have : isName x = true := by simpa using hb
        simp [this]
  · obtain ⟨s1, rfl, hI⟩ := hI
    rw [List.length_map, List.take_length] at hI
    -- each is less than the next
    refine sds_cons (sd_zip (fun i ρ => ∃ s1 s2 s3, ρ = [.sh (.str n), .sh (.list (ls.map .str)), s1, s2, s3] ∧ ∀ j, j < i → ∀ a b : Str, ls[j]? = some a → ls[j + 1]? = some b → a.cps.toList < b.cps.toList) (L2.passes_of rfl) hc
      (gu_tup hc (gus_cons (gu_name (j := 3) ndCheckNames rfl (loc_of loCheckNames 3) (.inl rfl)) (gus_cons (gu_name (j := 4) ndCheckNames rfl (loc_of loCheckNames 4) (.inl rfl)) gus_nil))) (gl_of glCheckNames 0) T.zip
      (ED.pst (ed_v loCheckNames 1)) (EL.pst (el_cut (l := some 1) (u := none) (ED.rd (ed_v loCheckNames 1)) ed_int trivial)) ⟨_, _, _, rfl, fun j h => absurd h (Nat.not_lt_zero j)⟩ (fun i d1 d2 ρ1 hi1 hi2 hI2 => ?_) (fun ρ1 hI2 => ?_))
    · obtain ⟨s1, s2, s3, rfl, hI2⟩ := hI2
      have ecut : ∀ k, (PD.cutD (ls.map PyData.str) (some 1) none)[k]? = (ls.map PyData.str)[k + 1]? := fun k => by
        unfold PD.cutD
        rw [show HT.sIx (ls.map PyData.str).length 0 (some 1) = min 1 (ls.map PyData.str).length from HT.sIx_nat _ 0 1, HT.sIx_none]
        cases ls with
        | nil => simp
        | cons a r =>
          rw [show min 1 ((a :: r).map PyData.str).length = 1 from by simp]
          rw [List.getElem?_take]
          simp only [List.map_cons, List.length_cons, List.drop_succ_cons, List.drop_zero, List.getElem?_cons_succ, Nat.add_sub_cancel]
          split
          · rfl
          · rename_i hk
            exact (List.getElem?_eq_none (by omega)).symm
      rw [ecut, List.getElem?_map] at hi2
      rw [List.getElem?_map] at hi1
      cases ha : ls[i]? with
      | none => rw [ha] at hi1; cases hi1
      | some a =>
      cases hb0 : ls[i + 1]? with
      | none => rw [hb0] at hi2; cases hi2
      | some b =>
      rw [ha] at hi1
      rw [hb0] at hi2
      cases hi1
      cases hi2
      refine ⟨_, ⟨_, rfl, rfl, _, _, _, rfl, rfl, _, _, _, rfl, rfl, rfl, rfl⟩, ?_⟩
      refine sds_cons (sd_if (et_c cd_geS (ed_v loCheckNames 3) (ed_v loCheckNames 4)) (fun hb => ?_) (fun hb => ?_))
      · have hge : ¬ a.cps.toList < b.cps.toList := by simpa using hb
        have hbad : badNames n ls = true := by
          unfold badNames
          have : rising ls = false := by
            rw [← Bool.not_eq_true, rising_at]
            exact fun h => hge (h i a b ha hb0)
          rw [this]; simp
        rw [if_pos hbad]
        have la := (hls a (List.mem_of_getElem? ha)).1
        have lb := (hls b (List.mem_of_getElem? hb0)).1
        exact sds_one (sd_rz T.bad hc tk (gl_of glCheckNames 1) (ed_fstr (zs := [_, _, _, _]) (.cons ed_str (.cons (ed_fmt (ed_v loCheckNames 3) (by omega)) (.cons ed_str (.cons (ed_fmt (ed_v loCheckNames 4) (by omega)) .nil)))) (by show 27 + (a.length + (4 + (b.length + 0))) ≤ _; omega)) rfl)
      · refine sds_nil (sds_nil ⟨_, _, _, rfl, fun j hj a' b' ha' hb' => ?_⟩)
        rcases Nat.lt_or_ge j i with h | h
        · exact hI2 j h a' b' ha' hb'
        · have ej : j = i := by omega
          subst ej
          rw [ha] at ha'; rw [hb0] at hb'
          cases ha'; cases hb'
          simpa using hb
    · obtain ⟨s1, s2, s3, rfl, hI2⟩ := hI2
      have hris : rising ls = true := rising_at.mpr fun i a b ha hb => by
        refine hI2 i ?_ a b ha hb
        have h1 := (List.getElem?_eq_some_iff.mp hb).1
        have h2 : (PD.cutD (ls.map PyData.str) (some 1) none).length = ls.length - 1 := by
          unfold PD.cutD
          rw [show HT.sIx (ls.map PyData.str).length 0 (some 1) = min 1 (ls.map PyData.str).length from HT.sIx_nat _ 0 1, HT.sIx_none, List.length_take, List.length_drop, List.length_map]
          omega
        rw [h2, List.length_map]
        omega
      refine sds_cons (sd_if (et_inL (ed_v loCheckNames 0) (ED.rd (ed_v loCheckNames 1))) (fun hb => ?_) (fun hb => ?_))
      · have hbad : badNames n ls = true := by unfold badNames; rw [hb]; simp
        rw [if_pos hbad]
        have h1 := hn.1
        exact sds_one (sd_rz T.bad hc tk (gl_of glCheckNames 1) (ed_fstr (zs := [_, _]) (.cons (ed_fmt (ed_v loCheckNames 0) (by omega)) (.cons ed_str .nil)) (by show n.length + (16 + 0) ≤ _; omega)) rfl)
      · have hbad : badNames n ls = false := by unfold badNames; rw [hI, hris, hb]; rfl
        rw [hbad, if_neg Bool.false_ne_true]
        exact sds_nil (sds_nil rfl)
end
end K1
namespace K1
open PySem L2 PD PyProof.Rows
section
variable {P : Program} {w : World} {K : PySem.W.Frag} {mg : Str → Option Value} {base : Heap} {cB cN : Addr}
/-! ### check -/
abbrev sCheck : Stmt := topS 18
abbrev nCheck : List Str := ["change", "name", "leans", "deeds"]
theorem scCheck : FnScope nCheck ["change"] (defScope sCheck) := ⟨rfl, rfl, rfl, by decide +kernel, rfl, by decide +kernel, by decide +kernel⟩
theorem ndCheck : (nCheck).Nodup := scCheck.nd
theorem loCheck : (["change", "name", "leans", "deeds"] : List Str).all (locB (defScope sCheck)) = true := by decide +kernel
theorem glCheck : (["check_names", "check_deeds", "check_marks"] : List Str).all (glB (defScope sCheck)) = true := by decide +kernel
/-- what check says: nothing, BadChange, NotLeaned -/
def chk (c : Change) : Option Bool := if badNames c.n c.ls = true then some true else if badDeeds c.ds = true then some true else if c.ds.any (notLeaned c.n c.ls) = true then some false else none
def outChk (cB cN : Addr) : Option Bool → DOut
  | none => .val .none
  | some true => .exc cB
  | some false => .exc cN
def rCheck (cB cN : Addr) : List Sl → DOut → Prop := fun as o => ∃ c, as = [.sh (qC c)] ∧ ChangeOk c ∧ o = outChk cB cN (chk c)
theorem okCheck {f : Addr} {fd : FuncData} (F : Fun K "check" "check" sCheck f fd) (cCheckNames : Cal P w K mg base 2 "check_names" 2 (rCheckNames cB)) (cCheckDeeds : Cal P w K mg base 3 "check_deeds" 1 (rCheckDeeds cB)) (cCheckMarks : Cal P w K mg base 1 "check_marks" 3 (rCheckMarks cN)) : FnOk P w K mg base (L2N.CX P w) 4 f fd ["change"] (spD K 1 (rCheck cB cN)) := by
  refine fnD F scCheck (by decide) fun cdv A outer s H E as o hr hl hR => ?_
  obtain ⟨c, rfl, ok, rfl⟩ := hR
  have hc : (cxOf (L2N.CX P w) P w K mg base nCheck "check" (defScope sCheck) f cdv A outer s H E).calm = true := rfl
  have tk : L2N.Takes (cxOf (L2N.CX P w) P w K mg base nCheck "check" (defScope sCheck) f cdv A outer s H E) (fun c d _ H' => E c d H') := L2N.takes_of rfl rfl rfl rfl
  obtain ⟨hn, hls, hll, hdl, hds⟩ := id ok
  refine sds_cons (sd_asg (ed_v loCheck 0) (gu_tup hc (gus_cons (gu_name (j := 1) ndCheck rfl (loc_of loCheck 1) (.inl rfl)) (gus_cons (gu_name (j := 2) ndCheck rfl (loc_of loCheck 2) (.inl rfl)) (gus_cons (gu_name (j := 3) ndCheck rfl (loc_of loCheck 3) (.inl rfl)) gus_nil)))) ⟨_, rfl, rfl, _, _, _, rfl, rfl, _, _, _, rfl, rfl, _, _, _, rfl, rfl, rfl, rfl⟩ ?_)
  cases h1 : badNames c.n c.ls with
  | true =>
    have e : chk c = some true := by unfold chk; rw [if_pos h1]
    rw [e]
    exact sds_cons (sd_exprX (ex_call cCheckNames (hr.mono (by decide)) (gl_of glCheck 0) tk (ea_d (ed_v loCheck 1) (ea_d (ed_v loCheck 2) ea_nil)) rfl (D := cB) ⟨c.n, c.ls, rfl, hn, hls, hll, by rw [if_pos h1]⟩ rfl))
  | false =>
    refine sds_cons (sd_expr (ed_call cCheckNames (hr.mono (by decide)) (gl_of glCheck 0) tk (ea_d (ed_v loCheck 1) (ea_d (ed_v loCheck 2) ea_nil)) rfl ⟨c.n, c.ls, rfl, hn, hls, hll, by rw [h1, if_neg Bool.false_ne_true]⟩) ?_)
    cases h2 : badDeeds c.ds with
    | true =>
      have e : chk c = some true := by unfold chk; rw [h1, if_neg Bool.false_ne_true, if_pos h2]
      rw [e]
      exact sds_cons (sd_exprX (ex_call cCheckDeeds (hr.mono (by decide)) (gl_of glCheck 1) tk (ea_d (ed_v loCheck 3) ea_nil) rfl (D := cB) ⟨c.ds, rfl, hdl, hds, by rw [if_pos h2]⟩ rfl))
    | false =>
      refine sds_cons (sd_expr (ed_call cCheckDeeds (hr.mono (by decide)) (gl_of glCheck 1) tk (ea_d (ed_v loCheck 3) ea_nil) rfl ⟨c.ds, rfl, hdl, hds, by rw [h2, if_neg Bool.false_ne_true]⟩) ?_)
      cases h3 : c.ds.any (notLeaned c.n c.ls) with
      | true =>
        have e : chk c = some false := by unfold chk; rw [h1, if_neg Bool.false_ne_true, h2, if_neg Bool.false_ne_true, if_pos h3]
        rw [e]
        exact sds_cons (sd_exprX (ex_call cCheckMarks (hr.mono (by decide)) (gl_of glCheck 2) tk (ea_d (ed_v loCheck 1) (ea_d (ed_v loCheck 2) (ea_d (ed_v loCheck 3) ea_nil))) rfl (D := cN) ⟨c, rfl, ok, by rw [if_pos h3]⟩ rfl))
      | false =>
        have e : chk c = none := by unfold chk; rw [h1, if_neg Bool.false_ne_true, h2, if_neg Bool.false_ne_true, h3, if_neg Bool.false_ne_true]
        rw [e]
        exact sds_cons (sd_expr (ed_call cCheckMarks (hr.mono (by decide)) (gl_of glCheck 2) tk (ea_d (ed_v loCheck 1) (ea_d (ed_v loCheck 2) (ea_d (ed_v loCheck 3) ea_nil))) rfl ⟨c, rfl, ok, by rw [h3, if_neg Bool.false_ne_true]⟩) (sds_nil rfl))
/-! ### _law_answer -/
abbrev sAnswer : Stmt := topS 38
abbrev nAnswer : List Str := ["_law_change", "_law_e"]
theorem scAnswer : FnScope nAnswer ["_law_change"] (defScope sAnswer) := ⟨rfl, rfl, rfl, by decide +kernel, rfl, by decide +kernel, by decide +kernel⟩
theorem ndAnswer : (nAnswer).Nodup := scAnswer.nd
theorem loAnswer : (["_law_change", "_law_e"] : List Str).all (locB (defScope sAnswer)) = true := by decide +kernel
theorem glAnswer : (["check", "BadChange", "_law_alone", "NotLeaned"] : List Str).all (glB (defScope sAnswer)) = true := by decide +kernel
/-- the law's look at an error, as it can be called -/
structure Alo (P : Program) (w : World) (K : PySem.W.Frag) (mg : Str → Option Value) (base : Heap) : Prop where
  ex : ∃ (f : Addr) (fd : FuncData), FnE P w K mg base 1 f fd ["_law_e"] (spAlone K mg) ∧ mg "_law_alone" = some (.ref f) ∧ PySem.W.keepIn K (.ref f) = true ∧ Binds K fd ["_law_e"] []
structure Kits (K : PySem.W.Frag) (mg : Str → Option Value) (cB cN : Addr) : Prop where
  b : ∃ b1 b2 b3 b4 b5 b6 b7 b8, Kit8 K mg cB b1 b2 b3 b4 b5 b6 b7 b8
  n : ∃ b1 b2 b3 b4 b5 b6 b7 b8, Kit8 K mg cN b1 b2 b3 b4 b5 b6 b7 b8
  bb : PySem.W.exmOne K (.ref cB) (.ref cB) = some true
  nb : PySem.W.exmOne K (.ref cN) (.ref cB) = some false
  nn : PySem.W.exmOne K (.ref cN) (.ref cN) = some true
def ans : Option Bool → Str
  | none => "none"
  | some true => "bad"
  | some false => "not"
def rAnswer : List Sl → DOut → Prop := fun as o => ∃ c, as = [.sh (qC c)] ∧ ChangeOk c ∧ o = .val (.str (ans (chk c)))
theorem okAnswer {f : Addr} {fd : FuncData} (F : Fun K "_law_answer" "_law_answer" sAnswer f fd) (T : Tx K mg cB cN) (kits : Kits K mg cB cN) (cCheck : Cal P w K mg base 4 "check" 1 (rCheck cB cN)) (al : Alo P w K mg base) : FnOk P w K mg base (L2N.CX P w) 5 f fd ["_law_change"] (spD K 1 rAnswer) := by
  refine fnD F scAnswer (by decide) fun cdv A outer s H E as o hr hl hR => ?_
  obtain ⟨c, rfl, ok, rfl⟩ := hR
  obtain ⟨fa, fda, Fa, ma, ka, ba⟩ := al.ex
  have hrh : L2H.RoomH 1 (A.deeper (envOfC "_law_answer" (defScope sAnswer) s.heap.objs.size f cdv)) := L2H.roomH_of (hr.mono (by decide))
  have hrm : ∀ a : Addr, L2H.RoomH 1 ((A.deeper (envOfC "_law_answer" (defScope sAnswer) s.heap.objs.size f cdv)).mark (some (.ref a))) := fun a => ⟨hrh.dp, hrh.un⟩
  refine sds_cons (sd_try (i := 1) (fun C ρ => ρ = [.sh (qC c), .un] ∧ ((C = cB ∧ chk c = some true) ∨ (C = cN ∧ chk c = some false))) rfl rfl ndAnswer rfl rfl
    (.cons ⟨gl_of glAnswer 1, by decide, .inl T.bad.g⟩ (.cons ⟨gl_of glAnswer 3, by decide, .inl T.not.g⟩ .nil)) (fun W0 pn xe tk po => ?_) (fun C ρ1 h => ?_))
  · -- the call
    cases h1 : chk c with
    | none =>
      refine sds_cons (sd_if (et_c cd_isN (ed_call cCheck (hr.mono (by decide)) (gl_of glAnswer 0) tk (ea_d (ed_v loAnswer 0) ea_nil) rfl ⟨c, rfl, ok, by rw [h1]; rfl⟩) ed_non) (fun hb => ?_) (fun hb => by cases hb))
      exact sds_one (sd_ret ed_str rfl)
    | some b =>
      refine sds_one (sd_ifX (etx_is (ex_call cCheck (hr.mono (by decide)) (gl_of glAnswer 0) tk (ea_d (ed_v loAnswer 0) ea_nil) rfl (D := if b = true then cB else cN) ⟨c, rfl, ok, by rw [h1]; cases b <;> rfl⟩ ⟨rfl, ?_⟩)))
      cases b with
      | true => exact .inl ⟨rfl, rfl⟩
      | false => exact .inr ⟨rfl, rfl⟩
  · obtain ⟨rfl, h⟩ := h
    obtain ⟨b1, b2, b3, b4, b5, b6, b7, b8, kb⟩ := kits.b
    obtain ⟨n1, n2, n3, n4, n5, n6, n7, n8, kn⟩ := kits.n
    rcases h with ⟨rfl, h⟩ | ⟨rfl, h⟩
    · refine ⟨true, kits.bb, fun _ a oe pn hz hf => ?_, fun q => by cases q⟩
      refine sds_cons (sd_if (et_val (ed_alone loAnswer glAnswer 1 2 Fa (hrm a) rfl List.mem_cons_self hz hf kb ma ka ba)) (fun _ => ?_) (fun q => by cases q))
      refine sds_one (sd_ret ed_str ?_)
      show PyData.str "bad" = .str (ans (chk c))
      rw [h]; rfl
    · refine ⟨false, kits.nb, ⟨fun q => Bool.noConfusion q, fun _ => ?_⟩⟩
      refine ⟨true, kits.nn, ⟨fun _ a oe pn hz hf => ?_, fun q => Bool.noConfusion q⟩⟩
      refine sds_cons (sd_if (et_val (ed_alone loAnswer glAnswer 1 2 Fa (hrm a) rfl List.mem_cons_self hz hf kn ma ka ba)) (fun _ => ?_) (fun q => by cases q))
      refine sds_one (sd_ret ed_str ?_)
      show PyData.str "not" = .str (ans (chk c))
      rw [h]; rfl
end
end K1

set_option maxHeartbeats 4000000
namespace K1
open PySem L2 PD PyProof.Rows
abbrev sAlone : Stmt := topS 36
abbrev nAlone : List Str := ["_law_e", "_law_some", "_law_one"]
theorem scAlone : FnScope nAlone ["_law_e"] (defScope sAlone) := ⟨rfl, rfl, rfl, by decide +kernel, rfl, by decide +kernel, by decide +kernel⟩
theorem loAlone : (["_law_e", "_law_some"] : List Str).all (locB (defScope sAlone)) = true := by decide +kernel
theorem glAlone : (["isinstance", "BadChange", "NotLeaned", "Twice", "Missing", "NoLine", "Other", "Ring", "NoNote", "WeaveError", "ValueError", "len"] : List Str).all (glB (defScope sAlone)) = true := by decide +kernel
section
variable {P : Program} {w : World} {K : PySem.W.Frag} {mg : Str → Option Value} {base : Heap}
theorem okAlone {f : Addr} {fd : FuncData} (F : Fun K "_law_alone" "_law_alone" sAlone f fd) : FnE P w K mg base 1 f fd ["_law_e"] (spAlone K mg) := by
  refine fnE F scAlone (fun p vs H Q E ⟨D, _, _, _, _, _, _, _, _, e, _⟩ => by rw [e]; rfl) fun cdv A outer s H vs Q p hot hr h => ?_
  obtain ⟨D, b1, b2, b3, b4, b5, b6, b7, b8, rfl, hz, hf, k, q⟩ := h
  obtain ⟨a, oe⟩ := p
  have pin : (a, oe) ∈ (L2H.cxH CX0 P w K mg base nAlone "_law_alone" (defScope sAlone) f cdv A outer s H E0 (a, oe)).pn := List.mem_cons_self
  have hotC : L2H.HotC (L2H.cxH CX0 P w K mg base nAlone "_law_alone" (defScope sAlone) f cdv A outer s H E0 (a, oe)) := ⟨(a, oe), hot, pin⟩
  have en : En K H H H (L2.start nAlone [.ref a]) [.raw (.ref a), .un, .un] := en_start nAlone (as := [.raw (.ref a)]) (Ex.refl H) (.cons rfl .nil) le_b
  have nd := scAlone.nd
  have go : SDs (L2H.cxH CX0 P w K mg base nAlone "_law_alone" (defScope sAlone) f cdv A outer s H E0 (a, oe)) (fun _ _ _ _ => False) (defBody sAlone) [.raw (.ref a), .un, .un] { nx := fun _ => False, rt := fun d => d = .bool true } := by
    refine sds_cons (sd_setL (i := 1) nd rfl (loc_of loAlone 1) (.inl rfl) (el_lst (ds := [_, _, _, _]) (ea_d (ed_isiC loAlone glAlone 0 0 1 pin k.cls hz.zc hf k.k1 k.is) (ea_d (ed_isiC loAlone glAlone 0 0 2 pin k.cls hz.zc hf k.k2 k.is) (ea_d (ed_isiC loAlone glAlone 0 0 3 pin k.cls hz.zc hf k.k3 k.is) (ea_d (ed_isiC loAlone glAlone 0 0 4 pin k.cls hz.zc hf k.k4 k.is) ea_nil)))) le_b) fun r => ?_)
    refine sds_frz (i := 1) rfl ?_
    refine sds_cons (sd_setL (i := 1) nd rfl (loc_of loAlone 1) (.inl rfl) (el_cat (ed_v loAlone 1) (EL.dat (el_lst (ds := [_, _, _, _]) (ea_d (ed_isiC loAlone glAlone 0 0 5 pin k.cls hz.zc hf k.k5 k.is) (ea_d (ed_isiC loAlone glAlone 0 0 6 pin k.cls hz.zc hf k.k6 k.is) (ea_d (ed_isiC loAlone glAlone 0 0 7 pin k.cls hz.zc hf k.k7 k.is) (ea_d (ed_isiC loAlone glAlone 0 0 8 pin k.cls hz.zc hf k.k8 k.is) ea_nil)))) le_b)) le_b) fun r => ?_)
    refine sds_one (sd_ret (ed_and (ed_c cd_eqI (ed_len (EL.rd (el_hot (bs := [b1, b2, b3, b4, b5, b6, b7, b8]) hotC (eb_v loAlone 1) (by show 8 ≤ 1000; decide))) (gl_of glAlone 11) k.ln) ed_int) (fun _ => ed_and (ed_isiC loAlone glAlone 0 0 9 pin k.cls hz.zc hf k.k9 k.is) (fun _ => ed_one (ed_isiV loAlone glAlone 0 0 10 pin k.cls hz.zc hf k.kv k.ve k.is)))) ?_)
    show PyData.bool _ = .bool true
    rw [k.one]
    rfl
  refine go H H H H _ _ ⟨Ext.refl (Ex.refl H), en⟩ ⟨fun _ _ _ _ q => q.elim, fun d v F' H' e x i => ?_, fun _ _ _ _ _ q => q.elim, fun _ _ _ _ q => q.elim, fun _ _ _ _ q => q.elim, fun _ _ _ _ _ q => q.elim⟩
  have e : d = .bool true := e
  subst e
  rw [i.bl_eq]
  exact q H' x.h
end
end K1

set_option maxHeartbeats 4000000
namespace K1
open PySem L2 PD PyProof.Rows LW
theorem lg_ok {i : Int} (h0 : 0 ≤ i) (h : i ≤ 1000000) : i.natAbs.log2 < 1920 := by
  rcases Nat.eq_zero_or_pos i.natAbs with e | e
  · rw [e]; decide
  · rw [Nat.log2_lt (by omega)]
    exact Nat.lt_of_lt_of_le (show i.natAbs < 2 ^ 20 by omega) (Nat.pow_le_pow_right (by decide) (by decide))
theorem atI_int {α : Type} {xs : List α} {i : Int} {v : α} (h0 : 0 ≤ i) (h : xs[i.toNat]? = some v) : atI xs i = some v := by
  have e : ((i.toNat : Nat) : Int) = i := by omega
  have h3 := atI_nat h
  rw [e] at h3
  exact h3
theorem cs_take11 (z : Str) : cs (cutS z none (some 11)) = (cs z).take 11 := cs_take z 11
theorem atI_lastD {zs : List Str} (h : zs.isEmpty = false) : atI (zs.map PyData.str) (-1) = some (.str (zs.getLastD "")) := by
  cases zs with
  | nil => cases h
  | cons a r =>
    have e : a :: r = (a :: r).dropLast ++ [(a :: r).getLastD ""] := by
      rw [List.getLastD_eq_getLast?, List.getLast?_eq_getLast (List.cons_ne_nil a r)]
      exact (List.dropLast_concat_getLast (List.cons_ne_nil a r)).symm
    have e2 : (a :: r).map PyData.str = ((a :: r).dropLast).map PyData.str ++ [PyData.str ((a :: r).getLastD "")] := by
      conv => lhs; rw [e]
      rw [List.map_append]; rfl
    rw [e2]
    exact atI_last _ _
section
variable {X : Cx} {W : WX} {T : De} {c e : Expr} {n : Str} {p pos : Pos} {ρ : List Sl} {d : PyData}
theorem sd_ifsetD {i : Nat} {k : Bool} {d0 d1 : PyData} (nd : X.N.Nodup) (hN : X.N[i]? = some n) (hl : Loc X.env.scope n) (hfn : X.fn n = true ∨ X.env.scope.names.lookup n = some .local) {spos : Pos}
    (h : ET X W (fun C => T.ex C ρ) c ρ k) (h0 : ρ[i]? = some (.sh d0)) (h1 : k = true → ED X W (fun C => T.ex C ρ) e ρ d) (hz : (if k = true then d else d0) = d1) (q : T.nx (ρ.set i (.sh d1))) (hw : swapsWith e (some (.Name n p)) spos.line X.env = pure false := by rfl) : SD X W (.If c [.Assign [.Name n p] e spos] [] pos) ρ T :=
  sd_ifset nd hN hl hfn h h0 h1 (by rw [hz]; exact q) hw
end
section
variable {P : Program} {w : World} {K : PySem.W.Frag} {mg : Str → Option Value} {base : Heap} {cB cN : Addr}
/-! ### _law_cell -/
abbrev sCell : Stmt := topS 24
abbrev nCell : List Str := ["_law_script", "_law_k"]
theorem scCell : FnScope nCell ["_law_script", "_law_k"] (defScope sCell) := ⟨rfl, rfl, rfl, by decide +kernel, rfl, by decide +kernel, by decide +kernel⟩
theorem ndCell : (nCell).Nodup := scCell.nd
theorem loCell : (["_law_script", "_law_k"] : List Str).all (locB (defScope sCell)) = true := by decide +kernel
theorem glCell : (["len"] : List Str).all (glB (defScope sCell)) = true := by decide +kernel
def rCell : List Sl → DOut → Prop := fun as o => ∃ (ns : List Int) (k : Nat), as = [.bo (ns.map .int), .sh (.int k)] ∧ o = .val (.int (cell ns k))
theorem okCell {f : Addr} {fd : FuncData} (F : Fun K "_law_cell" "_law_cell" sCell f fd) (T : Tx K mg cB cN) : FnOk P w K mg base (L2N.CX P w) 1 f fd ["_law_script", "_law_k"] (spD K 2 rCell) := by
  refine fnD F scCell (by decide) fun cdv A outer s H E as o hr hl hR => ?_
  obtain ⟨ns, k, rfl, rfl⟩ := hR
  refine sds_cons (sd_if (et_c cd_lt (ed_v loCell 1) (ed_len (EP'.rd (ep_v loCell 0)) (gl_of glCell 0) T.len)) (fun hb => ?_) (fun hb => ?_))
  · have h1 : k < ns.length := by simpa using hb
    refine sds_one (sd_ret (ed_ixL (d := .int ns[k]) (EP'.rd (ep_v loCell 0)) (ed_v loCell 1) (atI_nat (j := k) (by simp [h1]))) ?_)
    show PyData.int ns[k] = .int (cell ns k)
    simp [cell, h1]
  · refine sds_nil (sds_one (sd_ret ed_int ?_))
    have h1 : ¬ k < ns.length := by simpa using hb
    show PyData.int 0 = .int (cell ns k)
    simp [cell, h1]
/-! ### _law_mixed -/
abbrev sMixed : Stmt := topS 25
abbrev nMixed : List Str := ["_law_cell_here", "_law_k"]
theorem scMixed : FnScope nMixed ["_law_cell_here", "_law_k"] (defScope sMixed) := ⟨rfl, rfl, rfl, by decide +kernel, rfl, by decide +kernel, by decide +kernel⟩
theorem loMixed : (["_law_cell_here", "_law_k"] : List Str).all (locB (defScope sMixed)) = true := by decide +kernel
def rMixed : List Sl → DOut → Prop := fun as o => ∃ c k : Int, as = [.sh (.int c), .sh (.int k)] ∧ o = .val (.int (mixed c k))
theorem okMixed {f : Addr} {fd : FuncData} (F : Fun K "_law_mixed" "_law_mixed" sMixed f fd) : FnOk P w K mg base (L2N.CX P w) 1 f fd ["_law_cell_here", "_law_k"] (spD K 2 rMixed) := by
  refine fnD F scMixed (by decide) fun cdv A outer s H E as o hr hl hR => ?_
  obtain ⟨c, k, rfl, rfl⟩ := hR
  exact sds_one (sd_ret (ed_mod (ed_mul (ed_add (ed_v loMixed 0) (ed_mul ed_int (ed_v loMixed 1) (.inl ⟨by decide, by decide⟩))) ed_int (.inr ⟨by decide, by decide⟩)) ed_int (by decide)) rfl)
/-! ### _law_name -/
abbrev sName : Stmt := topS 26
abbrev nName : List Str := ["_law_cell_here", "_law_taken", "_law_signs", "_law_left", "_law_found", "_law_at", "_law_j"]
theorem scName : FnScope nName ["_law_cell_here", "_law_taken"] (defScope sName) := ⟨rfl, rfl, rfl, by decide +kernel, rfl, by decide +kernel, by decide +kernel⟩
theorem ndName : (nName).Nodup := scName.nd
theorem loName : (["_law_cell_here", "_law_taken", "_law_signs", "_law_left", "_law_found", "_law_at"] : List Str).all (locB (defScope sName)) = true := by decide +kernel
theorem glName : (["_law_mixed", "range", "str", "len"] : List Str).all (glB (defScope sName)) = true := by decide +kernel
def Taken (taken : List Str) : Prop := (∀ z ∈ taken, NameOk z) ∧ taken.length ≤ 70
def rName : List Sl → DOut → Prop := fun as o => ∃ (c : Int) (taken : List Str), as = [.sh (.int c), .bo (taken.map .str)] ∧ Taken taken ∧ o = .val (.str (nameOf c taken))
theorem chs_sum {α : Type} (xs : List α) (g : α → Nat) : ((xs.map fun x => chS (g x)).map (·.length)).sum = xs.length := by
  rw [List.map_map]
  induction xs with
  | nil => rfl
  | cons x r ih => rw [List.map_cons, List.sum_cons, ih, List.length_cons]; show 1 + _ = _; omega
theorem len_sgn : LW.sgn.length = 36 := by rw [len_cs, sgn_len]
theorem okName {f : Addr} {fd : FuncData} (F : Fun K "_law_name" "_law_name" sName f fd) (T : Tx K mg cB cN) (cMixed : Cal P w K mg base 1 "_law_mixed" 2 rMixed) : FnOk P w K mg base (L2N.CX P w) 2 f fd ["_law_cell_here", "_law_taken"] (spD K 2 rName) := by
  refine fnD F scName (by decide) fun cdv A outer s H E as o hr hl hR => ?_
  obtain ⟨c, taken, rfl, ⟨hok, hln⟩, rfl⟩ := hR
  have hc : (cxOf (L2N.CX P w) P w K mg base nName "_law_name" (defScope sName) f cdv A outer s H E).calm = true := rfl
  have tk : L2N.Takes (cxOf (L2N.CX P w) P w K mg base nName "_law_name" (defScope sName) f cdv A outer s H E) (fun c d _ H' => E c d H') := L2N.takes_of rfl rfl rfl rfl
  have b0 := mixed_nn c 5
  have b12a := Int.emod_nonneg (mixed c 5) (show (12 : Int) ≠ 0 by decide)
  have b12b := Int.emod_lt_of_pos (mixed c 5) (show (0 : Int) < 12 by decide)
  have n0 : (nm0 c).length ≤ 12 := (nm0_ok c).2.1
  have n1 : (nm1 c).length ≤ 12 := (nm1_ok c).2.1
  have n2 : (nm2 c taken).length ≤ 12 := (nm2_ok c hok).2.1
  have hsg : LW.sgn.length ≤ 100000 := by rw [len_sgn]; decide
  refine sds_cons (sd_set (i := 2) ndName rfl (loc_of loName 2) (.inl rfl) ed_str ?_)
  refine sds_cons (sd_set (i := 3) ndName rfl (loc_of loName 3) (.inl rfl) (ed_call cMixed (hr.mono (by decide)) (gl_of glName 0) tk (ea_d (ed_v loName 0) (ea_d ed_int ea_nil)) rfl ⟨c, 5, rfl, rfl⟩) ?_)
  refine sds_cons (sd_set (i := 4) (d := .str (nm0 c)) ndName rfl (loc_of loName 4) (.inl rfl) (ed_join (zs := (List.range (1 + mixed c 5 % 12).toNat).map fun (j : Nat) => chS (sgnC (mixed c j % 36))) ed_str (EL.rd (EL.to (el_lcR (j := 6) ⟨hc, ndName, blkOk_by (N := nName) (sc := defScope sName) (by decide +kernel), by decide, rfl, rfl, by intro _; rfl⟩ (gl_of glName 1) T.range (fun _ => true) (fun x => .str (chS (sgnC (mixed c x % 36)))) (ed_add ed_int (ed_mod (ed_v loName 3) ed_int (by decide))) (by omega) (fun x hx s H C cl fp => rfl) (fun x hx _ s H C cl fp => (ed_ixS (w := LW.sgn) (ed_b 2) (ed_mod (ed_call cMixed (hr.mono (by decide)) gl_b takesN0 (ea_d (ed_b 0) (ea_d (ed_b 6) ea_nil)) rfl ⟨c, x, rfl, rfl⟩) ed_int (by decide)) hsg (sgn_at (Int.emod_nonneg _ (by decide)) (Int.emod_lt_of_pos _ (by decide)))))) (by rw [lc_all, List.map_map]; rfl))) (by rw [chs_sum, List.length_range]; show _ + _ * 0 ≤ _; omega)) ?_)
  -- the sign of a number
  refine sds_cons (sd_ifsetD (i := 4) (d := .str (numS (mixed c 5 % 130))) (d1 := .str (nm1 c)) ndName rfl (loc_of loName 4) (.inl rfl) (et_c cd_eqI (ed_mod (ed_v loName 0) ed_int (by decide)) ed_int) rfl (fun hb => ed_strI (ed_mod (ed_v loName 3) ed_int (by decide)) (lg_ok (Int.emod_nonneg _ (by decide)) (by have := Int.emod_lt_of_pos (mixed c 5) (show (0 : Int) < 130 by decide); omega)) (gl_of glName 2) T.str) (by unfold nm1; split <;> rfl) ?_)
  -- the last one, longer
  refine sds_cons (sd_ifsetD (i := 4) (d := .str (cutS (taken.getLastD "") none (some 11) ++ chS (sgnC (mixed c 5 % 36)))) (d1 := .str (nm2 c taken)) ndName rfl (loc_of loName 4) (.inl rfl) (et_w (ew_and (et_c cd_eqI (ed_mod (ed_v loName 0) ed_int (by decide)) ed_int) (fun _ => ew_and1 (et_list (EP'.rd (ep_v loName 1)))))) rfl (fun hb => ?_) (by unfold nm2; rw [List.isEmpty_map]; split <;> rfl) ?_)
  · rw [Bool.and_eq_true] at hb
    have he : taken.isEmpty = false := by simpa using hb.2
    have hl2 := (hok _ (getLastD_mem he)).2.1
    refine ed_cat (ed_cutS (ed_ixL (EP'.rd (ep_v loName 1)) (ed_neg ed_int) (atI_lastD he)) trivial ed_int (by omega)) (ed_ixS (w := LW.sgn) (ed_v loName 2) (ed_mod (ed_v loName 3) ed_int (by decide)) hsg (sgn_at (Int.emod_nonneg _ (by decide)) (Int.emod_lt_of_pos _ (by decide)))) ?_
    have : (cutS (taken.getLastD "") none (some 11)).length ≤ 12 := by rw [len_cs, cs_take11, List.length_take, ← len_cs]; omega
    show _ + 1 ≤ _
    omega
  -- one of them, a sign changed
  refine sds_cut [.sh (.int c), .bo (taken.map .str), .sh (.str LW.sgn), .sh (.int (mixed c 5)), .sh (.str (nm3 c taken)), .un, .un] (sd_if (et_w (ew_and (et_c cd_gt (ed_mod (ed_v loName 0) ed_int (by decide)) ed_int) (fun _ => (ew_and1 (et_list (EP'.rd (ep_v loName 1))))))) (fun hb => ?_) (fun hb => ?_)) ?_
  · have hb' := hb
    rw [Bool.and_eq_true] at hb
    have he : taken.isEmpty = false := by simpa using hb.2
    have hl0 : 0 < taken.length := by cases taken with | nil => cases he | cons => simp
    obtain ⟨hm, hat⟩ := nmT_mem c he
    obtain ⟨l1, l2, l3⟩ := hok _ hm
    obtain ⟨a0, a1⟩ := nmA_bd c he hok
    refine sds_cons (sd_set (i := 4) (d := .str (nmT c taken)) ndName rfl (loc_of loName 4) (.inl rfl) (ed_ixL (EP'.rd (ep_v loName 1)) (ed_mod (ed_v loName 3) (ed_len (EP'.rd (ep_v loName 1)) (gl_of glName 3) T.len) (by rw [List.length_map]; omega)) (by
      rw [List.length_map]
      refine atI_int (Int.emod_nonneg _ (by omega)) ?_
      rw [List.getElem?_map, hat]; rfl)) ?_)
    refine sds_cons (sd_set (i := 5) (d := .int (nmA c taken)) ndName rfl (loc_of loName 5) (.inl rfl) (ed_mod (ed_div (ed_v loName 3) ed_int ⟨by decide, by decide⟩) (ed_lenS (ed_v loName 4) (by omega) (gl_of glName 3) T.len) (by omega)) ?_)
    have q1 : (cutS (nmT c taken) none (some (nmA c taken))).length ≤ 12 := by
      have ea : nmA c taken = ((nmA c taken).toNat : Int) := by omega
      rw [len_cs, ea, cs_take, List.length_take, ← len_cs]; omega
    have q2 : (cutS (nmT c taken) (some (nmA c taken + 1)) none).length ≤ 12 := by
      have ea : nmA c taken + 1 = (((nmA c taken).toNat + 1 : Nat) : Int) := by omega
      rw [len_cs, ea, cs_drop, List.length_drop, ← len_cs]; omega
    refine sds_one (sd_set (i := 4) (d := .str (nm3 c taken)) ndName rfl (loc_of loName 4) (.inl rfl) (ED.to (ed_cat (ed_cat (ed_cutS (l := none) (u := some (nmA c taken)) (ed_v loName 4) trivial (ed_v loName 5) (by omega)) (ed_ixS (w := LW.sgn) (ed_v loName 2) (ed_mod (ed_div (ed_v loName 3) ed_int ⟨by decide, by decide⟩) ed_int (by decide)) hsg (sgn_at (Int.emod_nonneg _ (by decide)) (Int.emod_lt_of_pos _ (by decide)))) (by show _ + 1 ≤ _; omega)) (ed_cutS (l := some (nmA c taken + 1)) (u := none) (ed_v loName 4) (ed_add (ed_v loName 5) ed_int) trivial (by omega)) (by rw [len_app]; show _ + 1 + _ ≤ _; omega)) (by
      unfold nm3
      rw [List.isEmpty_map] at hb'
      rw [if_pos hb']; rfl)) ?_)
    exact .cons (.cons (.cons (.cons (.cons (.forget (.cons .nil))))))
  · refine sds_nil ?_
    have e : nm3 c taken = nm2 c taken := by
      unfold nm3
      rw [List.isEmpty_map] at hb
      rw [hb]; rfl
    rw [e]
    exact SlLe.refl _
  refine sds_cons (sd_if (et_niL (ed_v loName 4) (EP'.rd (ep_v loName 1))) (fun hb => ?_) (fun hb => ?_))
  · refine sds_one (sd_ret (ed_v loName 4) ?_)
    show PyData.str _ = .str (nameOf c taken)
    unfold nameOf
    rw [if_pos hb]
  · refine sds_nil ?_
    have hfr := frees_ne hln
    have hz : ∀ x : Nat, x < (((taken.length : Nat) : Int) + 1).toNat → ((x : Nat) : Int).natAbs.log2 < 1920 := fun x hx => lg_ok (by omega) (by omega)
    refine sds_one (sd_ret (ed_ixL (d := .str ((frees taken).headD "")) (EL.rd (EL.to (el_lcR (j := 6) ⟨hc, ndName, blkOk_by (N := nName) (sc := defScope sName) (by decide +kernel), by decide, rfl, rfl, by intro _; rfl⟩ (gl_of glName 1) T.range (fun x => !decide (numS (x : Int) ∈ taken)) (fun x => .str (numS (x : Int))) (ed_add (ed_len (EP'.rd (ep_v loName 1)) (gl_of glName 3) T.len) ed_int) (by rw [List.length_map]; omega) (fun x hx s H C cl fp => (et_niL (ed_strI (ed_b 6) (hz x (by rw [List.length_map] at hx; exact hx)) gl_b T.str) (EP'.rd (ep_b 1)))) (fun x hx _ s H C cl fp => (ed_strI (ed_b 6) (hz x (by rw [List.length_map] at hx; exact hx)) gl_b T.str))) (show _ = (frees taken).map PyData.str from ?_))) ed_int ?_) ?_)
    · rw [List.length_map, show (((taken.length : Nat) : Int) + 1).toNat = taken.length + 1 from by omega]
      unfold frees
      rw [List.filter_map, List.map_map]; rfl
    · refine atI_nat (j := 0) ?_
      cases e : frees taken with
      | nil => exact absurd e hfr
      | cons a r => rfl
    · show PyData.str _ = .str (nameOf c taken)
      unfold nameOf
      rw [hb]; rfl
end
end K1

set_option maxHeartbeats 4000000
namespace K1
open PySem L2 PD PyProof.Rows LW
/-! ### what the law draws -/
def takenL (c : Int) (n : Str) : Nat → List Str
  | 0 => [n]
  | k + 1 => takenL c n k ++ [nameOf (mixed c k) (takenL c n k)]
def leanedOf (c : Int) (n : Str) : List Str := sortS ((takenL c n (c % 6).toNat).drop 1)
theorem takenL_len (c : Int) (n : Str) : ∀ k, (takenL c n k).length = k + 1
  | 0 => rfl
  | k + 1 => by rw [takenL, List.length_append, takenL_len c n k]; rfl
theorem takenL_ok (c : Int) {n : Str} (hn : NameOk n) : ∀ k, k ≤ 60 → Taken (takenL c n k) ∧ (takenL c n k).Nodup
  | 0, _ => ⟨⟨fun z hz => by rw [List.mem_singleton.mp hz]; exact hn, show 1 ≤ 70 by decide⟩, List.pairwise_singleton _ _⟩
  | k + 1, hk => by
    obtain ⟨⟨h1, h2⟩, h3⟩ := takenL_ok c hn k (by omega)
    refine ⟨⟨fun z hz => ?_, by rw [takenL_len]; omega⟩, ?_⟩
    · rcases List.mem_append.mp hz with hz | hz
      · exact h1 z hz
      · rw [List.mem_singleton.mp hz]; exact nameOf_ok _ h2 h1
    · refine List.nodup_append.mpr ⟨h3, List.pairwise_singleton _ _, fun a ha b hb e => ?_⟩
      rw [List.mem_singleton.mp hb] at e
      rw [e] at ha
      exact nameOf_new _ h2 ha
theorem takenL_cons (c : Int) (n : Str) : ∀ k, takenL c n k = n :: (takenL c n k).drop 1
  | 0 => rfl
  | k + 1 => by
    rw [takenL, takenL_cons c n k]; rfl
section
variable {P : Program} {w : World} {K : PySem.W.Frag} {mg : Str → Option Value} {base : Heap} {cB cN : Addr}
/-! ### _law_line -/
abbrev sLine : Stmt := topS 27
abbrev nLine : List Str := ["_law_cell_here", "_law_some", "_law_size", "_law_found", "_law_j"]
theorem scLine : FnScope nLine ["_law_cell_here"] (defScope sLine) := ⟨rfl, rfl, rfl, by decide +kernel, rfl, by decide +kernel, by decide +kernel⟩
theorem ndLine : (nLine).Nodup := scLine.nd
theorem loLine : (["_law_cell_here", "_law_some", "_law_size", "_law_found"] : List Str).all (locB (defScope sLine)) = true := by decide +kernel
theorem glLine : (["range"] : List Str).all (glB (defScope sLine)) = true := by decide +kernel
def rLine : List Sl → DOut → Prop := fun as o => ∃ c : Int, as = [.sh (.int c)] ∧ o = .val (.str (lineOf c))
theorem okLine {f : Addr} {fd : FuncData} (F : Fun K "_law_line" "_law_line" sLine f fd) (T : Tx K mg cB cN) : FnOk P w K mg base (L2N.CX P w) 1 f fd ["_law_cell_here"] (spD K 1 rLine) := by
  refine fnD F scLine (by decide) fun cdv A outer s H E as o hr hl hR => ?_
  obtain ⟨c, rfl, rfl⟩ := hR
  have hc : (cxOf (L2N.CX P w) P w K mg base nLine "_law_line" (defScope sLine) f cdv A outer s H E).calm = true := rfl
  have hb1 := lsize_bd c
  have hb2 := ln0_len c
  have l1 := len_some1
  have l2 := len_some2
  have ls := len_somes
  refine sds_cons (sd_set (i := 1) (d := .str some1) ndLine rfl (loc_of loLine 1) (.inl rfl) ed_str ?_)
  refine sds_cons (sd_set (i := 1) (d := .str somes) ndLine rfl (loc_of loLine 1) (.inl rfl) (ed_cat (ed_v loLine 1) (i := some1) (j := some2) ed_str (by omega)) ?_)
  refine sds_cons (sd_set (i := 2) (d := .int (c % 4)) ndLine rfl (loc_of loLine 2) (.inl rfl) (ed_mod (ed_v loLine 0) ed_int (by decide)) ?_)
  refine sds_cons (sd_ifsetD (i := 2) (d := .int (c / 36 % 201)) (d1 := .int (lsize c)) ndLine rfl (loc_of loLine 2) (.inl rfl) (et_c cd_eqI (ed_mod (ed_div (ed_v loLine 0) ed_int ⟨by decide, by decide⟩) ed_int (by decide)) ed_int) rfl (fun hb => ed_mod (ed_div (ed_v loLine 0) ed_int ⟨by decide, by decide⟩) ed_int (by decide)) (by unfold lsize; split <;> rfl) ?_)
  refine sds_cons (sd_set (i := 3) (d := .str (ln0 c)) ndLine rfl (loc_of loLine 3) (.inl rfl) (ed_join (zs := (List.range (lsize c).toNat).map fun (j : Nat) => chS (someC ((c / 7 + (j : Int) * (1 + c % 5)) % 94))) ed_str (EL.rd (EL.to (el_lcR (j := 4) ⟨hc, ndLine, blkOk_by (N := nLine) (sc := defScope sLine) (by decide +kernel), by decide, rfl, rfl, by intro _; rfl⟩ (gl_of glLine 0) T.range (fun _ => true) (fun x => .str (chS (someC ((c / 7 + (x : Int) * (1 + c % 5)) % 94)))) (ed_v loLine 2) (by omega) (fun x hx s H C cl fp => rfl) (fun x hx _ s H C cl fp => (ed_ixS (w := somes) (ed_b 1) (ed_mod (ed_add (ed_div (ed_b 0) ed_int ⟨by decide, by decide⟩) (ed_mul (ed_b 4) (ed_add ed_int (ed_mod (ed_b 0) ed_int (by decide))) (.inl ⟨by omega, by omega⟩))) ed_int (by decide)) (by omega) (some_at (Int.emod_nonneg _ (by decide)) (Int.emod_lt_of_pos _ (by decide)))))) (by rw [lc_all, List.map_map]; rfl))) (by rw [chs_sum, List.length_range]; show _ + _ * 0 ≤ _; omega)) ?_)
  refine sds_cons (sd_if (et_w (ew_and (et_c cd_eqI (ed_mod (ed_div (ed_v loLine 0) ed_int ⟨by decide, by decide⟩) ed_int (by decide)) ed_int) (fun _ => (ew_and1 (et_c cd_lt (ed_v loLine 2) ed_int))))) (fun hb => ?_) (fun hb => ?_))
  · have q1 : (cutS (ln0 c) none (some 1)).length ≤ 200 := by rw [len_cs, cs_take1, List.length_take, ← len_cs]; omega
    have q2 : (cutS (ln0 c) (some 1) none).length ≤ 200 := by rw [len_cs, cs_drop1, List.length_drop, ← len_cs]; omega
    refine sds_one (sd_ret (ed_cat (ed_cat (ed_cutS (l := none) (u := some 1) (ed_v loLine 3) trivial ed_int (by omega)) ed_str (by show _ + 2 ≤ _; omega)) (ed_cutS (l := some 1) (u := none) (ed_v loLine 3) ed_int trivial (by omega)) (by rw [len_app]; show _ + 2 + _ ≤ _; omega)) ?_)
    show PyData.str _ = .str (lineOf c)
    unfold lineOf
    rw [if_pos hb]
  · refine sds_nil (sds_one (sd_ret (ed_v loLine 3) ?_))
    show PyData.str _ = .str (lineOf c)
    unfold lineOf
    rw [hb, if_neg Bool.false_ne_true]
/-! ### _law_copy -/
abbrev sCopy : Stmt := topS 28
abbrev nCopy : List Str := ["_law_change"]
theorem scCopy : FnScope nCopy ["_law_change"] (defScope sCopy) := ⟨rfl, rfl, rfl, by decide +kernel, rfl, by decide +kernel, by decide +kernel⟩
theorem loCopy : (["_law_change"] : List Str).all (locB (defScope sCopy)) = true := by decide +kernel
theorem glCopy : (["list"] : List Str).all (glB (defScope sCopy)) = true := by decide +kernel
def rCopy : List Sl → DOut → Prop := fun as o => ∃ c : Change, as = [.sh (qC c)] ∧ o = .val (qC c)
theorem okCopy {f : Addr} {fd : FuncData} (F : Fun K "_law_copy" "_law_copy" sCopy f fd) (T : Tx K mg cB cN) : FnOk P w K mg base (L2N.CX P w) 1 f fd ["_law_change"] (spD K 1 rCopy) := by
  refine fnD F scCopy (by decide) fun cdv A outer s H E as o hr hl hR => ?_
  obtain ⟨c, rfl, rfl⟩ := hR
  exact sds_one (sd_ret (ed_tup (ds := [_, _, _]) (ea_d (ed_ixT (ed_v loCopy 0) ed_int (atI_nat (j := 0) rfl)) (ea_d (EL.dat (el_list (ED.rd (ed_ixT (ed_v loCopy 0) ed_int (atI_nat (j := 1) rfl))) (gl_of glCopy 0) T.list)) (ea_d (EL.dat (el_list (ED.rd (ed_ixT (ed_v loCopy 0) ed_int (atI_nat (j := 2) rfl))) (gl_of glCopy 0) T.list)) ea_nil))) le_b) rfl)
/-! ### _law_leaned -/
abbrev sLeaned : Stmt := topS 29
abbrev nLeaned : List Str := ["_law_cell_here", "_law_name_here", "_law_taken", "_law_j"]
theorem scLeaned : FnScope nLeaned ["_law_cell_here", "_law_name_here"] (defScope sLeaned) := ⟨rfl, rfl, rfl, by decide +kernel, rfl, by decide +kernel, by decide +kernel⟩
theorem ndLeaned : (nLeaned).Nodup := scLeaned.nd
theorem loLeaned : (["_law_cell_here", "_law_name_here", "_law_taken", "_law_j"] : List Str).all (locB (defScope sLeaned)) = true := by decide +kernel
theorem glLeaned : (["range", "_law_name", "_law_mixed", "sorted"] : List Str).all (glB (defScope sLeaned)) = true := by decide +kernel
def rLeaned : List Sl → DOut → Prop := fun as o => ∃ (c : Int) (n : Str), as = [.sh (.int c), .sh (.str n)] ∧ NameOk n ∧ o = .new ((leanedOf c n).map .str)
theorem okLeaned {f : Addr} {fd : FuncData} (F : Fun K "_law_leaned" "_law_leaned" sLeaned f fd) (T : Tx K mg cB cN) (cName : Cal P w K mg base 2 "_law_name" 2 rName) (cMixed : Cal P w K mg base 1 "_law_mixed" 2 rMixed) : FnOk P w K mg base (L2N.CX P w) 3 f fd ["_law_cell_here", "_law_name_here"] (spD K 2 rLeaned) := by
  refine fnD F scLeaned (by decide) fun cdv A outer s H E as o hr hl hR => ?_
  obtain ⟨c, n, rfl, hn, rfl⟩ := hR
  have hc : (cxOf (L2N.CX P w) P w K mg base nLeaned "_law_leaned" (defScope sLeaned) f cdv A outer s H E).calm = true := rfl
  have tk : L2N.Takes (cxOf (L2N.CX P w) P w K mg base nLeaned "_law_leaned" (defScope sLeaned) f cdv A outer s H E) (fun c d _ H' => E c d H') := L2N.takes_of rfl rfl rfl rfl
  have b1 := Int.emod_nonneg c (show (6 : Int) ≠ 0 by decide)
  have b2 := Int.emod_lt_of_pos c (show (0 : Int) < 6 by decide)
  refine sds_cons (sd_setL (i := 2) ndLeaned rfl (loc_of loLeaned 2) (.inl rfl) (el_lst (ds := [_]) (ea_d (ed_v loLeaned 1) ea_nil) le_b) (fun r2 => ?_))
  refine sds_cons (sd_rng (fun i ρ => ∃ s3, ρ = [.sh (.int c), .sh (.str n), .ow r2 ((takenL c n i).map .str), s3]) (L2.passes_of rfl) hc (j := 3) ndLeaned rfl (loc_of loLeaned 3) (.inl rfl) (gl_of glLeaned 0) T.range (ed_mod (ed_v loLeaned 0) ed_int (by decide)) (by omega) ⟨_, rfl⟩ (fun i ρ1 hi hI => ?_) (fun ρ1 hI => ?_))
  · obtain ⟨s3, rfl⟩ := hI
    have hk := takenL_ok c hn i (by omega)
    refine sds_one (sd_app (i := 2) rfl (vis_of (loc_of loLeaned 2)) rfl (ed_call cName (hr.mono (by decide)) (gl_of glLeaned 1) tk (ea_d (ed_call cMixed (hr.mono (by decide)) (gl_of glLeaned 2) tk (ea_d (ed_v loLeaned 0) (ea_d (ed_v loLeaned 3) ea_nil)) rfl ⟨c, i, rfl, rfl⟩) (ea_b (eb_v loLeaned 2) ea_nil)) rfl ⟨mixed c i, takenL c n i, rfl, hk.1, rfl⟩) (by rw [List.length_map, takenL_len]; omega) ⟨.sh (.int i), ?_⟩)
    rw [takenL, List.map_append]; rfl
  · obtain ⟨s3, rfl⟩ := hI
    have hlen := takenL_len c n (c % 6).toNat
    have ecut : PD.cutD ((takenL c n (c % 6).toNat).map PyData.str) (some 1) none = ((takenL c n (c % 6).toNat).drop 1).map .str := by
      unfold PD.cutD
      rw [show HT.sIx ((takenL c n (c % 6).toNat).map PyData.str).length 0 (some 1) = min 1 ((takenL c n (c % 6).toNat).map PyData.str).length from HT.sIx_nat _ 0 1, HT.sIx_none, List.length_map, hlen, show min 1 ((c % 6).toNat + 1) = 1 from by omega, List.map_drop]
      exact List.take_of_length_le (by rw [List.length_drop, List.length_map, hlen]; omega)
    exact sds_one (sd_retL (el_sorted (ds := (leanedOf c n).map .str) (zs := (takenL c n (c % 6).toNat).drop 1) (EB.to (EL.rd (el_cut (l := some 1) (u := none) (eb_v loLeaned 2) ed_int trivial)) ecut) (by rw [List.length_drop, hlen]; omega) (gl_of glLeaned 3) T.sorted (fun ys p h => by rw [sortS_uniq p h]; rfl)) rfl)
end
end K1

set_option maxHeartbeats 4000000
namespace K1
open PySem L2 PD PyProof.Rows LW
/-! ### deeds -/
def marksOf (c : Int) (n : Str) (ls : List Str) : List (Str × Int) := [(n, 0), (n, 1), (n, 2)] ++ ls.map fun z => (z, c / 7 % 30)
def markAt (c : Int) (n : Str) (ls : List Str) (l : Int) : Str × Int := (marksOf c n ls).getD (l / 3 % ((marksOf c n ls).length : Int)).toNat (n, 0)
def markOf (c : Int) (n : Str) (ls : List Str) (l : Int) : Option (Str × Int) := if (decide (l % 3 = 0) && decide (l / 90 % 3 = 0)) = true then none else some (markAt c n ls l)
def wordOf (l : Int) : Str := (["add", "", "set"] : List Str).getD (l % 3).toNat ""
def deedOf (c : Int) (n : Str) (ls : List Str) (l : Int) : Deed := if decide (l % 3 = 1) = true then ⟨"cut", markOf c n ls l, none⟩ else ⟨wordOf l, markOf c n ls l, some (lineOf (l / 90))⟩
def deedsOf (c : Int) (n : Str) (ls : List Str) (m : Nat) : List Deed := (List.range m).map fun (k : Nat) => deedOf c n ls (mixed c (k : Int))
def qMk : Str × Int → PyData := fun p => .tuple [.str p.1, .int p.2]
theorem marks_at (c : Int) (n : Str) (ls : List Str) (l : Int) : atI ((marksOf c n ls).map qMk) (l / 3 % ((marksOf c n ls).length : Int)) = some (qMk (markAt c n ls l)) := by
  have hl : 0 < (marksOf c n ls).length := by unfold marksOf; simp
  have h0 := Int.emod_nonneg (l / 3) (show ((marksOf c n ls).length : Int) ≠ 0 by omega)
  have h1 := Int.emod_lt_of_pos (l / 3) (show (0 : Int) < ((marksOf c n ls).length : Int) by omega)
  refine atI_int h0 ?_
  unfold markAt
  rw [List.getElem?_map, List.getD_eq_getElem?_getD, List.getElem?_eq_getElem (by omega)]; rfl
theorem mod3 (l : Int) : l % 3 = 0 ∨ l % 3 = 1 ∨ l % 3 = 2 := by omega
section
variable {P : Program} {w : World} {K : PySem.W.Frag} {mg : Str → Option Value} {base : Heap} {cB cN : Addr}
/-! ### _law_some_deeds -/
abbrev sSomeDeeds : Stmt := topS 30
abbrev nSomeDeeds : List Str := ["_law_cell_here", "_law_many", "_law_name_here", "_law_leans", "_law_marks", "_law_deeds", "_law_k", "_law_left", "_law_mark", "_law_j", "_law_lean"]
theorem scSomeDeeds : FnScope nSomeDeeds ["_law_cell_here", "_law_many", "_law_name_here", "_law_leans"] (defScope sSomeDeeds) := ⟨rfl, rfl, rfl, by decide +kernel, rfl, by decide +kernel, by decide +kernel⟩
theorem ndSomeDeeds : (nSomeDeeds).Nodup := scSomeDeeds.nd
theorem loSomeDeeds : (["_law_cell_here", "_law_many", "_law_name_here", "_law_leans", "_law_marks", "_law_deeds", "_law_k", "_law_left", "_law_mark"] : List Str).all (locB (defScope sSomeDeeds)) = true := by decide +kernel
theorem glSomeDeeds : (["range", "_law_mixed", "len", "_law_line"] : List Str).all (glB (defScope sSomeDeeds)) = true := by decide +kernel
def rSomeDeeds : List Sl → DOut → Prop := fun as o => ∃ (c many : Int) (n : Str) (ls : List Str), as = [.sh (.int c), .sh (.int many), .sh (.str n), .sh (.list (ls.map .str))] ∧ 0 ≤ many ∧ many ≤ 20 ∧ ls.length ≤ 100 ∧ o = .new ((deedsOf c n ls many.toNat).map qD)
theorem okSomeDeeds {f : Addr} {fd : FuncData} (F : Fun K "_law_some_deeds" "_law_some_deeds" sSomeDeeds f fd) (T : Tx K mg cB cN) (cMixed : Cal P w K mg base 1 "_law_mixed" 2 rMixed) (cLine : Cal P w K mg base 1 "_law_line" 1 rLine) : FnOk P w K mg base (L2N.CX P w) 2 f fd ["_law_cell_here", "_law_many", "_law_name_here", "_law_leans"] (spD K 4 rSomeDeeds) := by
  refine fnD F scSomeDeeds (by decide) fun cdv A outer s H E as o hr hl hR => ?_
  obtain ⟨c, many, n, ls, rfl, hm1, hm2, hls, rfl⟩ := hR
  have hc : (cxOf (L2N.CX P w) P w K mg base nSomeDeeds "_law_some_deeds" (defScope sSomeDeeds) f cdv A outer s H E).calm = true := rfl
  have tk : L2N.Takes (cxOf (L2N.CX P w) P w K mg base nSomeDeeds "_law_some_deeds" (defScope sSomeDeeds) f cdv A outer s H E) (fun c d _ H' => E c d H') := L2N.takes_of rfl rfl rfl rfl
  have hml : (marksOf c n ls).length = 3 + ls.length := by unfold marksOf; rw [List.length_append, List.length_map]; rfl
  refine sds_cons (sd_setL (i := 4) ndSomeDeeds rfl (loc_of loSomeDeeds 4) (.inl rfl) (EL.to (xs := (marksOf c n ls).map qMk) (el_cat (EL.dat (el_lcR (j := 9) ⟨hc, ndSomeDeeds, blkOk_by (N := nSomeDeeds) (sc := defScope sSomeDeeds) (by decide +kernel), by decide, rfl, rfl, by intro _; rfl⟩ (gl_of glSomeDeeds 0) T.range (fun _ => true) (fun x => qMk (n, (x : Int))) ed_int (by decide) (fun x hx s H C cl fp => rfl) (fun x hx _ s H C cl fp => (ed_tup (ds := [_, _]) (ea_d (ed_b 2) (ea_d (ed_b 9) ea_nil)) le_b)))) (EL.dat (el_lc (j := 10) ⟨hc, ndSomeDeeds, blkOk_by (N := nSomeDeeds) (sc := defScope sSomeDeeds) (by decide +kernel), by decide, rfl, rfl, by intro _; rfl⟩ ls PyData.str (fun _ => true) (fun z => qMk (z, c / 7 % 30)) (ED.pst (ed_v loSomeDeeds 3)) (by omega) (fun x hx s H C cl fp => rfl) (fun x hx _ s H C cl fp => (ed_tup (ds := [_, _]) (ea_d (ed_b 10) (ea_d (ed_mod (ed_div (ed_b 0) ed_int ⟨by decide, by decide⟩) ed_int (by decide)) ea_nil)) le_b)))) (by rw [lc_all, lc_all, List.length_map, List.length_map]; show 3 + _ ≤ _; omega)) (by
    rw [lc_all, lc_all]; unfold marksOf; rw [List.map_append, List.map_map]; rfl)) (fun r4 => ?_))
  refine sds_frz (i := 4) rfl ?_
  refine sds_cons (sd_setL (i := 5) ndSomeDeeds rfl (loc_of loSomeDeeds 5) (.inl rfl) (el_lst (ds := []) ea_nil le_b) (fun r5 => ?_))
  refine sds_cons (sd_rng (fun i ρ => ∃ s6 s7 s8 s9 s10, ρ = [.sh (.int c), .sh (.int many), .sh (.str n), .sh (.list (ls.map .str)), .sh (.list ((marksOf c n ls).map qMk)), .ow r5 ((deedsOf c n ls i).map qD), s6, s7, s8, s9, s10]) (L2.passes_of rfl) hc (j := 6) ndSomeDeeds rfl (loc_of loSomeDeeds 6) (.inl rfl) (gl_of glSomeDeeds 0) T.range (ed_v loSomeDeeds 1) (by omega) ⟨_, _, _, _, _, rfl⟩ (fun i ρ1 hi hI => ?_) (fun ρ1 hI => ?_))
  · obtain ⟨s6, s7, s8, s9, s10, rfl⟩ := hI
    have hdl : ((deedsOf c n ls i).map qD).length < 100000 := by rw [List.length_map]; unfold deedsOf; rw [List.length_map, List.length_range]; omega
    have hnext : deedsOf c n ls (i + 1) = deedsOf c n ls i ++ [deedOf c n ls (mixed c i)] := by unfold deedsOf; rw [List.range_succ, List.map_append]; rfl
    refine sds_cons (sd_set (i := 7) (d := .int (mixed c i)) ndSomeDeeds rfl (loc_of loSomeDeeds 7) (.inl rfl) (ed_call cMixed (hr.mono (by decide)) (gl_of glSomeDeeds 1) tk (ea_d (ed_v loSomeDeeds 0) (ea_d (ed_v loSomeDeeds 6) ea_nil)) rfl ⟨c, i, rfl, rfl⟩) ?_)
    generalize hgl : mixed c (i : Int) = l at hnext
    refine sds_cons (sd_set (i := 8) (d := qMk (markAt c n ls l)) ndSomeDeeds rfl (loc_of loSomeDeeds 8) (.inl rfl) (ed_ixL (ED.rd (ed_v loSomeDeeds 4)) (ed_mod (ed_div (ed_v loSomeDeeds 7) ed_int ⟨by decide, by decide⟩) (ed_len (ED.rd (ed_v loSomeDeeds 4)) (gl_of glSomeDeeds 2) T.len) (by rw [List.length_map]; omega)) (by rw [List.length_map]; exact marks_at c n ls l)) ?_)
    refine sds_cons (sd_ifsetD (i := 8) (d := .none) (d1 := qM (markOf c n ls l)) ndSomeDeeds rfl (loc_of loSomeDeeds 8) (.inl rfl) (et_w (ew_and (et_c cd_eqI (ed_mod (ed_v loSomeDeeds 7) ed_int (by decide)) ed_int) (fun _ => (ew_and1 (et_c cd_eqI (ed_mod (ed_div (ed_v loSomeDeeds 7) ed_int ⟨by decide, by decide⟩) ed_int (by decide)) ed_int))))) rfl (fun _ => ed_non) (by unfold markOf; split <;> rfl) ?_)
    refine sds_one (sd_if (et_c cd_eqI (ed_mod (ed_v loSomeDeeds 7) ed_int (by decide)) ed_int) (fun hb => ?_) (fun hb => ?_))
    · refine sds_one (sd_app (i := 5) rfl (vis_of (loc_of loSomeDeeds 5)) rfl (ed_tup (ds := [_, _]) (ea_d ed_str (ea_d (ed_v loSomeDeeds 8) ea_nil)) le_b) hdl ⟨.sh (.int i), .sh (.int l), .sh (qM (markOf c n ls l)), s9, s10, ?_⟩)
      rw [hnext, List.map_append]
      unfold deedOf
      rw [if_pos hb]; rfl
    · have hw : atI ([PyData.str "add", PyData.str "", PyData.str "set"]) (l % 3) = some (.str (wordOf l)) := by
        unfold wordOf
        rcases mod3 l with e | e | e <;> rw [e] <;> rfl
      refine sds_one (sd_app (i := 5) rfl (vis_of (loc_of loSomeDeeds 5)) rfl (ed_tup (ds := [_, _, _]) (ea_d (ed_ixL (EL.rd (el_lst (ds := [_, _, _]) (ea_d ed_str (ea_d ed_str (ea_d ed_str ea_nil))) le_b)) (ed_mod (ed_v loSomeDeeds 7) ed_int (by decide)) hw) (ea_d (ed_v loSomeDeeds 8) (ea_d (ed_call cLine (hr.mono (by decide)) (gl_of glSomeDeeds 3) tk (ea_d (ed_div (ed_v loSomeDeeds 7) ed_int ⟨by decide, by decide⟩) ea_nil) rfl ⟨_, rfl, rfl⟩) ea_nil))) le_b) hdl ⟨.sh (.int i), .sh (.int l), .sh (qM (markOf c n ls l)), s9, s10, ?_⟩)
      rw [hnext, List.map_append]
      unfold deedOf
      rw [hb]; rfl
  · obtain ⟨s6, s7, s8, s9, s10, rfl⟩ := hI
    exact sds_one (sd_retO (i := 5) rfl (vis_of (loc_of loSomeDeeds 5)) rfl rfl)
end
end K1

set_option maxHeartbeats 4000000
namespace K1
open PySem L2 PD PyProof.Rows LW
/-! ### what is wrong -/
def oddSigns : Str := "A-_ .Z:{~/@\x5b`"
def oddC (c : Int) : Nat := (cs oddSigns).getD (c / 3 % 13).toNat 0
def whole (c : Int) : Str := Str.join "" ((List.range 10).map fun (j : Nat) => chS (sgnC (mixed c j % 36)))
def oddN2 (c : Int) : Str := cutS (whole c) none (some (c / 39 % 11)) ++ chS (oddC c) ++ cutS (whole c) (some (c / 39 % 11)) none
def oddName (c : Int) : Str := (["", whole c ++ "abc", oddN2 c] : List Str).getD (c % 3).toNat ""
def oddA (c : Int) : Int := c / 5 % ((lineOf c).length + 1)
def oddL1 (c : Int) (z : Str) : Str := cutS (lineOf c) none (some (oddA c)) ++ z ++ cutS (lineOf c) (some (oddA c)) none
def oddLine (c : Int) : Str := ([repS "x" 201, oddL1 c "\n", oddL1 c "\t"] : List Str).getD (c % 3).toNat ""
theorem odd_len : (cs oddSigns).length = 13 := by decide +kernel
theorem oddC_at (c : Int) : atI (cs oddSigns) (c / 3 % 13) = some (oddC c) := by
  have h0 := Int.emod_nonneg (c / 3) (show (13 : Int) ≠ 0 by decide)
  have h1 := Int.emod_lt_of_pos (c / 3) (show (0 : Int) < 13 by decide)
  refine atI_int h0 ?_
  unfold oddC
  rw [List.getD_eq_getElem?_getD, List.getElem?_eq_getElem (by rw [odd_len]; omega)]; rfl
theorem cs_whole (c : Int) : cs (whole c) = (List.range 10).map fun (j : Nat) => sgnC (mixed c j % 36) := cs_join _ _
theorem len_whole (c : Int) : (whole c).length = 10 := by rw [len_cs, cs_whole, List.length_map, List.length_range]
theorem len_abc : ("abc" : Str).length = 3 := by decide +kernel
theorem pick3 {α : Type} {l : Int} (q : α → PyData) (x y z d : α) : atI [q x, q y, q z] (l % 3) = some (q ([x, y, z].getD (l % 3).toNat d)) := by
  rcases mod3 l with e | e | e <;> rw [e] <;> rfl
section
variable {P : Program} {w : World} {K : PySem.W.Frag} {mg : Str → Option Value} {base : Heap} {cB cN : Addr}
/-! ### _law_odd_name -/
abbrev sOddName : Stmt := topS 31
abbrev nOddName : List Str := ["_law_cell_here", "_law_odd", "_law_signs", "_law_whole", "_law_at", "_law_j"]
theorem scOddName : FnScope nOddName ["_law_cell_here"] (defScope sOddName) := ⟨rfl, rfl, rfl, by decide +kernel, rfl, by decide +kernel, by decide +kernel⟩
theorem ndOddName : (nOddName).Nodup := scOddName.nd
theorem loOddName : (["_law_cell_here", "_law_odd", "_law_signs", "_law_whole", "_law_at"] : List Str).all (locB (defScope sOddName)) = true := by decide +kernel
theorem glOddName : (["range"] : List Str).all (glB (defScope sOddName)) = true := by decide +kernel
def rOddName : List Sl → DOut → Prop := fun as o => ∃ c : Int, as = [.sh (.int c)] ∧ o = .val (.str (oddName c))
theorem okOddName {f : Addr} {fd : FuncData} (F : Fun K "_law_odd_name" "_law_odd_name" sOddName f fd) (T : Tx K mg cB cN) (cMixed : Cal P w K mg base 1 "_law_mixed" 2 rMixed) : FnOk P w K mg base (L2N.CX P w) 2 f fd ["_law_cell_here"] (spD K 1 rOddName) := by
  refine fnD F scOddName (by decide) fun cdv A outer s H E as o hr hl hR => ?_
  obtain ⟨c, rfl, rfl⟩ := hR
  have hc : (cxOf (L2N.CX P w) P w K mg base nOddName "_law_odd_name" (defScope sOddName) f cdv A outer s H E).calm = true := rfl
  have hsg : LW.sgn.length ≤ 100000 := by rw [len_sgn]; decide
  have lo := odd_len
  have lo2 := len_cs oddSigns
  have lw := len_whole c
  have la := len_abc
  have h0 := Int.emod_nonneg (c / 39) (show (11 : Int) ≠ 0 by decide)
  have ea : c / 39 % 11 = ((c / 39 % 11).toNat : Int) := by omega
  have q1 : (cutS (whole c) none (some (c / 39 % 11))).length ≤ 10 := by rw [len_cs, ea, cs_take, List.length_take, ← len_cs]; omega
  have q2 : (cutS (whole c) (some (c / 39 % 11)) none).length ≤ 10 := by rw [len_cs, ea, cs_drop, List.length_drop, ← len_cs]; omega
  refine sds_cons (sd_set (i := 1) (d := .str (chS (oddC c))) ndOddName rfl (loc_of loOddName 1) (.inl rfl) (ed_ixS (w := oddSigns) ed_str (ed_mod (ed_div (ed_v loOddName 0) ed_int ⟨by decide, by decide⟩) ed_int (by decide)) (by omega) (oddC_at c)) ?_)
  refine sds_cons (sd_set (i := 2) (d := .str LW.sgn) ndOddName rfl (loc_of loOddName 2) (.inl rfl) ed_str ?_)
  refine sds_cons (sd_set (i := 3) (d := .str (whole c)) ndOddName rfl (loc_of loOddName 3) (.inl rfl) (ed_join (zs := (List.range 10).map fun (j : Nat) => chS (sgnC (mixed c j % 36))) ed_str (EL.rd (EL.to (el_lcR (j := 5) ⟨hc, ndOddName, blkOk_by (N := nOddName) (sc := defScope sOddName) (by decide +kernel), by decide, rfl, rfl, by intro _; rfl⟩ (gl_of glOddName 0) T.range (fun _ => true) (fun x => .str (chS (sgnC (mixed c x % 36)))) ed_int (by decide) (fun x hx s H C cl fp => rfl) (fun x hx _ s H C cl fp => (ed_ixS (w := LW.sgn) (ed_b 2) (ed_mod (ed_call cMixed (hr.mono (by decide)) gl_b takesN0 (ea_d (ed_b 0) (ea_d (ed_b 5) ea_nil)) rfl ⟨c, x, rfl, rfl⟩) ed_int (by decide)) hsg (sgn_at (Int.emod_nonneg _ (by decide)) (Int.emod_lt_of_pos _ (by decide)))))) (by rw [lc_all, List.map_map]; rfl))) (by rw [chs_sum, List.length_range]; show _ + _ * 0 ≤ _; omega)) ?_)
  refine sds_cons (sd_set (i := 4) (d := .int (c / 39 % 11)) ndOddName rfl (loc_of loOddName 4) (.inl rfl) (ed_mod (ed_div (ed_v loOddName 0) ed_int ⟨by decide, by decide⟩) ed_int (by decide)) ?_)
  exact sds_one (sd_ret (ed_ixL (EL.rd (el_lst (ds := [_, _, _]) (ea_d ed_str (ea_d (ed_cat (ed_v loOddName 3) ed_str (by omega)) (ea_d (ed_cat (ed_cat (ed_cutS (l := none) (u := some (c / 39 % 11)) (ed_v loOddName 3) trivial (ed_v loOddName 4) (by omega)) (ed_v loOddName 1) (by show _ + 1 ≤ _; omega)) (ed_cutS (l := some (c / 39 % 11)) (u := none) (ed_v loOddName 3) (ed_v loOddName 4) trivial (by omega)) (by rw [len_app]; show _ + 1 + _ ≤ _; omega)) ea_nil))) le_b)) (ed_mod (ed_v loOddName 0) ed_int (by decide)) (pick3 (l := c) PyData.str "" (whole c ++ "abc") (oddN2 c) "")) rfl)
/-! ### _law_odd_line -/
abbrev sOddLine : Stmt := topS 32
abbrev nOddLine : List Str := ["_law_cell_here", "_law_line_here", "_law_at"]
theorem scOddLine : FnScope nOddLine ["_law_cell_here"] (defScope sOddLine) := ⟨rfl, rfl, rfl, by decide +kernel, rfl, by decide +kernel, by decide +kernel⟩
theorem ndOddLine : (nOddLine).Nodup := scOddLine.nd
theorem loOddLine : (["_law_cell_here", "_law_line_here", "_law_at"] : List Str).all (locB (defScope sOddLine)) = true := by decide +kernel
theorem glOddLine : (["_law_line", "len"] : List Str).all (glB (defScope sOddLine)) = true := by decide +kernel
def rOddLine : List Sl → DOut → Prop := fun as o => ∃ c : Int, as = [.sh (.int c)] ∧ o = .val (.str (oddLine c))
theorem okOddLine {f : Addr} {fd : FuncData} (F : Fun K "_law_odd_line" "_law_odd_line" sOddLine f fd) (T : Tx K mg cB cN) (cLine : Cal P w K mg base 1 "_law_line" 1 rLine) : FnOk P w K mg base (L2N.CX P w) 2 f fd ["_law_cell_here"] (spD K 1 rOddLine) := by
  refine fnD F scOddLine (by decide) fun cdv A outer s H E as o hr hl hR => ?_
  obtain ⟨c, rfl, rfl⟩ := hR
  have hc : (cxOf (L2N.CX P w) P w K mg base nOddLine "_law_odd_line" (defScope sOddLine) f cdv A outer s H E).calm = true := rfl
  have tk : L2N.Takes (cxOf (L2N.CX P w) P w K mg base nOddLine "_law_odd_line" (defScope sOddLine) f cdv A outer s H E) (fun c d _ H' => E c d H') := L2N.takes_of rfl rfl rfl rfl
  have ll := (line_ok c).1
  have h0 : 0 ≤ oddA c := Int.emod_nonneg _ (by omega)
  have ea : oddA c = ((oddA c).toNat : Int) := by omega
  have q1 : (cutS (lineOf c) none (some (oddA c))).length ≤ 200 := by rw [len_cs, ea, cs_take, List.length_take, ← len_cs]; omega
  have q2 : (cutS (lineOf c) (some (oddA c)) none).length ≤ 200 := by rw [len_cs, ea, cs_drop, List.length_drop, ← len_cs]; omega
  refine sds_cons (sd_set (i := 1) (d := .str (lineOf c)) ndOddLine rfl (loc_of loOddLine 1) (.inl rfl) (ed_call cLine (hr.mono (by decide)) (gl_of glOddLine 0) tk (ea_d (ed_v loOddLine 0) ea_nil) rfl ⟨c, rfl, rfl⟩) ?_)
  refine sds_cons (sd_set (i := 2) (d := .int (oddA c)) ndOddLine rfl (loc_of loOddLine 2) (.inl rfl) (ed_mod (ed_div (ed_v loOddLine 0) ed_int ⟨by decide, by decide⟩) (ed_add (ed_lenS (ed_v loOddLine 1) (by omega) (gl_of glOddLine 1) T.len) ed_int) (by omega)) ?_)
  exact sds_one (sd_ret (ed_ixL (EL.rd (el_lst (ds := [_, _, _]) (ea_d (ed_repS (z := "x") (k := 201) ed_str ed_int (by decide +kernel)) (ea_d (ed_cat (ed_cat (ed_cutS (l := none) (u := some (oddA c)) (ed_v loOddLine 1) trivial (ed_v loOddLine 2) (by omega)) ed_str (by show _ + 1 ≤ _; omega)) (ed_cutS (l := some (oddA c)) (u := none) (ed_v loOddLine 1) (ed_v loOddLine 2) trivial (by omega)) (by rw [len_app]; show _ + 1 + _ ≤ _; omega)) (ea_d (ed_cat (ed_cat (ed_cutS (l := none) (u := some (oddA c)) (ed_v loOddLine 1) trivial (ed_v loOddLine 2) (by omega)) ed_str (by show _ + 1 ≤ _; omega)) (ed_cutS (l := some (oddA c)) (u := none) (ed_v loOddLine 1) (ed_v loOddLine 2) trivial (by omega)) (by rw [len_app]; show _ + 1 + _ ≤ _; omega)) ea_nil))) le_b)) (ed_mod (ed_v loOddLine 0) ed_int (by decide)) (pick3 (l := c) PyData.str (repS "x" 201) (oddL1 c "\n") (oddL1 c "\t") "")) rfl)
/-! ### _law_with -/
abbrev sWith : Stmt := topS 33
abbrev nWith : List Str := ["_law_row", "_law_at", "_law_thing"]
theorem scWith : FnScope nWith ["_law_row", "_law_at", "_law_thing"] (defScope sWith) := ⟨rfl, rfl, rfl, by decide +kernel, rfl, by decide +kernel, by decide +kernel⟩
theorem loWith : (["_law_row", "_law_at", "_law_thing"] : List Str).all (locB (defScope sWith)) = true := by decide +kernel
theorem cut_to {α : Type} (ds : List α) (k : Nat) : PD.cutD ds none (some (k : Int)) = ds.take k := by
  unfold PD.cutD
  rw [HT.sIx_none, HT.sIx_nat, List.drop_zero, Nat.sub_zero]
  rcases Nat.le_total k ds.length with h | h
  · rw [Nat.min_eq_left h]
  · rw [Nat.min_eq_right h, List.take_of_length_le (Nat.le_refl _), List.take_of_length_le h]
theorem cut_from {α : Type} (ds : List α) (k : Nat) : PD.cutD ds (some (k : Int)) none = ds.drop k := by
  unfold PD.cutD
  rw [HT.sIx_none, HT.sIx_nat]
  rcases Nat.le_total k ds.length with h | h
  · rw [Nat.min_eq_left h, List.take_of_length_le (by rw [List.length_drop]; exact Nat.le_refl _)]
  · rw [Nat.min_eq_right h, Nat.sub_self, List.take_zero, List.drop_eq_nil_of_le h]
def putAt {α : Type} (ds : List α) (k : Nat) (d : α) : List α := ds.take k ++ [d] ++ ds.drop (k + 1)
def rWith : List Sl → DOut → Prop := fun as o => ∃ (ds : List PyData) (k : Nat) (d : PyData), as = [.sh (.list ds), .sh (.int k), .sh d] ∧ ds.length ≤ 1000 ∧ o = .new (putAt ds k d)
theorem okWith {f : Addr} {fd : FuncData} (F : Fun K "_law_with" "_law_with" sWith f fd) : FnOk P w K mg base (L2N.CX P w) 1 f fd ["_law_row", "_law_at", "_law_thing"] (spD K 3 rWith) := by
  refine fnD F scWith (by decide) fun cdv A outer s H E as o hr hl hR => ?_
  obtain ⟨ds, k, d, rfl, hds, rfl⟩ := hR
  have e1 : ((k : Nat) : Int) + 1 = ((k + 1 : Nat) : Int) := by omega
  refine sds_one (sd_retL (el_cat (EL.dat (el_cat (EL.dat (EL.to (el_cut (l := none) (u := some (k : Int)) (ED.rd (ed_v loWith 0)) trivial (ed_v loWith 1)) (cut_to ds k))) (EL.dat (el_lst (ds := [_]) (ea_d (ed_v loWith 2) ea_nil) le_b)) ?_)) (EL.dat (EL.to (el_cut (l := some ((k : Int) + 1)) (u := none) (ED.rd (ed_v loWith 0)) (ed_add (ed_v loWith 1) ed_int) trivial) (by rw [e1]; exact cut_from ds (k + 1)))) ?_) rfl)
  · rw [List.length_take, List.length_singleton]; omega
  · rw [List.length_append, List.length_take, List.length_singleton, List.length_drop]; omega
/-! ### _law_unleaned -/
abbrev sUnleaned : Stmt := topS 37
abbrev nUnleaned : List Str := ["_law_other", "_law_cell_here"]
theorem scUnleaned : FnScope nUnleaned ["_law_other", "_law_cell_here"] (defScope sUnleaned) := ⟨rfl, rfl, rfl, by decide +kernel, rfl, by decide +kernel, by decide +kernel⟩
theorem loUnleaned : (["_law_other", "_law_cell_here"] : List Str).all (locB (defScope sUnleaned)) = true := by decide +kernel
def unleanedOf (z : Str) (c : Int) : Deed := ([⟨"cut", some (z, 0), none⟩, ⟨"set", some (z, 0), some ""⟩, ⟨"add", some (z, 0), some ""⟩] : List Deed).getD (c % 3).toNat ⟨"", none, none⟩
def rUnleaned : List Sl → DOut → Prop := fun as o => ∃ (z : Str) (c : Int), as = [.sh (.str z), .sh (.int c)] ∧ o = .val (qD (unleanedOf z c))
theorem okUnleaned {f : Addr} {fd : FuncData} (F : Fun K "_law_unleaned" "_law_unleaned" sUnleaned f fd) : FnOk P w K mg base (L2N.CX P w) 1 f fd ["_law_other", "_law_cell_here"] (spD K 2 rUnleaned) := by
  refine fnD F scUnleaned (by decide) fun cdv A outer s H E as o hr hl hR => ?_
  obtain ⟨z, c, rfl, rfl⟩ := hR
  exact sds_one (sd_ret (ed_ixL (EL.rd (el_lst (ds := [_, _, _]) (ea_d (ed_tup (ds := [_, _]) (ea_d ed_str (ea_d (ed_tup (ds := [_, _]) (ea_d (ed_v loUnleaned 0) (ea_d ed_int ea_nil)) le_b) ea_nil)) le_b) (ea_d (ed_tup (ds := [_, _, _]) (ea_d ed_str (ea_d (ed_tup (ds := [_, _]) (ea_d (ed_v loUnleaned 0) (ea_d ed_int ea_nil)) le_b) (ea_d ed_str ea_nil))) le_b) (ea_d (ed_tup (ds := [_, _, _]) (ea_d ed_str (ea_d (ed_tup (ds := [_, _]) (ea_d (ed_v loUnleaned 0) (ea_d ed_int ea_nil)) le_b) (ea_d ed_str ea_nil))) le_b) ea_nil))) le_b)) (ed_mod (ed_v loUnleaned 1) ed_int (by decide)) (pick3 (l := c) qD ⟨"cut", some (z, 0), none⟩ ⟨"set", some (z, 0), some ""⟩ ⟨"add", some (z, 0), some ""⟩ ⟨"", none, none⟩)) rfl)
end
end K1

set_option maxHeartbeats 4000000
namespace K1
open PySem L2 PD PyProof.Rows LW
def addE : Deed := ⟨"add", none, some ""⟩
def wrongW (c : Int) : Str := (["put", "Add", "", "adds", "cu"] : List Str).getD (c / 20 % 5).toNat ""
def noMark (c : Int) : Deed := ([⟨"cut", none, none⟩, ⟨"set", none, some ""⟩] : List Deed).getD (c / 20 % 2).toNat addE
def badAt (ds : List Deed) (c : Int) : Nat := (c % (ds.length : Int)).toNat
def badOf (ds : List Deed) (way c : Int) : List Deed :=
  if decide (way = 5) = true then ds ++ List.replicate (21 - ds.length) addE
  else if decide (way = 6) = true then putAt ds (badAt ds c) ⟨wrongW c, none, some ""⟩
  else if decide (way = 7) = true then putAt ds (badAt ds c) (noMark c)
  else putAt ds (badAt ds c) ⟨"add", none, some (oddLine (c / 20))⟩
theorem putAt_map {α β : Type} (q : α → β) (ds : List α) (k : Nat) (d : α) : putAt (ds.map q) k (q d) = (putAt ds k d).map q := by
  unfold putAt
  rw [List.map_append, List.map_append, List.map_take, List.map_drop]; rfl
theorem rep1 {α : Type} (n : Nat) (x : α) : (List.replicate n [x]).flatten = List.replicate n x := by
  induction n with
  | zero => rfl
  | succ n ih => rw [List.replicate_succ, List.flatten_cons, ih, List.replicate_succ]; rfl
theorem mod5 (l : Int) : l % 5 = 0 ∨ l % 5 = 1 ∨ l % 5 = 2 ∨ l % 5 = 3 ∨ l % 5 = 4 := by omega
theorem mod2 (l : Int) : l % 2 = 0 ∨ l % 2 = 1 := by omega
def spAt (ls : List Str) (x : Int) : Nat := (x % ((ls.length : Int) + 1)).toNat
def spoiltOf (c : Change) (way x : Int) : Change :=
  if decide (way = 1) = true then ⟨oddName x, c.ls, c.ds⟩
  else if decide (way = 2) = true then ⟨c.n, c.ls.take (spAt c.ls x) ++ [oddName (x / 6)] ++ c.ls.drop (spAt c.ls x), c.ds⟩
  else if (decide (way = 3) && !c.ls.isEmpty) = true then ⟨c.n, c.ls.take (spAt c.ls x) ++ [c.ls.getD (min (spAt c.ls x) (c.ls.length - 1)) ""] ++ c.ls.drop (spAt c.ls x), c.ds⟩
  else if (decide (way = 3) || decide (way = 4)) = true then ⟨c.n, sortS (c.ls ++ [c.n]), c.ds⟩
  else if decide (way = 8) = true then ⟨c.n, c.ls ++ [c.ls.headD ""], c.ds⟩
  else ⟨c.n, c.ls, badOf c.ds way x⟩
section
variable {P : Program} {w : World} {K : PySem.W.Frag} {mg : Str → Option Value} {base : Heap} {cB cN : Addr}
/-! ### _law_bad_deeds -/
abbrev sBadDeeds : Stmt := topS 34
abbrev nBadDeeds : List Str := ["_law_deeds", "_law_way", "_law_cell_here", "_law_at", "_law_word"]
theorem scBadDeeds : FnScope nBadDeeds ["_law_deeds", "_law_way", "_law_cell_here"] (defScope sBadDeeds) := ⟨rfl, rfl, rfl, by decide +kernel, rfl, by decide +kernel, by decide +kernel⟩
theorem ndBadDeeds : (nBadDeeds).Nodup := scBadDeeds.nd
theorem loBadDeeds : (["_law_deeds", "_law_way", "_law_cell_here", "_law_at", "_law_word"] : List Str).all (locB (defScope sBadDeeds)) = true := by decide +kernel
theorem glBadDeeds : (["len", "_law_with", "_law_odd_line"] : List Str).all (glB (defScope sBadDeeds)) = true := by decide +kernel
def rBadDeeds : List Sl → DOut → Prop := fun as o => ∃ (ds : List Deed) (way c : Int), as = [.sh (.list (ds.map qD)), .sh (.int way), .sh (.int c)] ∧ 1 ≤ ds.length ∧ ds.length ≤ 20 ∧ o = .new ((badOf ds way c).map qD)
theorem okBadDeeds {f : Addr} {fd : FuncData} (F : Fun K "_law_bad_deeds" "_law_bad_deeds" sBadDeeds f fd) (T : Tx K mg cB cN) (cWith : Cal P w K mg base 1 "_law_with" 3 rWith) (cOddLine : Cal P w K mg base 2 "_law_odd_line" 1 rOddLine) : FnOk P w K mg base (L2N.CX P w) 3 f fd ["_law_deeds", "_law_way", "_law_cell_here"] (spD K 3 rBadDeeds) := by
  refine fnD F scBadDeeds (by decide) fun cdv A outer s H E as o hr hl hR => ?_
  obtain ⟨ds, way, c, rfl, h1, h2, rfl⟩ := hR
  have hc : (cxOf (L2N.CX P w) P w K mg base nBadDeeds "_law_bad_deeds" (defScope sBadDeeds) f cdv A outer s H E).calm = true := rfl
  have tk : L2N.Takes (cxOf (L2N.CX P w) P w K mg base nBadDeeds "_law_bad_deeds" (defScope sBadDeeds) f cdv A outer s H E) (fun c d _ H' => E c d H') := L2N.takes_of rfl rfl rfl rfl
  have hat : c % (ds.length : Int) = ((badAt ds c : Nat) : Int) := by
    have := Int.emod_nonneg c (show (ds.length : Int) ≠ 0 by omega)
    unfold badAt; omega
  have hml : (ds.map qD).length ≤ 1000 := by rw [List.length_map]; omega
  refine sds_cons (sd_set (i := 3) (d := .int (badAt ds c)) ndBadDeeds rfl (loc_of loBadDeeds 3) (.inl rfl) (ED.to (ed_mod (ed_v loBadDeeds 2) (ed_len (ED.rd (ed_v loBadDeeds 0)) (gl_of glBadDeeds 0) T.len) (by rw [List.length_map]; omega)) (by rw [List.length_map, hat])) ?_)
  refine sds_cons (sd_if (et_c cd_eqI (ed_v loBadDeeds 1) ed_int) (fun hb => ?_) (fun hb => ?_))
  · have e : badOf ds way c = ds ++ List.replicate (21 - ds.length) addE := by unfold badOf; rw [if_pos hb]
    rw [e]
    have hk : ((21 : Int) - ((ds.map qD).length : Int)).toNat = 21 - ds.length := by rw [List.length_map]; omega
    refine sds_one (sd_retL (EL.to (el_cat (ed_v loBadDeeds 0) (EL.dat (el_rep (EL.dat (el_lst (ds := [qD addE]) (ea_d (ed_tup (ds := [_, _, _]) (ea_d ed_str (ea_d ed_non (ea_d ed_str ea_nil))) le_b) ea_nil) le_b)) (ed_sub ed_int (ed_len (ED.rd (ed_v loBadDeeds 0)) (gl_of glBadDeeds 0) T.len)) (by rw [List.length_map]; omega) (by rw [hk]; show 1 * _ ≤ _; omega))) ?_) ?_) rfl)
    · rw [hk, rep1, List.length_map, List.length_replicate]; omega
    · rw [hk, rep1, List.map_append, List.map_replicate]
  · refine sds_nil ?_
    have hb5 := hb
    refine sds_cons (sd_if (et_c cd_eqI (ed_v loBadDeeds 1) ed_int) (fun hb => ?_) (fun hb => ?_))
    · have e : badOf ds way c = putAt ds (badAt ds c) ⟨wrongW c, none, some ""⟩ := by unfold badOf; rw [hb5, if_neg Bool.false_ne_true, if_pos hb]
      rw [e]
      have hw : atI [PyData.str "put", PyData.str "Add", PyData.str "", PyData.str "adds", PyData.str "cu"] (c / 20 % 5) = some (.str (wrongW c)) := by
        unfold wrongW
        rcases mod5 (c / 20) with e | e | e | e | e <;> rw [e] <;> rfl
      refine sds_cons (sd_set (i := 4) (d := .str (wrongW c)) ndBadDeeds rfl (loc_of loBadDeeds 4) (.inl rfl) (ed_ixL (EL.rd (el_lst (ds := [_, _, _, _, _]) (ea_d ed_str (ea_d ed_str (ea_d ed_str (ea_d ed_str (ea_d ed_str ea_nil))))) le_b)) (ed_mod (ed_div (ed_v loBadDeeds 2) ed_int ⟨by decide, by decide⟩) ed_int (by decide)) hw) ?_)
      exact sds_one (sd_retL (el_call cWith (hr.mono (by decide)) (gl_of glBadDeeds 1) tk (ea_d (ed_v loBadDeeds 0) (ea_d (ed_v loBadDeeds 3) (ea_d (ed_tup (ds := [_, _, _]) (ea_d (ed_v loBadDeeds 4) (ea_d ed_non (ea_d ed_str ea_nil))) le_b) ea_nil))) rfl ⟨ds.map qD, badAt ds c, qD ⟨wrongW c, none, some ""⟩, rfl, hml, rfl⟩) (putAt_map qD ds _ _))
    · refine sds_nil ?_
      have hb6 := hb
      refine sds_cons (sd_if (et_c cd_eqI (ed_v loBadDeeds 1) ed_int) (fun hb => ?_) (fun hb => ?_))
      · have e : badOf ds way c = putAt ds (badAt ds c) (noMark c) := by unfold badOf; rw [hb5, if_neg Bool.false_ne_true, hb6, if_neg Bool.false_ne_true, if_pos hb]
        rw [e]
        have hw : atI [qD ⟨"cut", none, none⟩, qD ⟨"set", none, some ""⟩] (c / 20 % 2) = some (qD (noMark c)) := by
          unfold noMark
          rcases mod2 (c / 20) with e | e <;> rw [e] <;> rfl
        exact sds_one (sd_retL (el_call cWith (hr.mono (by decide)) (gl_of glBadDeeds 1) tk (ea_d (ed_v loBadDeeds 0) (ea_d (ed_v loBadDeeds 3) (ea_d (ed_ixL (EL.rd (el_lst (ds := [_, _]) (ea_d (ed_tup (ds := [_, _]) (ea_d ed_str (ea_d ed_non ea_nil)) le_b) (ea_d (ed_tup (ds := [_, _, _]) (ea_d ed_str (ea_d ed_non (ea_d ed_str ea_nil))) le_b) ea_nil)) le_b)) (ed_mod (ed_div (ed_v loBadDeeds 2) ed_int ⟨by decide, by decide⟩) ed_int (by decide)) hw) ea_nil))) rfl ⟨ds.map qD, badAt ds c, qD (noMark c), rfl, hml, rfl⟩) (putAt_map qD ds _ _))
      · refine sds_nil ?_
        have e : badOf ds way c = putAt ds (badAt ds c) ⟨"add", none, some (oddLine (c / 20))⟩ := by unfold badOf; rw [hb5, if_neg Bool.false_ne_true, hb6, if_neg Bool.false_ne_true, hb, if_neg Bool.false_ne_true]
        rw [e]
        exact sds_one (sd_retL (el_call cWith (hr.mono (by decide)) (gl_of glBadDeeds 1) tk (ea_d (ed_v loBadDeeds 0) (ea_d (ed_v loBadDeeds 3) (ea_d (ed_tup (ds := [_, _, _]) (ea_d ed_str (ea_d ed_non (ea_d (ed_call cOddLine (hr.mono (by decide)) (gl_of glBadDeeds 2) tk (ea_d (ed_div (ed_v loBadDeeds 2) ed_int ⟨by decide, by decide⟩) ea_nil) rfl ⟨_, rfl, rfl⟩) ea_nil))) le_b) ea_nil))) rfl ⟨ds.map qD, badAt ds c, qD ⟨"add", none, some (oddLine (c / 20))⟩, rfl, hml, rfl⟩) (putAt_map qD ds _ _))
end
end K1

set_option maxHeartbeats 4000000
namespace K1
open PySem L2 PD PyProof.Rows LW
section
variable {P : Program} {w : World} {K : PySem.W.Frag} {mg : Str → Option Value} {base : Heap} {cB cN : Addr}
/-! ### _law_spoilt -/
abbrev sSpoilt : Stmt := topS 35
abbrev nSpoilt : List Str := ["_law_change", "_law_way", "_law_cell_here", "_law_name_here", "_law_leans", "_law_deeds", "_law_at"]
theorem scSpoilt : FnScope nSpoilt ["_law_change", "_law_way", "_law_cell_here"] (defScope sSpoilt) := ⟨rfl, rfl, rfl, by decide +kernel, rfl, by decide +kernel, by decide +kernel⟩
theorem ndSpoilt : (nSpoilt).Nodup := scSpoilt.nd
theorem loSpoilt : (["_law_change", "_law_way", "_law_cell_here", "_law_name_here", "_law_leans", "_law_deeds", "_law_at"] : List Str).all (locB (defScope sSpoilt)) = true := by decide +kernel
theorem glSpoilt : (["len", "_law_odd_name", "min", "sorted", "_law_bad_deeds"] : List Str).all (glB (defScope sSpoilt)) = true := by decide +kernel
def rSpoilt : List Sl → DOut → Prop := fun as o => ∃ (c : Change) (way x : Int), as = [.sh (qC c), .sh (.int way), .sh (.int x)] ∧ c.ls.length ≤ 50 ∧ 1 ≤ c.ds.length ∧ c.ds.length ≤ 20 ∧ (way = 8 → c.ls.isEmpty = false) ∧ o = .val (qC (spoiltOf c way x))
theorem okSpoilt {f : Addr} {fd : FuncData} (F : Fun K "_law_spoilt" "_law_spoilt" sSpoilt f fd) (T : Tx K mg cB cN) (cOddName : Cal P w K mg base 2 "_law_odd_name" 1 rOddName) (cBadDeeds : Cal P w K mg base 3 "_law_bad_deeds" 3 rBadDeeds) : FnOk P w K mg base (L2N.CX P w) 4 f fd ["_law_change", "_law_way", "_law_cell_here"] (spD K 3 rSpoilt) := by
  refine fnD F scSpoilt (by decide) fun cdv A outer s H E as o hr hl hR => ?_
  obtain ⟨⟨n, ls, ds⟩, way, x, rfl, hls, hd1, hd2, h8, rfl⟩ := hR
  have hc : (cxOf (L2N.CX P w) P w K mg base nSpoilt "_law_spoilt" (defScope sSpoilt) f cdv A outer s H E).calm = true := rfl
  have tk : L2N.Takes (cxOf (L2N.CX P w) P w K mg base nSpoilt "_law_spoilt" (defScope sSpoilt) f cdv A outer s H E) (fun c d _ H' => E c d H') := L2N.takes_of rfl rfl rfl rfl
  change ls.length ≤ 50 at hls
  change 1 ≤ ds.length at hd1
  change ds.length ≤ 20 at hd2
  change way = 8 → ls.isEmpty = false at h8
  have hml : (ls.map PyData.str).length = ls.length := List.length_map _
  have hat : x % ((ls.length : Int) + 1) = ((spAt ls x : Nat) : Int) := by
    have := Int.emod_nonneg x (show (ls.length : Int) + 1 ≠ 0 by omega)
    unfold spAt; omega
  have hat2 : spAt ls x ≤ ls.length := by
    have := Int.emod_lt_of_pos x (show (0 : Int) < (ls.length : Int) + 1 by omega)
    omega
  refine sds_cut [.sh (qC ⟨n, ls, ds⟩), .sh (.int way), .sh (.int x), .sh (.str n), .sh (.list (ls.map .str)), .sh (.list (ds.map qD)), .un] (sd_asg (ed_v loSpoilt 0) (gu_tup hc (gus_cons (gu_name (j := 3) ndSpoilt rfl (loc_of loSpoilt 3) (.inl rfl)) (gus_cons (gu_name (j := 4) ndSpoilt rfl (loc_of loSpoilt 4) (.inl rfl)) (gus_cons (gu_name (j := 5) ndSpoilt rfl (loc_of loSpoilt 5) (.inl rfl)) gus_nil)))) ⟨_, rfl, rfl, _, _, _, rfl, rfl, _, _, _, rfl, rfl, _, _, _, rfl, rfl, rfl, rfl⟩ (SlLe.refl _)) ?_
  refine sds_cons (sd_set (i := 6) (d := .int (spAt ls x)) ndSpoilt rfl (loc_of loSpoilt 6) (.inl rfl) (ED.to (ed_mod (ed_v loSpoilt 2) (ed_add (ed_len (ED.rd (ed_v loSpoilt 4)) (gl_of glSpoilt 0) T.len) ed_int) (by omega)) (by rw [hml, hat])) ?_)
  refine sds_cons (sd_if (et_c cd_eqI (ed_v loSpoilt 1) ed_int) (fun hb => ?_) (fun hb => ?_))
  · have e : spoiltOf ⟨n, ls, ds⟩ way x = ⟨oddName x, ls, ds⟩ := by unfold spoiltOf; rw [if_pos hb]
    rw [e]
    exact sds_one (sd_ret (ed_tup (ds := [_, _, _]) (ea_d (ed_call cOddName (hr.mono (by decide)) (gl_of glSpoilt 1) tk (ea_d (ed_v loSpoilt 2) ea_nil) rfl ⟨x, rfl, rfl⟩) (ea_d (ed_v loSpoilt 4) (ea_d (ed_v loSpoilt 5) ea_nil))) le_b) rfl)
  refine sds_nil ?_
  have hb1 := hb
  clear hb
  refine sds_cons (sd_if (et_c cd_eqI (ed_v loSpoilt 1) ed_int) (fun hb => ?_) (fun hb => ?_))
  · have e : spoiltOf ⟨n, ls, ds⟩ way x = ⟨n, ls.take (spAt ls x) ++ [oddName (x / 6)] ++ ls.drop (spAt ls x), ds⟩ := by unfold spoiltOf; rw [hb1, if_neg Bool.false_ne_true, if_pos hb]
    rw [e]
    refine sds_one (sd_ret (ED.to (ed_tup (ds := [_, _, _]) (ea_d (ed_v loSpoilt 3) (ea_d (EL.dat (el_cat (EL.dat (el_cat (EL.dat (EL.to (el_cut (l := none) (u := some (spAt ls x : Int)) (ED.rd (ed_v loSpoilt 4)) trivial (ed_v loSpoilt 6)) (cut_to _ _))) (EL.dat (el_lst (ds := [_]) (ea_d (ed_call cOddName (hr.mono (by decide)) (gl_of glSpoilt 1) tk (ea_d (ed_div (ed_v loSpoilt 2) ed_int ⟨by decide, by decide⟩) ea_nil) rfl ⟨x / 6, rfl, rfl⟩) ea_nil) le_b)) (by rw [List.length_take, List.length_singleton]; omega))) (EL.dat (EL.to (el_cut (l := some (spAt ls x : Int)) (u := none) (ED.rd (ed_v loSpoilt 4)) (ed_v loSpoilt 6) trivial) (cut_from _ _))) (by rw [List.length_append, List.length_take, List.length_singleton, List.length_drop]; omega))) (ea_d (ed_v loSpoilt 5) ea_nil))) le_b) ?_) rfl)
    show PyData.tuple [PyData.str n, PyData.list (_ ++ _ ++ _), PyData.list (ds.map qD)] = PyData.tuple [PyData.str n, PyData.list ((ls.take (spAt ls x) ++ [oddName (x / 6)] ++ ls.drop (spAt ls x)).map .str), PyData.list (ds.map qD)]
    rw [List.map_append, List.map_append, List.map_take, List.map_drop]; rfl
  refine sds_nil ?_
  have hb2 := hb
  clear hb
  refine sds_cons (sd_if (et_w (ew_and (et_c cd_eqI (ed_v loSpoilt 1) ed_int) (fun _ => (ew_and1 (et_list (ED.rd (ed_v loSpoilt 4))))))) (fun hb => ?_) (fun hb => ?_))
  · rw [List.isEmpty_map] at hb
    have e : spoiltOf ⟨n, ls, ds⟩ way x = ⟨n, ls.take (spAt ls x) ++ [ls.getD (min (spAt ls x) (ls.length - 1)) ""] ++ ls.drop (spAt ls x), ds⟩ := by unfold spoiltOf; rw [hb1, if_neg Bool.false_ne_true, hb2, if_neg Bool.false_ne_true, if_pos hb]
    rw [e]
    rw [Bool.and_eq_true] at hb
    have hne : 0 < ls.length := by cases ls with | nil => exact absurd hb.2 (by decide) | cons => simp
    have hmin : atI (ls.map PyData.str) ((if (((ls.map PyData.str).length : Int) - 1) < ((spAt ls x : Nat) : Int) then (((ls.map PyData.str).length : Int) - 1) else ((spAt ls x : Nat) : Int))) = some (.str (ls.getD (min (spAt ls x) (ls.length - 1)) "")) := by
      have em : (if (((ls.map PyData.str).length : Int) - 1) < ((spAt ls x : Nat) : Int) then (((ls.map PyData.str).length : Int) - 1) else ((spAt ls x : Nat) : Int)) = ((min (spAt ls x) (ls.length - 1) : Nat) : Int) := by rw [hml]; split <;> omega
      rw [em]
      refine atI_nat ?_
      rw [List.getElem?_map, List.getD_eq_getElem?_getD, List.getElem?_eq_getElem (by omega)]; rfl
    refine sds_one (sd_ret (ED.to (ed_tup (ds := [_, _, _]) (ea_d (ed_v loSpoilt 3) (ea_d (EL.dat (el_cat (EL.dat (el_cat (EL.dat (EL.to (el_cut (l := none) (u := some (spAt ls x : Int)) (ED.rd (ed_v loSpoilt 4)) trivial (ed_v loSpoilt 6)) (cut_to _ _))) (EL.dat (el_lst (ds := [.str (ls.getD (min (spAt ls x) (ls.length - 1)) "")]) (ea_d (ed_ixL (ED.rd (ed_v loSpoilt 4)) (ed_min hc (ed_v loSpoilt 6) (ed_sub (ed_len (ED.rd (ed_v loSpoilt 4)) (gl_of glSpoilt 0) T.len) ed_int) (gl_of glSpoilt 2) T.min) hmin) ea_nil) le_b)) (by rw [List.length_take, List.length_singleton]; omega))) (EL.dat (EL.to (el_cut (l := some (spAt ls x : Int)) (u := none) (ED.rd (ed_v loSpoilt 4)) (ed_v loSpoilt 6) trivial) (cut_from _ _))) (by rw [List.length_append, List.length_take, List.length_singleton, List.length_drop]; omega))) (ea_d (ed_v loSpoilt 5) ea_nil))) le_b) ?_) rfl)
    show PyData.tuple [PyData.str n, PyData.list (_ ++ _ ++ _), PyData.list (ds.map qD)] = PyData.tuple [PyData.str n, PyData.list ((ls.take (spAt ls x) ++ [ls.getD (min (spAt ls x) (ls.length - 1)) ""] ++ ls.drop (spAt ls x)).map .str), PyData.list (ds.map qD)]
    rw [List.map_append, List.map_append, List.map_take, List.map_drop]; rfl
  refine sds_nil ?_
  rw [List.isEmpty_map] at hb
  have hb3 := hb
  clear hb
  refine sds_cons (sd_if (et_w (ew_or (et_c cd_eqI (ed_v loSpoilt 1) ed_int) (fun _ => (ew_or1 (et_c cd_eqI (ed_v loSpoilt 1) ed_int))))) (fun hb => ?_) (fun hb => ?_))
  · have e : spoiltOf ⟨n, ls, ds⟩ way x = ⟨n, sortS (ls ++ [n]), ds⟩ := by unfold spoiltOf; rw [hb1, if_neg Bool.false_ne_true, hb2, if_neg Bool.false_ne_true, hb3, if_neg Bool.false_ne_true, if_pos hb]
    rw [e]
    exact sds_one (sd_ret (ed_tup (ds := [_, _, _]) (ea_d (ed_v loSpoilt 3) (ea_d (EL.dat (el_sorted (ds := (sortS (ls ++ [n])).map .str) (zs := ls ++ [n]) (EL.rd (EL.to (el_cat (ed_v loSpoilt 4) (EL.dat (el_lst (ds := [_]) (ea_d (ed_v loSpoilt 3) ea_nil) le_b)) (by rw [hml, List.length_singleton]; omega)) (by rw [List.map_append]; rfl))) (by rw [List.length_append, List.length_singleton]; omega) (gl_of glSpoilt 3) T.sorted (fun ys p h => by rw [sortS_uniq p h]))) (ea_d (ed_v loSpoilt 5) ea_nil))) le_b) rfl)
  refine sds_nil ?_
  have hb4 := hb
  clear hb
  refine sds_cons (sd_if (et_c cd_eqI (ed_v loSpoilt 1) ed_int) (fun hb => ?_) (fun hb => ?_))
  · have e : spoiltOf ⟨n, ls, ds⟩ way x = ⟨n, ls ++ [ls.headD ""], ds⟩ := by unfold spoiltOf; rw [hb1, if_neg Bool.false_ne_true, hb2, if_neg Bool.false_ne_true, hb3, if_neg Bool.false_ne_true, hb4, if_neg Bool.false_ne_true, if_pos hb]
    rw [e]
    have he : ls.isEmpty = false := h8 (by simpa using hb)
    have hh : atI (ls.map PyData.str) 0 = some (.str (ls.headD "")) := by
      refine atI_nat (j := 0) ?_
      cases ls with
      | nil => cases he
      | cons a r => rfl
    refine sds_one (sd_ret (ED.to (ed_tup (ds := [_, _, _]) (ea_d (ed_v loSpoilt 3) (ea_d (EL.dat (el_cat (ed_v loSpoilt 4) (EL.dat (el_lst (ds := [_]) (ea_d (ed_ixL (ED.rd (ed_v loSpoilt 4)) ed_int hh) ea_nil) le_b)) (by rw [hml, List.length_singleton]; omega))) (ea_d (ed_v loSpoilt 5) ea_nil))) le_b) ?_) rfl)
    show PyData.tuple [PyData.str n, PyData.list (_ ++ _), PyData.list (ds.map qD)] = PyData.tuple [PyData.str n, PyData.list ((ls ++ [ls.headD ""]).map .str), PyData.list (ds.map qD)]
    rw [List.map_append]; rfl
  refine sds_nil ?_
  have e : spoiltOf ⟨n, ls, ds⟩ way x = ⟨n, ls, badOf ds way x⟩ := by unfold spoiltOf; rw [hb1, if_neg Bool.false_ne_true, hb2, if_neg Bool.false_ne_true, hb3, if_neg Bool.false_ne_true, hb4, if_neg Bool.false_ne_true, hb, if_neg Bool.false_ne_true]
  rw [e]
  exact sds_one (sd_ret (ed_tup (ds := [_, _, _]) (ea_d (ed_v loSpoilt 3) (ea_d (ed_v loSpoilt 4) (ea_d (EL.dat (el_call cBadDeeds (hr.mono (by decide)) (gl_of glSpoilt 4) tk (ea_d (ed_v loSpoilt 5) (ea_d (ed_v loSpoilt 1) (ea_d (ed_v loSpoilt 2) ea_nil))) rfl ⟨ds, way, x, rfl, hd1, hd2, rfl⟩)) ea_nil))) le_b) rfl)
end
end K1

set_option maxHeartbeats 4000000
namespace K1
open PySem L2 PD PyProof.Rows LW
/-! ### names and lines -/
theorem isName_ok {z : Str} (h : NameOk z) : isName z = true := by
  obtain ⟨h1, h2, h3⟩ := h
  have e1 : decide (z = "") = false := decide_eq_false fun e => by
    rw [e] at h1; exact absurd h1 (by decide +kernel)
  have e2 : decide (12 < (z.length : Int)) = false := decide_eq_false (by omega)
  unfold isName
  rw [e1, e2, Bool.or_false, Bool.not_false, Bool.true_and, List.all_eq_true]
  exact fun c hc => decide_eq_true (h3 c hc)
theorem one_lt (c d : Nat) : ([c] < [d]) ↔ c < d := by
  rw [List.cons_lt_cons_iff]
  constructor
  · rintro (h | ⟨_, h⟩)
    · exact h
    · exact absurd h (List.not_lt_nil _)
  · exact fun h => .inl h
theorem isLine_ok {z : Str} (h : LineOk z) : isLine z = true := by
  obtain ⟨h1, h2⟩ := h
  have e2 : decide (200 < (z.length : Int)) = false := decide_eq_false (by omega)
  unfold isLine
  rw [e2, Bool.not_false, Bool.true_and, List.all_eq_true]
  intro c hc
  obtain ⟨h3, h4⟩ := h2 c hc
  have e3 : ¬ ((⟨#[c]⟩ : Str).cps.toList < (" " : Str).cps.toList) := by
    show ¬ [c] < [32]
    rw [one_lt]; omega
  have e4 : ¬ (("~" : Str).cps.toList < (⟨#[c]⟩ : Str).cps.toList) := by
    show ¬ [126] < [c]
    rw [one_lt]; omega
  rw [decide_eq_false e3, decide_eq_false e4]; rfl
theorem isLine_not {z : Str} {c : Nat} (h : c ∈ cs z) (h2 : c < 32) : isLine z = false := by
  unfold isLine
  rw [← Bool.not_eq_true, Bool.and_eq_true, List.all_eq_true]
  intro ⟨_, q⟩
  have := q c h
  have e3 : ((⟨#[c]⟩ : Str).cps.toList < (" " : Str).cps.toList) := by
    show [c] < [32]
    rw [one_lt]; omega
  rw [decide_eq_true e3] at this
  cases this
theorem isName_not {z : Str} {c : Nat} (h : c ∈ cs z) (h2 : c ∉ cs LW.sgn) : isName z = false := by
  unfold isName
  rw [← Bool.not_eq_true, Bool.and_eq_true, List.all_eq_true]
  intro ⟨_, q⟩
  exact h2 (of_decide_eq_true (q c h))
theorem pick3_ind {α : Type} {Pr : α → Prop} {x y z d : α} (l : Int) (h1 : Pr x) (h2 : Pr y) (h3 : Pr z) : Pr ([x, y, z].getD (l % 3).toNat d) := by
  rcases mod3 l with e | e | e <;> rw [e]
  · exact h1
  · exact h2
  · exact h3
theorem oddC_bad (c : Int) : oddC c ∉ cs LW.sgn ∧ oddC c < 256 := by
  have h0 := Int.emod_nonneg (c / 3) (show (13 : Int) ≠ 0 by decide)
  have h1 := Int.emod_lt_of_pos (c / 3) (show (0 : Int) < 13 by decide)
  have a : ((cs oddSigns).all fun c => decide (c ∉ cs LW.sgn ∧ c < 256)) = true := by decide +kernel
  have hi : (c / 3 % 13).toNat < (cs oddSigns).length := by rw [odd_len]; omega
  refine of_decide_eq_true (List.all_eq_true.mp a _ ?_)
  unfold oddC
  rw [List.getD_eq_getElem?_getD, List.getElem?_eq_getElem hi]
  exact List.getElem_mem hi
theorem cs_whole_ok (c : Int) : ∀ x ∈ cs (whole c), x < 256 := by
  have a : ((cs LW.sgn).all fun c => decide (c < 256)) = true := by decide +kernel
  intro x hx
  rw [cs_whole] at hx
  obtain ⟨j, _, rfl⟩ := List.mem_map.mp hx
  exact of_decide_eq_true (List.all_eq_true.mp a _ (sgnC_mem (Int.emod_nonneg _ (by decide)) (Int.emod_lt_of_pos _ (by decide))))
theorem cs_cuts (z : Str) (m : Str) {i : Int} (h : 0 ≤ i) : cs (cutS z none (some i) ++ m ++ cutS z (some i) none) = (cs z).take i.toNat ++ cs m ++ (cs z).drop i.toNat := by
  have ea : i = ((i.toNat : Nat) : Int) := by omega
  rw [cs_app, cs_app]
  have h1 : cs (cutS z none (some i)) = (cs z).take i.toNat := by
    have := cs_take z i.toNat
    rw [← ea] at this; exact this
  have h2 : cs (cutS z (some i) none) = (cs z).drop i.toNat := by
    have := cs_drop z i.toNat
    rw [← ea] at this; exact this
  rw [h1, h2]
theorem cs_oddN2 (c : Int) : cs (oddN2 c) = (cs (whole c)).take (c / 39 % 11).toNat ++ [oddC c] ++ (cs (whole c)).drop (c / 39 % 11).toNat := cs_cuts _ _ (Int.emod_nonneg _ (by decide))
theorem cs_oddL1 (c : Int) (z : Str) : cs (oddL1 c z) = (cs (lineOf c)).take (oddA c).toNat ++ cs z ++ (cs (lineOf c)).drop (oddA c).toNat := cs_cuts _ _ (Int.emod_nonneg _ (by omega))
theorem oddName_bad (c : Int) : isName (oddName c) = false := by
  refine pick3_ind (Pr := fun z => isName z = false) c ?_ ?_ ?_
  · decide +kernel
  · unfold isName
    have e : decide (12 < ((whole c ++ "abc").length : Int)) = true := decide_eq_true (by rw [len_app, len_whole, len_abc]; decide)
    rw [e, Bool.or_true]; rfl
  · exact isName_not (c := oddC c) (by rw [cs_oddN2]; simp) (oddC_bad c).1
theorem oddName_tx (c : Int) : Tx0 (oddName c) := by
  refine pick3_ind (Pr := Tx0) c ⟨by decide +kernel, by decide +kernel⟩ ⟨by rw [len_app, len_whole, len_abc]; decide, fun x hx => ?_⟩ ⟨?_, fun x hx => ?_⟩
  · have hx : x ∈ cs (whole c ++ "abc") := hx
    rw [cs_app] at hx
    rcases List.mem_append.mp hx with hx | hx
    · exact cs_whole_ok c x hx
    · have a : ((cs "abc").all fun c => decide (c < 256)) = true := by decide +kernel
      exact of_decide_eq_true (List.all_eq_true.mp a x hx)
  · rw [len_cs, cs_oddN2, List.length_append, List.length_append, List.length_take, List.length_drop, ← len_cs, len_whole, List.length_singleton]; omega
  · have hx : x ∈ cs (oddN2 c) := hx
    rw [cs_oddN2] at hx
    rcases List.mem_append.mp hx with hx | hx
    · rcases List.mem_append.mp hx with hx | hx
      · exact cs_whole_ok c x (List.mem_of_mem_take hx)
      · rw [List.mem_singleton.mp hx]; exact (oddC_bad c).2
    · exact cs_whole_ok c x (List.mem_of_mem_drop hx)
theorem rep_len : (repS "x" 201).length = 201 := by decide +kernel
theorem rep_ok : Tx0 (repS "x" 201) := by
  have a : ((cs (repS "x" 201)).all fun c => decide (c < 256)) = true := by decide +kernel
  exact ⟨by rw [rep_len]; decide, fun c hc => of_decide_eq_true (List.all_eq_true.mp a c hc)⟩
theorem cs_nl : cs "\n" = [10] := by decide +kernel
theorem cs_tab : cs "\t" = [9] := by decide +kernel
theorem oddLine_bad (c : Int) : isLine (oddLine c) = false := by
  refine pick3_ind (Pr := fun z => isLine z = false) c ?_ ?_ ?_
  · unfold isLine
    rw [rep_len]; rfl
  · exact isLine_not (c := 10) (by rw [cs_oddL1, cs_nl]; simp) (by decide)
  · exact isLine_not (c := 9) (by rw [cs_oddL1, cs_tab]; simp) (by decide)
theorem oddL1_tx (c : Int) {z : Str} {k : Nat} (h : cs z = [k]) (hk : k < 256) : Tx0 (oddL1 c z) := by
  have hl := line_ok c
  have hl1 := hl.1
  have hl2 := len_cs (lineOf c)
  refine ⟨?_, fun x hx => ?_⟩
  · rw [len_cs, cs_oddL1, h, List.length_append, List.length_append, List.length_take, List.length_drop, List.length_singleton]; omega
  · have hx : x ∈ cs (oddL1 c z) := hx
    rw [cs_oddL1, h] at hx
    rcases List.mem_append.mp hx with hx | hx
    · rcases List.mem_append.mp hx with hx | hx
      · have := hl.2 x (List.mem_of_mem_take hx); omega
      · rw [List.mem_singleton.mp hx]; exact hk
    · have := hl.2 x (List.mem_of_mem_drop hx); omega
theorem oddLine_tx (c : Int) : Tx0 (oddLine c) := pick3_ind (Pr := Tx0) c rep_ok (oddL1_tx c cs_nl (by decide)) (oddL1_tx c cs_tab (by decide))
/-! ### leans that rise -/
theorem rising_pw : ∀ {ls : List Str}, rising ls = true ↔ ls.Pairwise fun a b => cs a < cs b
  | [] => ⟨fun _ => List.Pairwise.nil, fun _ => rfl⟩
  | [a] => ⟨fun _ => List.pairwise_singleton _ _, fun _ => rfl⟩
  | a :: b :: r => by
    rw [rising, Bool.and_eq_true, decide_eq_true_iff, rising_pw (ls := b :: r)]
    constructor
    · intro ⟨h1, h2⟩
      refine List.pairwise_cons.mpr ⟨fun y hy => ?_, h2⟩
      rcases List.mem_cons.mp hy with rfl | hy
      · exact h1
      · exact List.lt_trans h1 (List.rel_of_pairwise_cons h2 hy)
    · intro h
      exact ⟨List.rel_of_pairwise_cons h List.mem_cons_self, (List.pairwise_cons.mp h).2⟩
theorem rising_nodup {ls : List Str} (h : rising ls = true) : ls.Nodup := (rising_pw.mp h).imp fun {a b} q e => by
  rw [e] at q; exact lt_irr _ q
theorem not_rising {ls : List Str} (h : ¬ ls.Nodup) : rising ls = false := by
  rw [← Bool.not_eq_true]; exact fun q => h (rising_nodup q)
end K1

set_option maxHeartbeats 4000000
namespace K1
open PySem L2 PD PyProof.Rows LW
/-! ### the change that is drawn -/
structure Base (n : Str) (ls : List Str) (ds : List Deed) : Prop where
  on : NameOk n
  ol : ∀ z ∈ ls, NameOk z
  ris : rising ls = true
  nin : n ∉ ls
  ll : ls.length ≤ 5
  d1 : 1 ≤ ds.length
  d2 : ds.length ≤ 20
  bd : ∀ d ∈ ds, badDeed d = false
  nl : ∀ d ∈ ds, notLeaned n ls d = false
  ok : ∀ d ∈ ds, DeedOk d
theorem Base.names {n ls ds} (b : Base n ls ds) : badNames n ls = false := by
  have h1 : (n :: ls).all isName = true := by
    rw [List.all_eq_true]
    intro z hz
    rcases List.mem_cons.mp hz with rfl | hz
    · exact isName_ok b.on
    · exact isName_ok (b.ol z hz)
  unfold badNames
  rw [h1, b.ris, decide_eq_false b.nin]; rfl
theorem Base.deeds {n ls ds} (b : Base n ls ds) : badDeeds ds = false := by
  unfold badDeeds
  have h1 : ds.any badDeed = false := by
    rw [← Bool.not_eq_true, List.any_eq_true]
    intro ⟨d, hd, q⟩
    rw [b.bd d hd] at q; cases q
  rw [h1, decide_eq_false (by have := b.d2; omega)]; rfl
theorem Base.chk {n ls ds} (b : Base n ls ds) : chk ⟨n, ls, ds⟩ = none := by
  have h1 : ds.any (notLeaned n ls) = false := by
    rw [← Bool.not_eq_true, List.any_eq_true]
    intro ⟨d, hd, q⟩
    rw [b.nl d hd] at q; cases q
  unfold K1.chk
  rw [b.names, if_neg Bool.false_ne_true, b.deeds, if_neg Bool.false_ne_true, h1, if_neg Bool.false_ne_true]
theorem Base.change {n ls ds} (b : Base n ls ds) : ChangeOk ⟨n, ls, ds⟩ := ⟨name_tx b.on, fun z hz => name_tx (b.ol z hz), Nat.le_trans b.ll (by decide), Nat.le_trans b.d2 (by decide), b.ok⟩
theorem chk_names {c : Change} (h : badNames c.n c.ls = true) : chk c = some true := by unfold chk; rw [if_pos h]
theorem chk_deeds {c : Change} (h : badDeeds c.ds = true) : chk c = some true := by
  unfold chk
  rw [h]
  split
  · rfl
  · rfl
theorem mem_putAt {α : Type} {ds : List α} {k : Nat} {d x : α} (h : x ∈ putAt ds k d) : x ∈ ds ∨ x = d := by
  unfold putAt at h
  rcases List.mem_append.mp h with h | h
  · rcases List.mem_append.mp h with h | h
    · exact .inl (List.mem_of_mem_take h)
    · exact .inr (List.mem_singleton.mp h)
  · exact .inl (List.mem_of_mem_drop h)
theorem putAt_mem {α : Type} (ds : List α) (k : Nat) (d : α) : d ∈ putAt ds k d := by unfold putAt; simp
theorem putAt_len {α : Type} {ds : List α} {k : Nat} {d : α} (h : k < ds.length) : (putAt ds k d).length = ds.length := by
  unfold putAt
  rw [List.length_append, List.length_append, List.length_take, List.length_drop, List.length_singleton]; omega
theorem deed_any {ds : List Deed} {d : Deed} (h : d ∈ ds) (q : badDeed d = true) : badDeeds ds = true := by
  unfold badDeeds
  rw [List.any_eq_true.mpr ⟨d, h, q⟩, Bool.or_true]
theorem deeds_app {ds r : List Deed} (h : badDeeds ds = true) : badDeeds (ds ++ r) = true := by
  unfold badDeeds at h ⊢
  rw [Bool.or_eq_true] at h
  rcases h with h | h
  · have : 20 < ds.length := of_decide_eq_true h
    rw [decide_eq_true (by rw [List.length_append]; omega)]; rfl
  · rw [List.any_append, h]; simp
/-! a mark of a name that is not leaned on -/
theorem empty_tx : Tx0 "" := ⟨by decide +kernel, by decide +kernel⟩
theorem words_tx : Tx0 "add" ∧ Tx0 "cut" ∧ Tx0 "set" := ⟨⟨by decide +kernel, by decide +kernel⟩, ⟨by decide +kernel, by decide +kernel⟩, ⟨by decide +kernel, by decide +kernel⟩⟩
theorem empty_line : isLine "" = true := by decide +kernel
theorem unleaned_ok {z : Str} (hz : Tx0 z) (c : Int) : DeedOk (unleanedOf z c) := by
  refine pick3_ind (Pr := DeedOk) c ?_ ?_ ?_
  · exact ⟨words_tx.2.1, fun h => absurd rfl h, fun l h => (by cases h), fun x k h => (by cases h; exact hz)⟩
  · exact ⟨words_tx.2.2, fun _ => rfl, fun l h => (by cases h; exact empty_tx), fun x k h => (by cases h; exact hz)⟩
  · exact ⟨words_tx.1, fun _ => rfl, fun l h => (by cases h; exact empty_tx), fun x k h => (by cases h; exact hz)⟩
theorem unleaned_good (z : Str) (c : Int) : badDeed (unleanedOf z c) = false := by
  refine pick3_ind (Pr := fun d => badDeed d = false) c ?_ ?_ ?_
  · rfl
  · show (false || (true && false) || (true && !isLine "")) = false
    rw [empty_line]; rfl
  · show (false || (false && false) || (true && !isLine "")) = false
    rw [empty_line]; rfl
theorem unleaned_not {z n : Str} {ls : List Str} (c : Int) (h : z ∉ n :: ls) : notLeaned n ls (unleanedOf z c) = true := by
  rw [List.mem_cons, not_or] at h
  have e : (!decide (z = n) && !decide (z ∈ ls)) = true := by rw [decide_eq_false h.1, decide_eq_false h.2]; rfl
  exact pick3_ind (Pr := fun d => notLeaned n ls d = true) c e e e
theorem Base.not {n ls ds} (b : Base n ls ds) {z : Str} (hz : NameOk z) (h : z ∉ n :: ls) {k : Nat} (hk : k < ds.length) (c : Int) :
    K1.chk ⟨n, ls, putAt ds k (unleanedOf z c)⟩ = some false ∧ ChangeOk ⟨n, ls, putAt ds k (unleanedOf z c)⟩ := by
  have h1 : (putAt ds k (unleanedOf z c)).any (notLeaned n ls) = true := List.any_eq_true.mpr ⟨_, putAt_mem _ _ _, unleaned_not c h⟩
  have h2 : badDeeds (putAt ds k (unleanedOf z c)) = false := by
    unfold badDeeds
    have h1 : (putAt ds k (unleanedOf z c)).any badDeed = false := by
      rw [← Bool.not_eq_true, List.any_eq_true]
      intro ⟨d, hd, q⟩
      rcases mem_putAt hd with hd | rfl
      · rw [b.bd d hd] at q; cases q
      · rw [unleaned_good] at q; cases q
    rw [h1, decide_eq_false (by rw [putAt_len hk]; have := b.d2; omega)]; rfl
  refine ⟨?_, name_tx b.on, fun z hz => name_tx (b.ol z hz), Nat.le_trans b.ll (by decide), by show (putAt ds k _).length ≤ 1000; rw [putAt_len hk]; exact Nat.le_trans b.d2 (by decide), fun d hd => ?_⟩
  · unfold K1.chk
    rw [b.names, if_neg Bool.false_ne_true, h2, if_neg Bool.false_ne_true, h1, if_pos rfl]
  · rcases mem_putAt hd with hd | rfl
    · exact b.ok d hd
    · exact unleaned_ok (name_tx hz) c
/-! spoilt -/
theorem mod_toNat {c : Int} {n : Nat} (h : 0 < n) : (c % (n : Int)).toNat < n := by
  have h0 := Int.emod_nonneg c (show (n : Int) ≠ 0 by omega)
  have h1 := Int.emod_lt_of_pos c (show (0 : Int) < n by omega)
  omega
theorem wrongW_ok (c : Int) : Tx0 (wrongW c) ∧ decide (wrongW c ∈ (["add", "cut", "set"] : List Str)) = false := by
  have a : ((["put", "Add", "", "adds", "cu"] : List Str).all fun z => decide (z.length ≤ 1000 ∧ (∀ c ∈ z.cps.toList, c < 256)) && !decide (z ∈ (["add", "cut", "set"] : List Str))) = true := by decide +kernel
  have hm : wrongW c ∈ (["put", "Add", "", "adds", "cu"] : List Str) := by
    unfold wrongW
    rcases mod5 (c / 20) with e | e | e | e | e <;> rw [e] <;> simp
  have := List.all_eq_true.mp a _ hm
  rw [Bool.and_eq_true] at this
  exact ⟨(of_decide_eq_true this.1 : (wrongW c).length ≤ 1000 ∧ ∀ e ∈ (wrongW c).cps.toList, e < 256), by simpa using this.2⟩
theorem noMark_ok (c : Int) : badDeed (noMark c) = true ∧ DeedOk (noMark c) := by
  unfold noMark
  rcases mod2 (c / 20) with e | e <;> rw [e]
  · exact ⟨rfl, words_tx.2.1, fun h => absurd rfl h, fun l h => (by cases h), fun x k h => (by cases h)⟩
  · exact ⟨rfl, words_tx.2.2, fun _ => rfl, fun l h => (by cases h; exact empty_tx), fun x k h => (by cases h)⟩
theorem bad_ok {ds : List Deed} (d1 : 1 ≤ ds.length) (d2 : ds.length ≤ 20) (ok : ∀ d ∈ ds, DeedOk d) (way c : Int) : badDeeds (badOf ds way c) = true ∧ (badOf ds way c).length ≤ 100 ∧ ∀ d ∈ badOf ds way c, DeedOk d := by
  have hk : badAt ds c < ds.length := mod_toNat (by omega)
  have go : ∀ d : Deed, badDeed d = true → DeedOk d → badDeeds (putAt ds (badAt ds c) d) = true ∧ (putAt ds (badAt ds c) d).length ≤ 100 ∧ ∀ e ∈ putAt ds (badAt ds c) d, DeedOk e := fun d h1 h2 => by
    refine ⟨deed_any (putAt_mem _ _ _) h1, by rw [putAt_len hk]; omega, fun e he => ?_⟩
    rcases mem_putAt he with he | rfl
    · exact ok e he
    · exact h2
  unfold badOf
  split
  · refine ⟨?_, by rw [List.length_append, List.length_replicate]; omega, fun d hd => ?_⟩
    · unfold badDeeds
      rw [decide_eq_true (by rw [List.length_append, List.length_replicate]; omega)]; rfl
    · rcases List.mem_append.mp hd with hd | hd
      · exact ok d hd
      · rw [List.eq_of_mem_replicate hd]
        exact ⟨words_tx.1, fun _ => rfl, fun l h => (by cases h; exact empty_tx), fun x k h => (by cases h)⟩
  split
  · refine go _ ?_ ⟨(wrongW_ok c).1, fun _ => rfl, fun l h => (by cases h; exact empty_tx), fun x k h => (by cases h)⟩
    unfold badDeed
    rw [(wrongW_ok c).2]; rfl
  split
  · exact go _ (noMark_ok c).1 (noMark_ok c).2
  · refine go _ ?_ ⟨words_tx.1, fun _ => rfl, fun l h => (by cases h; exact oddLine_tx _), fun x k h => (by cases h)⟩
    show (false || (false && true) || (true && !isLine (oddLine (c / 20)))) = true
    rw [oddLine_bad]; rfl
theorem names_odd {n z : Str} {ls : List Str} (h : z ∈ n :: ls) (q : isName z = false) : badNames n ls = true := by
  unfold badNames
  have : (n :: ls).all isName = false := by
    rw [← Bool.not_eq_true, List.all_eq_true]
    intro a
    rw [a z h] at q; cases q
  rw [this]; rfl
theorem names_ris {n : Str} {ls : List Str} (q : ¬ ls.Nodup) : badNames n ls = true := by
  unfold badNames
  rw [not_rising q]; simp
theorem names_own {n : Str} {ls : List Str} (q : n ∈ ls) : badNames n ls = true := by
  unfold badNames
  rw [decide_eq_true q, Bool.or_true]
/-- what a spoilt one is -/
structure Spoilt (c : Change) : Prop where
  bad : badNames c.n c.ls = true ∨ badDeeds c.ds = true
  ok : ChangeOk c
  len : c.ds.length ≤ 100
theorem twice_in {α : Type} {ls : List α} {k : Nat} {x : α} (h : x ∈ ls) : ¬ (ls.take k ++ [x] ++ ls.drop k).Nodup := by
  intro q
  have p : (ls.take k ++ [x] ++ ls.drop k).Perm (x :: ls) := by
    have h1 : (ls.take k ++ [x]).Perm (x :: ls.take k) := List.perm_append_singleton x _
    have h2 := h1.append_right (ls.drop k)
    rw [List.cons_append, List.take_append_drop] at h2
    exact h2
  exact (List.nodup_cons.mp (p.nodup_iff.mp q)).1 h
theorem Base.spoil {n ls ds} (b : Base n ls ds) (way x : Int) (h8 : way = 8 → ls.isEmpty = false) : Spoilt (spoiltOf ⟨n, ls, ds⟩ way x) := by
  have okl : ∀ z ∈ ls, Tx0 z := fun z hz => name_tx (b.ol z hz)
  have ll := b.ll
  have d2 := b.d2
  have okd : ds.length ≤ 1000 := Nat.le_trans b.d2 (by decide)
  have hat : spAt ls x ≤ ls.length := by
    have h0 := Int.emod_nonneg x (show (ls.length : Int) + 1 ≠ 0 by omega)
    have h1 := Int.emod_lt_of_pos x (show (0 : Int) < (ls.length : Int) + 1 by omega)
    unfold spAt; omega
  unfold spoiltOf
  dsimp only
  split
  · exact ⟨.inl (names_odd List.mem_cons_self (oddName_bad x)), ⟨oddName_tx x, okl, by show ls.length ≤ _; omega, okd, b.ok⟩, by show ds.length ≤ _; omega⟩
  split
  · refine ⟨.inl (names_odd (z := oddName (x / 6)) (by simp) (oddName_bad _)), ⟨name_tx b.on, fun z hz => ?_, by show List.length (_ ++ _ ++ _) ≤ _; rw [List.length_append, List.length_append, List.length_take, List.length_drop, List.length_singleton]; omega, okd, b.ok⟩, by show ds.length ≤ _; omega⟩
    rcases List.mem_append.mp hz with hz | hz
    · rcases List.mem_append.mp hz with hz | hz
      · exact okl z (List.mem_of_mem_take hz)
      · rw [List.mem_singleton.mp hz]; exact oddName_tx _
    · exact okl z (List.mem_of_mem_drop hz)
  split
  · rename_i h
    rw [Bool.and_eq_true] at h
    have hne : 0 < ls.length := by
      cases ls with
      | nil => exact absurd h.2 (by decide)
      | cons => simp
    have hx : ls.getD (min (spAt ls x) (ls.length - 1)) "" ∈ ls := by
      rw [List.getD_eq_getElem?_getD, List.getElem?_eq_getElem (by omega)]
      exact List.getElem_mem _
    refine ⟨.inl (names_ris (twice_in hx)), ⟨name_tx b.on, fun z hz => ?_, by show List.length (_ ++ _ ++ _) ≤ _; rw [List.length_append, List.length_append, List.length_take, List.length_drop, List.length_singleton]; omega, okd, b.ok⟩, by show ds.length ≤ _; omega⟩
    rcases List.mem_append.mp hz with hz | hz
    · rcases List.mem_append.mp hz with hz | hz
      · exact okl z (List.mem_of_mem_take hz)
      · rw [List.mem_singleton.mp hz]; exact okl _ hx
    · exact okl z (List.mem_of_mem_drop hz)
  split
  · refine ⟨.inl (names_own (sortS_mem.mpr (by simp))), ⟨name_tx b.on, fun z hz => ?_, by show (sortS _).length ≤ _; rw [sortS_len, List.length_append, List.length_singleton]; omega, okd, b.ok⟩, by show ds.length ≤ _; omega⟩
    rcases List.mem_append.mp (sortS_mem.mp hz) with hz | hz
    · exact okl z hz
    · rw [List.mem_singleton.mp hz]; exact name_tx b.on
  split
  · rename_i h
    have he := h8 (of_decide_eq_true h)
    have hx : ls.headD "" ∈ ls := by
      cases ls with
      | nil => cases he
      | cons a r => exact List.mem_cons_self
    have q : ¬ (ls ++ [ls.headD ""]).Nodup := by
      have := twice_in (k := ls.length) hx
      rw [List.take_length, List.drop_length, List.append_nil] at this
      exact this
    refine ⟨.inl (names_ris q), ⟨name_tx b.on, fun z hz => ?_, by show List.length (_ ++ _) ≤ _; rw [List.length_append, List.length_singleton]; omega, okd, b.ok⟩, by show ds.length ≤ _; omega⟩
    rcases List.mem_append.mp hz with hz | hz
    · exact okl z hz
    · rw [List.mem_singleton.mp hz]; exact okl _ hx
  · have hb := bad_ok b.d1 b.d2 b.ok way x
    exact ⟨.inr hb.1, ⟨name_tx b.on, okl, by show ls.length ≤ _; omega, Nat.le_trans hb.2.1 (by decide), hb.2.2⟩, hb.2.1⟩
theorem Spoilt.chk {c : Change} (s : Spoilt c) : chk c = some true := s.bad.elim chk_names chk_deeds
theorem Spoilt.more {c : Change} (s : Spoilt c) {d : Deed} (h : DeedOk d) : K1.chk ⟨c.n, c.ls, c.ds ++ [d]⟩ = some true ∧ ChangeOk ⟨c.n, c.ls, c.ds ++ [d]⟩ := by
  refine ⟨s.bad.elim (fun q => chk_names (c := ⟨c.n, c.ls, c.ds ++ [d]⟩) q) fun q => chk_deeds (c := ⟨c.n, c.ls, c.ds ++ [d]⟩) (deeds_app q), s.ok.1, s.ok.2.1, s.ok.2.2.1, ?_, fun e he => ?_⟩
  · show List.length (_ ++ _) ≤ _
    have := s.len
    rw [List.length_append, List.length_singleton]; omega
  · rcases List.mem_append.mp he with he | he
    · exact s.ok.2.2.2.2 e he
    · rw [List.mem_singleton.mp he]; exact h
end K1

set_option maxHeartbeats 4000000
namespace K1
open PySem L2 PD PyProof.Rows LW
/-! ### data of good shape -/
theorem lay_all {α : Type} {q : α → PyData} {xs : List α} (h : ∀ x ∈ xs, (q x).canLay0 = true) : PyData.canLayAll0 (xs.map q) = true := by
  induction xs with
  | nil => rfl
  | cons a r ih => rw [List.map_cons, PyData.canLayAll0, h a List.mem_cons_self, ih fun x hx => h x (List.mem_cons_of_mem _ hx)]; rfl
theorem depth_all {α : Type} {q : α → PyData} {xs : List α} {k : Nat} (h : ∀ x ∈ xs, (q x).depth ≤ k) : PyData.depthAll (xs.map q) ≤ k := by
  induction xs with
  | nil => exact Nat.zero_le _
  | cons a r ih =>
    rw [List.map_cons, PyData.depthAll]
    exact Nat.max_le.mpr ⟨h a List.mem_cons_self, ih fun x hx => h x (List.mem_cons_of_mem _ hx)⟩
theorem lay_m {m : Option (Str × Int)} (h : ∀ x k, m = some (x, k) → Tx0 x) : (qM m).canLay0 = true ∧ (qM m).depth ≤ 1 := by
  cases m with
  | none => exact ⟨rfl, Nat.zero_le _⟩
  | some p =>
    obtain ⟨x, k⟩ := p
    refine ⟨?_, ?_⟩
    · show (PyData.strOk x && (true && true)) = true
      rw [str_ok (h x k rfl)]; rfl
    · show max 0 (max 0 0) + 1 ≤ 1
      decide
theorem lay_d {d : Deed} (h : DeedOk d) : (qD d).canLay0 = true ∧ (qD d).depth ≤ 2 := by
  obtain ⟨h1, _, h2, h3⟩ := h
  have hm := lay_m h3
  unfold qD
  cases e : d.l with
  | none =>
    refine ⟨?_, ?_⟩
    · show (PyData.strOk d.w && ((qM d.m).canLay0 && true)) = true
      rw [str_ok h1, hm.1]; rfl
    · show max 0 (max (qM d.m).depth 0) + 1 ≤ 2
      have := hm.2; omega
  | some l =>
    refine ⟨?_, ?_⟩
    · show (PyData.strOk d.w && ((qM d.m).canLay0 && (PyData.strOk l && true))) = true
      rw [str_ok h1, hm.1, str_ok (h2 l e)]; rfl
    · show max 0 (max (qM d.m).depth (max 0 0)) + 1 ≤ 2
      have := hm.2; omega
theorem lay_c {c : Change} (h : ChangeOk c) : (qC c).canLay0 = true ∧ (qC c).depth ≤ 4 := by
  obtain ⟨h1, h2, _, _, h3⟩ := h
  have e1 : PyData.canLayAll0 (c.ls.map .str) = true := lay_all (q := PyData.str) fun x hx => str_ok (h2 x hx)
  have e2 : PyData.canLayAll0 (c.ds.map qD) = true := lay_all fun x hx => (lay_d (h3 x hx)).1
  have e3 : PyData.depthAll (c.ls.map .str) ≤ 0 := depth_all (q := PyData.str) fun x hx => Nat.le_refl _
  have e4 : PyData.depthAll (c.ds.map qD) ≤ 2 := depth_all fun x hx => (lay_d (h3 x hx)).2
  refine ⟨?_, ?_⟩
  · show (PyData.strOk c.n && (PyData.canLayAll0 (c.ls.map .str) && (PyData.canLayAll0 (c.ds.map qD) && true))) = true
    rw [str_ok h1, e1, e2]; rfl
  · show max 0 (max (PyData.depthAll (c.ls.map .str) + 1) (max (PyData.depthAll (c.ds.map qD) + 1) 0)) + 1 ≤ 4
    omega
theorem shaped_c {c : Change} (h : ChangeOk c) : SeqAt.shaped (qC c) = true := by
  have := lay_c h
  unfold SeqAt.shaped
  rw [this.1, decide_eq_true (by omega)]; rfl
theorem eqv_c {c : Change} (h : ChangeOk c) : PyData.eqv (qC c) (qC c) = true := SeqAt.eqv_refl _ (lay_c h).1
/-! ### what the law draws -/
def dN (ns : List Int) : Str := nameOf (cell ns 0) []
def dL (ns : List Int) : List Str := leanedOf (cell ns 1) (dN ns)
def dO (ns : List Int) : Str := nameOf (cell ns 7) (dN ns :: dL ns)
def dM (ns : List Int) : Int := if decide (cell ns 3 / 9 % 8 = 1) = true then 20 else 1 + cell ns 3 % 9
def dD (ns : List Int) : List Deed := deedsOf (cell ns 2) (dN ns) (dL ns) (dM ns).toNat
def dW (ns : List Int) : Int := cell ns 4 % 15
def dC (ns : List Int) : Change := ⟨dN ns, dL ns, dD ns⟩
def isNot (ns : List Int) : Bool := decide (dW ns = 10) || decide (dW ns = 11)
def dC1 (ns : List Int) : Change := if isNot ns = true then ⟨dN ns, dL ns, putAt (dD ns) (badAt (dD ns) (cell ns 5)) (unleanedOf (dO ns) (cell ns 6))⟩ else dC ns
def due1 (ns : List Int) : Str := if isNot ns = true then "not" else "none"
def isBad (ns : List Int) : Bool := ((decide (0 < dW ns) && decide (dW ns < 10)) && !decide (dW ns = 8)) || (decide (dW ns = 8) && !(dL ns).isEmpty)
def dS (ns : List Int) : Change := spoiltOf (dC ns) (dW ns) (cell ns 5)
def dS2 (ns : List Int) : Change := if decide (cell ns 6 % 3 = 1) = true then ⟨(dS ns).n, (dS ns).ls, (dS ns).ds ++ [unleanedOf (dO ns) (cell ns 7)]⟩ else dS ns
def dC2 (ns : List Int) : Change := if isBad ns = true then dS2 ns else dC1 ns
def due2 (ns : List Int) : Str := if isBad ns = true then "bad" else due1 ns
theorem dN_ok (ns : List Int) : NameOk (dN ns) := nameOf_ok _ (by decide) (fun z hz => nomatch hz)
theorem leaned_facts (c : Int) {n : Str} (hn : NameOk n) : (∀ z ∈ leanedOf c n, NameOk z) ∧ rising (leanedOf c n) = true ∧ n ∉ leanedOf c n ∧ (leanedOf c n).length ≤ 5 := by
  have b1 := Int.emod_nonneg c (show (6 : Int) ≠ 0 by decide)
  have b2 := Int.emod_lt_of_pos c (show (0 : Int) < 6 by decide)
  obtain ⟨⟨h1, _⟩, h2⟩ := takenL_ok c hn (c % 6).toNat (by omega)
  have e := takenL_cons c n (c % 6).toNat
  have e2 := h2
  rw [e, List.nodup_cons] at e2
  refine ⟨fun z hz => ?_, rising_pw.mpr (sortS_rise e2.2), fun q => e2.1 (sortS_mem.mp q), ?_⟩
  · refine h1 z ?_
    rw [e]
    exact List.mem_cons_of_mem _ (sortS_mem.mp hz)
  · show (sortS _).length ≤ 5
    rw [sortS_len, List.length_drop, takenL_len]; omega
theorem dO_taken (ns : List Int) : Taken (dN ns :: dL ns) := by
  have h := leaned_facts (cell ns 1) (dN_ok ns)
  refine ⟨fun z hz => ?_, ?_⟩
  · rcases List.mem_cons.mp hz with rfl | hz
    · exact dN_ok ns
    · exact h.1 z hz
  · have h2 : (dL ns).length ≤ 5 := h.2.2.2
    rw [List.length_cons]; omega
theorem dM_bd (ns : List Int) : 1 ≤ dM ns ∧ dM ns ≤ 20 := by
  unfold dM
  split
  · decide
  · have b1 := Int.emod_nonneg (cell ns 3) (show (9 : Int) ≠ 0 by decide)
    have b2 := Int.emod_lt_of_pos (cell ns 3) (show (0 : Int) < 9 by decide)
    omega
theorem marks_in (c : Int) (n : Str) (ls : List Str) (l : Int) : (markAt c n ls l).1 = n ∨ (markAt c n ls l).1 ∈ ls := by
  have hl : 0 < (marksOf c n ls).length := by unfold marksOf; simp
  have hm : markAt c n ls l ∈ marksOf c n ls := by
    unfold markAt
    rw [List.getD_eq_getElem?_getD, List.getElem?_eq_getElem (mod_toNat hl)]
    exact List.getElem_mem _
  unfold marksOf at hm
  rcases List.mem_append.mp hm with h | h
  · left
    simp only [List.mem_cons, List.not_mem_nil, or_false] at h
    rcases h with h | h | h <;> rw [h]
  · right
    obtain ⟨z, hz, e⟩ := List.mem_map.mp h
    rw [← e]; exact hz
theorem markOf_in {c : Int} {n : Str} {ls : List Str} {l : Int} {x : Str} {k : Int} (h : markOf c n ls l = some (x, k)) : x = n ∨ x ∈ ls := by
  unfold markOf at h
  split at h
  · cases h
  · have q := marks_in c n ls l
    rw [Option.some.inj h] at q
    exact q
theorem markOf_some {c : Int} {n : Str} {ls : List Str} {l : Int} (h : l % 3 ≠ 0) : (markOf c n ls l).isNone = false := by
  unfold markOf
  rw [decide_eq_false h]; rfl
theorem deed_facts (c : Int) {n : Str} {ls : List Str} (hn : NameOk n) (hl : ∀ z ∈ ls, NameOk z) (l : Int) : badDeed (deedOf c n ls l) = false ∧ notLeaned n ls (deedOf c n ls l) = false ∧ DeedOk (deedOf c n ls l) := by
  have hx : ∀ x k, markOf c n ls l = some (x, k) → NameOk x := fun x k h => by
    rcases markOf_in h with rfl | h
    · exact hn
    · exact hl x h
  have hnl : ∀ d : Deed, d.m = markOf c n ls l → notLeaned n ls d = false := fun d e => by
    unfold notLeaned
    rw [e]
    cases hm : markOf c n ls l with
    | none => rfl
    | some p =>
      obtain ⟨x, k⟩ := p
      rcases markOf_in hm with h | h
      · show (!decide (x = n) && _) = false
        rw [decide_eq_true h]; rfl
      · show (_ && !decide (x ∈ ls)) = false
        rw [decide_eq_true h]; simp
  have hln := isLine_ok (line_ok (l / 90))
  have hmt : ∀ x k, markOf c n ls l = some (x, k) → Tx0 x := fun x k h => name_tx (hx x k h)
  have hlt : Tx0 (lineOf (l / 90)) := line_tx (line_ok _)
  unfold deedOf
  split
  · rename_i h
    have h1 : l % 3 = 1 := of_decide_eq_true h
    refine ⟨?_, hnl _ rfl, words_tx.2.1, fun h => absurd rfl h, fun l h => (by cases h), hmt⟩
    show (false || (true && (markOf c n ls l).isNone) || false) = false
    rw [markOf_some (by omega)]; rfl
  · rename_i h
    have h1 : l % 3 ≠ 1 := by simpa using h
    rcases mod3 l with e | e | e
    · have ew : wordOf l = "add" := by unfold wordOf; rw [e]; rfl
      rw [ew]
      refine ⟨?_, hnl _ rfl, words_tx.1, fun _ => rfl, fun l h => (by cases h; exact hlt), hmt⟩
      show (false || (false && (markOf c n ls l).isNone) || (true && !isLine (lineOf (l / 90)))) = false
      rw [hln]; rfl
    · exact absurd e h1
    · have ew : wordOf l = "set" := by unfold wordOf; rw [e]; rfl
      rw [ew]
      refine ⟨?_, hnl _ rfl, words_tx.2.2, fun _ => rfl, fun l h => (by cases h; exact hlt), hmt⟩
      show (false || (true && (markOf c n ls l).isNone) || (true && !isLine (lineOf (l / 90)))) = false
      rw [hln, markOf_some (by omega)]; rfl
theorem base (ns : List Int) : Base (dN ns) (dL ns) (dD ns) := by
  have h := leaned_facts (cell ns 1) (dN_ok ns)
  have hm := dM_bd ns
  have hd : (dD ns).length = (dM ns).toNat := by unfold dD deedsOf; rw [List.length_map, List.length_range]
  have hdd : ∀ d ∈ dD ns, badDeed d = false ∧ notLeaned (dN ns) (dL ns) d = false ∧ DeedOk d := fun d q => by
    obtain ⟨j, _, rfl⟩ := List.mem_map.mp q
    exact deed_facts _ (dN_ok ns) h.1 _
  exact ⟨dN_ok ns, h.1, h.2.1, h.2.2.1, h.2.2.2, by omega, by omega, fun d q => (hdd d q).1, fun d q => (hdd d q).2.1, fun d q => (hdd d q).2.2⟩
theorem dO_new (ns : List Int) : NameOk (dO ns) ∧ dO ns ∉ dN ns :: dL ns := by
  have h := dO_taken ns
  exact ⟨nameOf_ok _ h.2 h.1, nameOf_new _ h.2⟩
theorem due1_ok (ns : List Int) : ans (chk (dC1 ns)) = due1 ns ∧ ChangeOk (dC1 ns) := by
  have b := base ns
  have o := dO_new ns
  unfold dC1 due1
  split
  · have := b.not o.1 o.2 (k := badAt (dD ns) (cell ns 5)) (mod_toNat (by have := b.d1; omega)) (cell ns 6)
    rw [this.1]
    exact ⟨rfl, this.2⟩
  · have h1 : chk (dC ns) = none := b.chk
    rw [h1]
    exact ⟨rfl, b.change⟩
theorem due2_ok (ns : List Int) : ans (chk (dC2 ns)) = due2 ns ∧ ChangeOk (dC2 ns) := by
  have b := base ns
  have o := dO_new ns
  unfold dC2 due2
  split
  · rename_i hb
    have h8 : dW ns = 8 → (dL ns).isEmpty = false := fun e => by
      unfold isBad at hb
      rw [e] at hb
      simpa using hb
    have s : Spoilt (dS ns) := b.spoil (dW ns) (cell ns 5) h8
    unfold dS2
    split
    · have := s.more (unleaned_ok (name_tx o.1) (cell ns 7))
      rw [this.1]
      exact ⟨rfl, this.2⟩
    · rw [s.chk]
      exact ⟨rfl, s.ok⟩
  · exact due1_ok ns
end K1

set_option maxHeartbeats 4000000
namespace K1
open PySem L2 PD PyProof.Rows LW
section
variable {P : Program} {w : World} {K : PySem.W.Frag} {mg : Str → Option Value} {base : Heap} {cB cN : Addr}
/-! ### law -/
abbrev sLaw : Stmt := topS 39
abbrev nLaw : List Str := ["_law_script", "_law_name_here", "_law_leans", "_law_other", "_law_many", "_law_change", "_law_way", "_law_due", "_law_at", "_law_kept"]
theorem scLaw : FnScope nLaw ["_law_script"] (defScope sLaw) := ⟨rfl, rfl, rfl, by decide +kernel, rfl, by decide +kernel, by decide +kernel⟩
theorem ndLaw : (nLaw).Nodup := scLaw.nd
theorem loLaw : (["_law_script", "_law_name_here", "_law_leans", "_law_other", "_law_many", "_law_change", "_law_way", "_law_due", "_law_at", "_law_kept"] : List Str).all (locB (defScope sLaw)) = true := by decide +kernel
theorem glLaw : (["_law_name", "_law_cell", "_law_leaned", "_law_some_deeds", "len", "_law_with", "_law_unleaned", "_law_spoilt", "_law_copy", "_law_answer"] : List Str).all (glB (defScope sLaw)) = true := by decide +kernel
def rLaw : List Sl → DOut → Prop := fun as o => ∃ ns : List Int, as = [.bo (ns.map .int)] ∧ o = .val (.bool true)
theorem okLaw {f : Addr} {fd : FuncData} (F : Fun K "law" "law" sLaw f fd) (T : Tx K mg cB cN) (cName : Cal P w K mg base 2 "_law_name" 2 rName) (cCell : Cal P w K mg base 1 "_law_cell" 2 rCell) (cLeaned : Cal P w K mg base 3 "_law_leaned" 2 rLeaned) (cSomeDeeds : Cal P w K mg base 2 "_law_some_deeds" 4 rSomeDeeds) (cWith : Cal P w K mg base 1 "_law_with" 3 rWith) (cUnleaned : Cal P w K mg base 1 "_law_unleaned" 2 rUnleaned) (cSpoilt : Cal P w K mg base 4 "_law_spoilt" 3 rSpoilt) (cCopy : Cal P w K mg base 1 "_law_copy" 1 rCopy) (cAnswer : Cal P w K mg base 5 "_law_answer" 1 rAnswer) : FnOk P w K mg base (L2N.CX P w) 6 f fd ["_law_script"] (spD K 1 rLaw) := by
  refine fnD F scLaw (by decide) fun cdv A outer s H E as o hr hl hR => ?_
  obtain ⟨ns, rfl, rfl⟩ := hR
  have hc : (cxOf (L2N.CX P w) P w K mg base nLaw "law" (defScope sLaw) f cdv A outer s H E).calm = true := rfl
  have tk : L2N.Takes (cxOf (L2N.CX P w) P w K mg base nLaw "law" (defScope sLaw) f cdv A outer s H E) (fun c d _ H' => E c d H') := L2N.takes_of rfl rfl rfl rfl
  have b := K1.base ns
  have hM := dM_bd ns
  have ll : (dL ns).length ≤ 5 := b.ll
  have hlm : ((dL ns).map PyData.str).length = (dL ns).length := List.length_map _
  have hdm : ((dD ns).map qD).length = (dD ns).length := List.length_map _
  have d1 := b.d1
  have d2 := b.d2
  refine sds_cons (sd_set (i := 1) (d := .str (dN ns)) ndLaw rfl (loc_of loLaw 1) (.inl rfl) (ed_call cName (hr.mono (by decide)) (gl_of glLaw 0) tk (ea_d (ed_call cCell (hr.mono (by decide)) (gl_of glLaw 1) tk (ea_b (EP'.rd (ep_v loLaw 0)) (ea_d ed_int ea_nil)) rfl ⟨ns, 0, rfl, rfl⟩) (ea_b (EL.rd (el_lst (ds := []) ea_nil le_b)) ea_nil)) rfl ⟨cell ns 0, [], rfl, ⟨fun z hz => (nomatch hz), by decide⟩, rfl⟩) ?_)
  refine sds_cons (sd_setL (i := 2) ndLaw rfl (loc_of loLaw 2) (.inl rfl) (EL.to (xs := (dL ns).map .str) (el_call cLeaned (hr.mono (by decide)) (gl_of glLaw 2) tk (ea_d (ed_call cCell (hr.mono (by decide)) (gl_of glLaw 1) tk (ea_b (EP'.rd (ep_v loLaw 0)) (ea_d ed_int ea_nil)) rfl ⟨ns, 1, rfl, rfl⟩) (ea_d (ed_v loLaw 1) ea_nil)) rfl ⟨cell ns 1, dN ns, rfl, b.on, rfl⟩) rfl) (fun r2 => ?_))
  refine sds_frz (i := 2) rfl ?_
  refine sds_cons (sd_set (i := 3) (d := .str (dO ns)) ndLaw rfl (loc_of loLaw 3) (.inl rfl) (ed_call cName (hr.mono (by decide)) (gl_of glLaw 0) tk (ea_d (ed_call cCell (hr.mono (by decide)) (gl_of glLaw 1) tk (ea_b (EP'.rd (ep_v loLaw 0)) (ea_d ed_int ea_nil)) rfl ⟨ns, 7, rfl, rfl⟩) (ea_b (EL.rd (el_cat (EL.dat (el_lst (ds := [.str (dN ns)]) (ea_d (ed_v loLaw 1) ea_nil) le_b)) (ed_v loLaw 2) (by rw [hlm]; show 1 + _ ≤ _; omega))) ea_nil)) rfl ⟨cell ns 7, dN ns :: dL ns, rfl, dO_taken ns, rfl⟩) ?_)
  refine sds_cons (sd_set (i := 4) (d := .int (1 + cell ns 3 % 9)) ndLaw rfl (loc_of loLaw 4) (.inl rfl) (ed_add ed_int (ed_mod (ed_call cCell (hr.mono (by decide)) (gl_of glLaw 1) tk (ea_b (EP'.rd (ep_v loLaw 0)) (ea_d ed_int ea_nil)) rfl ⟨ns, 3, rfl, rfl⟩) ed_int (by decide))) ?_)
  refine sds_cons (sd_ifsetD (i := 4) (d := .int 20) (d1 := .int (dM ns)) ndLaw rfl (loc_of loLaw 4) (.inl rfl) (et_c cd_eqI (ed_mod (ed_div (ed_call cCell (hr.mono (by decide)) (gl_of glLaw 1) tk (ea_b (EP'.rd (ep_v loLaw 0)) (ea_d ed_int ea_nil)) rfl ⟨ns, 3, rfl, rfl⟩) ed_int ⟨by decide, by decide⟩) ed_int (by decide)) ed_int) rfl (fun _ => ed_int) (by unfold dM; split <;> rfl) ?_)
  refine sds_cons (sd_set (i := 5) (d := qC (dC ns)) ndLaw rfl (loc_of loLaw 5) (.inl rfl) (ed_tup (ds := [_, _, _]) (ea_d (ed_v loLaw 1) (ea_d (ed_v loLaw 2) (ea_d (EL.dat (EL.to (xs := (dD ns).map qD) (el_call cSomeDeeds (hr.mono (by decide)) (gl_of glLaw 3) tk (ea_d (ed_call cCell (hr.mono (by decide)) (gl_of glLaw 1) tk (ea_b (EP'.rd (ep_v loLaw 0)) (ea_d ed_int ea_nil)) rfl ⟨ns, 2, rfl, rfl⟩) (ea_d (ed_v loLaw 4) (ea_d (ed_v loLaw 1) (ea_d (ed_v loLaw 2) ea_nil)))) rfl ⟨cell ns 2, dM ns, dN ns, dL ns, rfl, by omega, by omega, by omega, rfl⟩) rfl)) ea_nil))) le_b) ?_)
  refine sds_cons (sd_set (i := 6) (d := .int (dW ns)) ndLaw rfl (loc_of loLaw 6) (.inl rfl) (ed_mod (ed_call cCell (hr.mono (by decide)) (gl_of glLaw 1) tk (ea_b (EP'.rd (ep_v loLaw 0)) (ea_d ed_int ea_nil)) rfl ⟨ns, 4, rfl, rfl⟩) ed_int (by decide)) ?_)
  refine sds_cons (sd_set (i := 7) (d := .str "none") ndLaw rfl (loc_of loLaw 7) (.inl rfl) ed_str ?_)
  -- a mark of a name that is not leaned on
  refine sds_cut [.bo (ns.map .int), .sh (.str (dN ns)), .sh (.list ((dL ns).map .str)), .sh (.str (dO ns)), .un, .sh (qC (dC1 ns)), .sh (.int (dW ns)), .sh (.str (due1 ns)), .un, .un] (sd_if (et_w (ew_or (et_c cd_eqI (ed_v loLaw 6) ed_int) (fun _ => (ew_or1 (et_c cd_eqI (ed_v loLaw 6) ed_int))))) (fun hb => ?_) (fun hb => ?_)) ?_
  · have e : qC (dC1 ns) = .tuple [.str (dN ns), .list ((dL ns).map .str), .list ((putAt (dD ns) (badAt (dD ns) (cell ns 5)) (unleanedOf (dO ns) (cell ns 6))).map qD)] := by
      unfold dC1 isNot; rw [if_pos hb]; rfl
    have e2 : due1 ns = "not" := by unfold due1 isNot; rw [if_pos hb]
    have hat : cell ns 5 % ((dD ns).length : Int) = ((badAt (dD ns) (cell ns 5) : Nat) : Int) := by
      have := Int.emod_nonneg (cell ns 5) (show ((dD ns).length : Int) ≠ 0 by omega)
      unfold badAt; omega
    rw [e, e2]
    refine sds_cons (sd_set (i := 8) (d := .int (badAt (dD ns) (cell ns 5))) ndLaw rfl (loc_of loLaw 8) (.inl rfl) (ED.to (ed_mod (ed_call cCell (hr.mono (by decide)) (gl_of glLaw 1) tk (ea_b (EP'.rd (ep_v loLaw 0)) (ea_d ed_int ea_nil)) rfl ⟨ns, 5, rfl, rfl⟩) (ed_len (ED.rd (ed_ixT (ed_v loLaw 5) ed_int (atI_nat (j := 2) rfl))) (gl_of glLaw 4) T.len) (by show (0 : Int) < ((List.map qD (dD ns)).length : Int); omega)) (by show PyData.int (cell ns 5 % ((List.map qD (dD ns)).length : Int)) = _; rw [hdm, hat])) ?_)
    refine sds_cons (sd_set (i := 5) ndLaw rfl (loc_of loLaw 5) (.inl rfl) (ed_tup (ds := [_, _, _]) (ea_d (ed_v loLaw 1) (ea_d (ed_v loLaw 2) (ea_d (EL.dat (EL.to (xs := (putAt (dD ns) (badAt (dD ns) (cell ns 5)) (unleanedOf (dO ns) (cell ns 6))).map qD) (el_call cWith (hr.mono (by decide)) (gl_of glLaw 5) tk (ea_d (ed_ixT (ed_v loLaw 5) ed_int (atI_nat (j := 2) rfl)) (ea_d (ed_v loLaw 8) (ea_d (ed_call cUnleaned (hr.mono (by decide)) (gl_of glLaw 6) tk (ea_d (ed_v loLaw 3) (ea_d (ed_call cCell (hr.mono (by decide)) (gl_of glLaw 1) tk (ea_b (EP'.rd (ep_v loLaw 0)) (ea_d ed_int ea_nil)) rfl ⟨ns, 6, rfl, rfl⟩) ea_nil)) rfl ⟨dO ns, cell ns 6, rfl, rfl⟩) ea_nil))) rfl ⟨(dD ns).map qD, badAt (dD ns) (cell ns 5), qD (unleanedOf (dO ns) (cell ns 6)), rfl, by omega, rfl⟩) (putAt_map qD _ _ _))) ea_nil))) le_b) ?_)
    refine sds_one (sd_set (i := 7) (d := .str "not") ndLaw rfl (loc_of loLaw 7) (.inl rfl) ed_str ?_)
    exact .cons (.cons (.cons (.cons (.forget (.cons (.cons (.cons (.forget (.forget .nil)))))))))
  · refine sds_nil ?_
    have e : dC1 ns = dC ns := by unfold dC1 isNot; rw [hb, if_neg Bool.false_ne_true]
    have e2 : due1 ns = "none" := by unfold due1 isNot; rw [hb, if_neg Bool.false_ne_true]
    rw [e, e2]
    exact .cons (.cons (.cons (.cons (.forget (.cons (.cons (.cons (.forget (.forget .nil)))))))))
  -- a fault
  refine sds_cut [.un, .un, .un, .un, .un, .sh (qC (dC2 ns)), .un, .sh (.str (due2 ns)), .un, .un] (sd_if (et_w (ew_or (et_w (ew_and (et_ch cd_lt cd_lt ed_int (ed_v loLaw 6) ed_int) (fun _ => (ew_and1 (et_c cd_neI (ed_v loLaw 6) ed_int))))) (fun _ => (ew_or1 (et_w (ew_and (et_c cd_eqI (ed_v loLaw 6) ed_int) (fun _ => (ew_and1 (et_list (ED.rd (ed_v loLaw 2))))))))))) (fun hb => ?_) (fun hb => ?_)) ?_
  · rw [List.isEmpty_map] at hb
    have hb : isBad ns = true := hb
    have hw : dW ns < 10 := by
      unfold isBad at hb
      rcases Bool.or_eq_true _ _ |>.mp hb with h | h
      · rw [Bool.and_eq_true, Bool.and_eq_true] at h
        exact of_decide_eq_true h.1.2
      · rw [Bool.and_eq_true] at h
        have := of_decide_eq_true h.1
        omega
    have h8 : dW ns = 8 → (dL ns).isEmpty = false := fun e => by
      unfold isBad at hb
      rw [e] at hb
      simpa using hb
    have e1 : dC1 ns = dC ns := by
      unfold dC1 isNot
      rw [decide_eq_false (by omega : ¬ dW ns = 10), decide_eq_false (by omega : ¬ dW ns = 11)]; rfl
    have e : dC2 ns = dS2 ns := by unfold dC2; rw [if_pos hb]
    have e2 : due2 ns = "bad" := by unfold due2; rw [if_pos hb]
    rw [e, e2, e1]
    have sp : Spoilt (dS ns) := b.spoil (dW ns) (cell ns 5) h8
    refine sds_cons (sd_set (i := 5) (d := qC (dS ns)) ndLaw rfl (loc_of loLaw 5) (.inl rfl) (ed_call cSpoilt (hr.mono (by decide)) (gl_of glLaw 7) tk (ea_d (ed_v loLaw 5) (ea_d (ed_v loLaw 6) (ea_d (ed_call cCell (hr.mono (by decide)) (gl_of glLaw 1) tk (ea_b (EP'.rd (ep_v loLaw 0)) (ea_d ed_int ea_nil)) rfl ⟨ns, 5, rfl, rfl⟩) ea_nil))) rfl ⟨dC ns, dW ns, cell ns 5, rfl, Nat.le_trans ll (by decide), d1, d2, h8, rfl⟩) ?_)
    refine sds_cons (sd_set (i := 7) (d := .str "bad") ndLaw rfl (loc_of loLaw 7) (.inl rfl) ed_str ?_)
    refine sds_one (sd_if (et_c cd_eqI (ed_mod (ed_call cCell (hr.mono (by decide)) (gl_of glLaw 1) tk (ea_b (EP'.rd (ep_v loLaw 0)) (ea_d ed_int ea_nil)) rfl ⟨ns, 6, rfl, rfl⟩) ed_int (by decide)) ed_int) (fun hb => ?_) (fun hb => ?_))
    · have e3 : dS2 ns = ⟨(dS ns).n, (dS ns).ls, (dS ns).ds ++ [unleanedOf (dO ns) (cell ns 7)]⟩ := by unfold dS2; rw [if_pos hb]
      rw [e3]
      have hsl := sp.len
      refine sds_one (sd_set (i := 5) (d := qC ⟨(dS ns).n, (dS ns).ls, (dS ns).ds ++ [unleanedOf (dO ns) (cell ns 7)]⟩) ndLaw rfl (loc_of loLaw 5) (.inl rfl) (ed_tup (ds := [_, _, _]) (ea_d (ed_ixT (ed_v loLaw 5) ed_int (atI_nat (j := 0) rfl)) (ea_d (ed_ixT (ed_v loLaw 5) ed_int (atI_nat (j := 1) rfl)) (ea_d (EL.dat (EL.to (xs := ((dS ns).ds ++ [unleanedOf (dO ns) (cell ns 7)]).map qD) (el_cat (xs := (dS ns).ds.map qD) (ed_ixT (ed_v loLaw 5) ed_int (atI_nat (j := 2) rfl)) (EL.dat (el_lst (ds := [qD (unleanedOf (dO ns) (cell ns 7))]) (ea_d (ed_call cUnleaned (hr.mono (by decide)) (gl_of glLaw 6) tk (ea_d (ed_v loLaw 3) (ea_d (ed_call cCell (hr.mono (by decide)) (gl_of glLaw 1) tk (ea_b (EP'.rd (ep_v loLaw 0)) (ea_d ed_int ea_nil)) rfl ⟨ns, 7, rfl, rfl⟩) ea_nil)) rfl ⟨dO ns, cell ns 7, rfl, rfl⟩) ea_nil) le_b)) (by rw [List.length_map]; show _ + 1 ≤ _; omega)) (by rw [List.map_append]; rfl))) ea_nil))) le_b) ?_)
      exact .forget (.forget (.forget (.forget (.forget (.cons (.forget (.cons (.forget (.forget .nil)))))))))
    · refine sds_nil ?_
      have e3 : dS2 ns = dS ns := by unfold dS2; rw [hb, if_neg Bool.false_ne_true]
      rw [e3]
      exact .forget (.forget (.forget (.forget (.forget (.cons (.forget (.cons (.forget (.forget .nil)))))))))
  · rw [List.isEmpty_map] at hb
    have hb : isBad ns = false := hb
    have e : dC2 ns = dC1 ns := by unfold dC2; rw [hb, if_neg Bool.false_ne_true]
    have e2 : due2 ns = due1 ns := by unfold due2; rw [hb, if_neg Bool.false_ne_true]
    refine sds_nil ?_
    rw [e, e2]
    exact .forget (.forget (.forget (.forget (.forget (.cons (.forget (.cons (.forget (.forget .nil)))))))))
  -- the answer
  obtain ⟨hans, hok⟩ := due2_ok ns
  refine sds_cons (sd_set (i := 9) (d := qC (dC2 ns)) ndLaw rfl (loc_of loLaw 9) (.inl rfl) (ed_call cCopy (hr.mono (by decide)) (gl_of glLaw 8) tk (ea_d (ed_v loLaw 5) ea_nil) rfl ⟨dC2 ns, rfl, rfl⟩) ?_)
  refine sds_one (sd_ret (ed_and (ed_c cd_eqS (ed_call cAnswer (hr.mono (by decide)) (gl_of glLaw 9) tk (ea_d (ed_v loLaw 5) ea_nil) rfl ⟨dC2 ns, rfl, hok, rfl⟩) (ed_v loLaw 7)) (fun _ => (ed_one (ed_c (cd_eqD hr.units (shaped_c hok) (shaped_c hok)) (ed_v loLaw 5) (ed_v loLaw 9))))) ?_)
  show PyData.bool _ = .bool true
  rw [hans, eqv_c hok, decide_eq_true rfl]; rfl
end
end K1

set_option maxHeartbeats 4000000
namespace PD
open PySem L2 PyProof.Rows
/-! ### facts of the top, as they are taken from the heap behind it -/
section
variable {P : Program} {w : World} {K : PySem.W.Frag} {h : Heap} {mg : Str → Option Value} {base : Heap}
/-- a def of the top -/
def DefK (K : PySem.W.Frag) (x : Str) (st : Stmt) : Prop :=
  ∃ (f : Addr) (oc : Value) (od : Option Addr) (kV doc pm : Value) (an : Option Addr) (cdv ct : Value) (osl : Array (Option Value)),
    PySem.W.nsIn K mainGlobals x = some (some (.ref f)) ∧ K.lookup f = some ⟨oc, od, .func (PySem.W.fnOf x x (defArgs st) (defBody st) (defScope st) .none kV doc pm an cdv ct), osl⟩ ∧ PySem.W.codeIn K cdv x = true ∧ PySem.W.keepIn K (.ref f) = true
theorem defK_mk {x : Str} {st : Stmt} {f : Addr} {oc : Value} {od : Option Addr} {kV doc pm : Value} {an : Option Addr} {cdv ct : Value} {osl : Array (Option Value)}
    (a : PySem.W.nsIn K mainGlobals x = some (some (.ref f))) (l : K.lookup f = some ⟨oc, od, .func (PySem.W.fnOf x x (defArgs st) (defBody st) (defScope st) .none kV doc pm an cdv ct), osl⟩) (c : PySem.W.codeIn K cdv x = true) (k : PySem.W.keepIn K (.ref f) = true) : DefK K x st :=
  ⟨f, oc, od, kV, doc, pm, an, cdv, ct, osl, a, l, c, k⟩
/-- its arguments are bound by place -/
def BindK (x : Str) (st : Stmt) (ps : List Str) : Prop :=
  ∀ (kV doc pm : Value) (an : Option Addr) (cdv ct : Value) (us : List Value), us.length = ps.length → bindArgs (PySem.W.fnOf x x (defArgs st) (defBody st) (defScope st) .none kV doc pm an cdv ct) ⟨us, []⟩ = pure (ps.zip us)
theorem cal_of {x : Str} {st : Stmt} {k n : Nat} {R : List Sl → DOut → Prop} (X : K.In h) (G : h.Ns mainGlobals mg) (ps : List Str) (D : DefK K x st) (hb : BindK x st ps)
    (ok : ∀ (f : Addr) (fd : FuncData), Fun K x x st f fd → FnOk P w K mg base (L2N.CX P w) k f fd ps (spD K n R)) : Cal P w K mg base k x n R := by
  obtain ⟨f, oc, od, kV, doc, pm, an, cdv, ct, osl, a, l, c, kk⟩ := D
  have F := fun_mk l c kk
  exact ⟨f, _, ps, ok f _ F, PySem.W.mg_of X G a, kk, F.binds hb⟩
/-- a class of the top -/
structure ClsK (K : PySem.W.Frag) (x : Str) (C : Addr) : Prop where
  a : PySem.W.nsIn K mainGlobals x = some (some (.ref C))
  i : PySem.W.isClsIn K C = true
  t : PySem.W.typeIn K (.ref C) = some (.type "type")
theorem kit_of {D C : Addr} {b : Bool} {x : Str} (c : ClsK K x C) (h : PySem.W.subIn K (.ref D) (.ref C) = some b) (hn : (Value.ref D == Value.ref C) = true → b = true) : PySem.W.kitOne K (.ref D) (.ref C) = some b := by
  unfold PySem.W.kitOne
  by_cases e : (Value.ref D == Value.ref C) = true
  · rw [if_pos e, hn e]
  · rw [if_neg e]
    have e2 : ((PySem.W.clsIn K C).isSome && PySem.W.typeIn K (.ref C) == some (.type "type")) = true := by
      have h2' : (PySem.W.clsIn K C).isSome = true := c.i
      rw [h2', c.t] <;> rfl
    show (if ((PySem.W.clsIn K C).isSome && PySem.W.typeIn K (.ref C) == some (.type "type")) = true then PySem.W.subIn K (.ref D) (.ref C) else none) = some b
    rw [if_pos e2]
    exact h
theorem kit_ve {D : Addr} (h : PySem.W.subIn K (.ref D) (.type "ValueError") = some true) : PySem.W.kitOne K (.ref D) (.type "ValueError") = some true := by
  show (if (Value.ref D == Value.type "ValueError") = true then some true else (if PySem.W.kitMeta "ValueError" = true then PySem.W.subIn K (.ref D) (.type "ValueError") else none)) = some true
  have e : PySem.W.kitMeta "ValueError" = true := by decide +kernel
  rw [e, if_pos rfl, h]
  split <;> rfl
theorem exm_of {D C : Addr} {b : Bool} {x : Str} (c : ClsK K x C) (hb : PySem.W.subIn K (.ref C) (.type "BaseException") = some true) (h : PySem.W.subIn K (.ref D) (.ref C) = some b) : PySem.W.exmOne K (.ref D) (.ref C) = some b := by
  have e1 : (PySem.W.subIn K (.ref C) (.type "BaseException") == some true) = true := by rw [hb] <;> rfl
  have e2 : ((PySem.W.clsIn K C).isSome && PySem.W.typeIn K (.ref C) == some (.type "type")) = true := by
    have h2' : (PySem.W.clsIn K C).isSome = true := c.i
    rw [h2', c.t] <;> rfl
  show (if (PySem.W.subIn K (.ref C) (.type "BaseException") == some true) = true then (if ((PySem.W.clsIn K C).isSome && PySem.W.typeIn K (.ref C) == some (.type "type")) = true then PySem.W.subIn K (.ref D) (.ref C) else none) else none) = some b
  rw [if_pos e1, if_pos e2]
  exact h
/-- an error class of the top, where it stands under -/
structure ErrK (K : PySem.W.Frag) (D : Addr) (C1 C2 C3 C4 C5 C6 C7 C8 C9 : Addr) (b1 b2 b3 b4 b5 b6 b7 b8 : Bool) : Prop where
  s1 : PySem.W.subIn K (.ref D) (.ref C1) = some b1
  s2 : PySem.W.subIn K (.ref D) (.ref C2) = some b2
  s3 : PySem.W.subIn K (.ref D) (.ref C3) = some b3
  s4 : PySem.W.subIn K (.ref D) (.ref C4) = some b4
  s5 : PySem.W.subIn K (.ref D) (.ref C5) = some b5
  s6 : PySem.W.subIn K (.ref D) (.ref C6) = some b6
  s7 : PySem.W.subIn K (.ref D) (.ref C7) = some b7
  s8 : PySem.W.subIn K (.ref D) (.ref C8) = some b8
  s9 : PySem.W.subIn K (.ref D) (.ref C9) = some true
  n1 : (Value.ref D == Value.ref C1) = true → b1 = true
  n2 : (Value.ref D == Value.ref C2) = true → b2 = true
  n3 : (Value.ref D == Value.ref C3) = true → b3 = true
  n4 : (Value.ref D == Value.ref C4) = true → b4 = true
  n5 : (Value.ref D == Value.ref C5) = true → b5 = true
  n6 : (Value.ref D == Value.ref C6) = true → b6 = true
  n7 : (Value.ref D == Value.ref C7) = true → b7 = true
  n8 : (Value.ref D == Value.ref C8) = true → b8 = true
  sv : PySem.W.subIn K (.ref D) (.type "ValueError") = some true
  q : PySem.W.excIn K D [.type "ValueError", .type "Exception", .type "BaseException", .type "object"] "ValueError.__new__" = true
  k : PySem.W.keepIn K (.ref D) = true
  hs : PySem.W.subIn K (.ref D) (.type "BaseException") = some true
  hg : PySem.W.findIn K (.ref D) "__getattribute__" = some (some (.builtin "BaseException.__getattribute__"))
  hk : PySem.W.findIn K (.ref D) "__getattr__" = some none
  hd : PySem.W.hasDictIn K D = true
  ha : PySem.W.findIn K (.ref D) "__class__" = some (some (.builtin "object.__class__"))
  hn : PySem.W.specialIn K (.builtin "object.__class__") "__get__" = some (some (.builtin "getset_descriptor.__get__"))
  ht : PySem.W.takesIn K (.builtin "object.__class__") = some true
  hm : PySem.W.mroIn K D (.type "object") = some true
/-- the nine classes of the errors -/
structure NineK (K : PySem.W.Frag) (C1 C2 C3 C4 C5 C6 C7 C8 C9 : Addr) : Prop where
  c1 : ClsK K "BadChange" C1
  c2 : ClsK K "NotLeaned" C2
  c3 : ClsK K "Twice" C3
  c4 : ClsK K "Missing" C4
  c5 : ClsK K "NoLine" C5
  c6 : ClsK K "Other" C6
  c7 : ClsK K "Ring" C7
  c8 : ClsK K "NoNote" C8
  c9 : ClsK K "WeaveError" C9
theorem kit8_of {D C1 C2 C3 C4 C5 C6 C7 C8 C9 : Addr} {b1 b2 b3 b4 b5 b6 b7 b8 : Bool} (X : K.In h) (G : h.Ns mainGlobals mg) (N : NineK K C1 C2 C3 C4 C5 C6 C7 C8 C9) (E : ErrK K D C1 C2 C3 C4 C5 C6 C7 C8 C9 b1 b2 b3 b4 b5 b6 b7 b8)
    (ve : mg "ValueError" = none) (is : mg "isinstance" = none) (ln : mg "len" = none) (one : [b1, b2, b3, b4, b5, b6, b7, b8].filter id = [true]) : Kit8 K mg D b1 b2 b3 b4 b5 b6 b7 b8 :=
  ⟨⟨E.hg, E.hk, E.hs, E.hd, E.ha, E.hn, E.ht, E.hm⟩,
    ⟨C1, PySem.W.mg_of X G N.c1.a, kit_of N.c1 E.s1 E.n1⟩, ⟨C2, PySem.W.mg_of X G N.c2.a, kit_of N.c2 E.s2 E.n2⟩, ⟨C3, PySem.W.mg_of X G N.c3.a, kit_of N.c3 E.s3 E.n3⟩, ⟨C4, PySem.W.mg_of X G N.c4.a, kit_of N.c4 E.s4 E.n4⟩,
    ⟨C5, PySem.W.mg_of X G N.c5.a, kit_of N.c5 E.s5 E.n5⟩, ⟨C6, PySem.W.mg_of X G N.c6.a, kit_of N.c6 E.s6 E.n6⟩, ⟨C7, PySem.W.mg_of X G N.c7.a, kit_of N.c7 E.s7 E.n7⟩, ⟨C8, PySem.W.mg_of X G N.c8.a, kit_of N.c8 E.s8 E.n8⟩,
    ⟨C9, PySem.W.mg_of X G N.c9.a, kit_of N.c9 E.s9 fun _ => rfl⟩, kit_ve E.sv, ve, is, ln, one⟩
theorem er_of {x : Str} {D C1 C2 C3 C4 C5 C6 C7 C8 C9 : Addr} {b1 b2 b3 b4 b5 b6 b7 b8 : Bool} (X : K.In h) (G : h.Ns mainGlobals mg) (c : ClsK K x D) (E : ErrK K D C1 C2 C3 C4 C5 C6 C7 C8 C9 b1 b2 b3 b4 b5 b6 b7 b8) : Er K mg x D :=
  ⟨PySem.W.mg_of X G c.a, E.q, E.k, E.hs, c.t⟩
/-- a tuple of texts of the top -/
theorem sqT3 {t : Addr} {od : Option Addr} {sl : Array (Option Value)} {n : Nat} {x y z : Str} {t1 t2 t3 : Tok} (l : K.lookup t = some ⟨.type "tuple", od, .seq #[.str x t1, .str y t2, .str z t3] n, sl⟩) : ∀ H, SqT K H t [.str x, .str y, .str z] := fun H =>
  .inr ⟨_, _, n, l, rfl, rfl, by show 3 ≤ _; decide, .cons ⟨_, rfl⟩ (.cons ⟨_, rfl⟩ (.cons ⟨_, rfl⟩ .nil))⟩
end
end PD

set_option maxHeartbeats 4000000
namespace K1
open PySem L2 PD PyProof.Rows LW
section
variable {P : Program} {w : World} {K : PySem.W.Frag} {h : Heap} {mg : Str → Option Value}
/-- a name that the top does not bind -/
def FreeK (K : PySem.W.Frag) (x : Str) : Prop := PySem.W.nsIn K mainGlobals x = some none
structure BuiltK (K : PySem.W.Frag) : Prop where
  len : FreeK K "len"
  str : FreeK K "str"
  min : FreeK K "min"
  range : FreeK K "range"
  sorted : FreeK K "sorted"
  list : FreeK K "list"
  all : FreeK K "all"
  zip : FreeK K "zip"
  ve : FreeK K "ValueError"
  is : FreeK K "isinstance"
def ConstK (K : PySem.W.Frag) : Prop := ∃ t1 t2 t3 t4 : Tok,
  PySem.W.nsIn K mainGlobals "NAME_SIGNS" = some (some (.str sgn t1)) ∧ PySem.W.nsIn K mainGlobals "LONGEST_NAME" = some (some (.int 12 t2)) ∧ PySem.W.nsIn K mainGlobals "LONGEST_LINE" = some (some (.int 200 t3)) ∧ PySem.W.nsIn K mainGlobals "MOST_DEEDS" = some (some (.int 20 t4))
def WordsK (K : PySem.W.Frag) : Prop := ∃ (t : Addr) (od : Option Addr) (n : Nat) (sl : Array (Option Value)) (t1 t2 t3 : Tok),
  PySem.W.nsIn K mainGlobals "WORDS" = some (some (.ref t)) ∧ K.lookup t = some ⟨.type "tuple", od, .seq #[.str "add" t1, .str "cut" t2, .str "set" t3] n, sl⟩
theorem constK_mk {t1 t2 t3 t4 : Tok} (a : PySem.W.nsIn K mainGlobals "NAME_SIGNS" = some (some (.str sgn t1))) (b : PySem.W.nsIn K mainGlobals "LONGEST_NAME" = some (some (.int 12 t2))) (c : PySem.W.nsIn K mainGlobals "LONGEST_LINE" = some (some (.int 200 t3))) (d : PySem.W.nsIn K mainGlobals "MOST_DEEDS" = some (some (.int 20 t4))) : ConstK K := ⟨t1, t2, t3, t4, a, b, c, d⟩
theorem wordsK_mk {t : Addr} {od : Option Addr} {n : Nat} {sl : Array (Option Value)} {t1 t2 t3 : Tok} (a : PySem.W.nsIn K mainGlobals "WORDS" = some (some (.ref t))) (b : K.lookup t = some ⟨.type "tuple", od, .seq #[.str "add" t1, .str "cut" t2, .str "set" t3] n, sl⟩) : WordsK K := ⟨t, od, n, sl, t1, t2, t3, a, b⟩
structure DefsK (K : PySem.W.Frag) : Prop where
  isName : DefK K "is_name" sIsName
  isLine : DefK K "is_line" sIsLine
  check : DefK K "check" sCheck
  checkNames : DefK K "check_names" sCheckNames
  checkDeeds : DefK K "check_deeds" sCheckDeeds
  checkDeed : DefK K "check_deed" sCheckDeed
  checkMarks : DefK K "check_marks" sCheckMarks
  cell : DefK K "_law_cell" sCell
  mixed : DefK K "_law_mixed" sMixed
  name : DefK K "_law_name" sName
  line : DefK K "_law_line" sLine
  copy : DefK K "_law_copy" sCopy
  leaned : DefK K "_law_leaned" sLeaned
  someDeeds : DefK K "_law_some_deeds" sSomeDeeds
  oddName : DefK K "_law_odd_name" sOddName
  oddLine : DefK K "_law_odd_line" sOddLine
  wit : DefK K "_law_with" sWith
  badDeeds : DefK K "_law_bad_deeds" sBadDeeds
  spoilt : DefK K "_law_spoilt" sSpoilt
  alone : DefK K "_law_alone" sAlone
  unleaned : DefK K "_law_unleaned" sUnleaned
  answer : DefK K "_law_answer" sAnswer
theorem b1 {x : Str} {st : Stmt} {a : Str} (h : ∀ (kV doc pm : Value) (an : Option Addr) (cdv ct u : Value), bindArgs (PySem.W.fnOf x x (defArgs st) (defBody st) (defScope st) .none kV doc pm an cdv ct) ⟨[u], []⟩ = pure ([a].zip [u])) : BindK x st [a] :=
  fun kV doc pm an cdv ct us hl => match us, hl with | [u], _ => h kV doc pm an cdv ct u
theorem b2 {x : Str} {st : Stmt} {a b : Str} (h : ∀ (kV doc pm : Value) (an : Option Addr) (cdv ct u v : Value), bindArgs (PySem.W.fnOf x x (defArgs st) (defBody st) (defScope st) .none kV doc pm an cdv ct) ⟨[u, v], []⟩ = pure ([a, b].zip [u, v])) : BindK x st [a, b] :=
  fun kV doc pm an cdv ct us hl => match us, hl with | [u, v], _ => h kV doc pm an cdv ct u v
theorem b3 {x : Str} {st : Stmt} {a b c : Str} (h : ∀ (kV doc pm : Value) (an : Option Addr) (cdv ct u v r : Value), bindArgs (PySem.W.fnOf x x (defArgs st) (defBody st) (defScope st) .none kV doc pm an cdv ct) ⟨[u, v, r], []⟩ = pure ([a, b, c].zip [u, v, r])) : BindK x st [a, b, c] :=
  fun kV doc pm an cdv ct us hl => match us, hl with | [u, v, r], _ => h kV doc pm an cdv ct u v r
theorem b4 {x : Str} {st : Stmt} {a b c d : Str} (h : ∀ (kV doc pm : Value) (an : Option Addr) (cdv ct u v r z : Value), bindArgs (PySem.W.fnOf x x (defArgs st) (defBody st) (defScope st) .none kV doc pm an cdv ct) ⟨[u, v, r, z], []⟩ = pure ([a, b, c, d].zip [u, v, r, z])) : BindK x st [a, b, c, d] :=
  fun kV doc pm an cdv ct us hl => match us, hl with | [u, v, r, z], _ => h kV doc pm an cdv ct u v r z
theorem all_mk {fa C1 C2 C3 C4 C5 C6 C7 C8 C9 : Addr} (X : K.In h) (G : h.Ns mainGlobals mg) (hfa : mg "law" = some (.ref fa))
    (N : NineK K C1 C2 C3 C4 C5 C6 C7 C8 C9) (E1 : ErrK K C1 C1 C2 C3 C4 C5 C6 C7 C8 C9 true false false false false false false false) (E2 : ErrK K C2 C1 C2 C3 C4 C5 C6 C7 C8 C9 false true false false false false false false)
    (B : BuiltK K) (Cs : ConstK K) (W : WordsK K) (D : DefsK K) (L : DefK K "law" sLaw) :
    ∃ fd : FuncData, (∀ (s : Shared) (u : Value), BindsTo s fd ⟨[u], []⟩ [("_law_script", u)]) ∧ ∀ base : Heap, K.In base → base.Ns mainGlobals mg → FnOk P w K mg base (L2N.CX P w) 6 fa fd ["_law_script"] (spD K 1 rLaw) := by
  obtain ⟨fl, oc, od, kV, doc, pm, an, cdv, ct, osl, la, ll, lc, lk⟩ := L
  have e := hfa.symm.trans (PySem.W.mg_of X G la)
  cases e
  have FL := fun_mk (st := sLaw) ll lc lk
  refine ⟨PySem.W.fnOf "law" "law" (defArgs sLaw) (defBody sLaw) (defScope sLaw) .none kV doc pm an cdv ct, fun s u => .of_eq rfl, fun base _ _ => ?_⟩
  have ln := PySem.W.mg_none_of X G B.len
  have ve := PySem.W.mg_none_of X G B.ve
  have is := PySem.W.mg_none_of X G B.is
  have T : Tx K mg C1 C2 := by
    obtain ⟨t1, t2, t3, t4, q1, q2, q3, q4⟩ := Cs
    obtain ⟨t, od, n, sl, u1, u2, u3, q5, q6⟩ := W
    exact ⟨ln, PySem.W.mg_none_of X G B.str, PySem.W.mg_none_of X G B.min, PySem.W.mg_none_of X G B.range, PySem.W.mg_none_of X G B.sorted, PySem.W.mg_none_of X G B.list, PySem.W.mg_none_of X G B.all, PySem.W.mg_none_of X G B.zip,
      ⟨t1, PySem.W.mg_of X G q1⟩, ⟨t2, PySem.W.mg_of X G q2⟩, ⟨t3, PySem.W.mg_of X G q3⟩, ⟨t4, PySem.W.mg_of X G q4⟩, ⟨t, PySem.W.mg_of X G q5, sqT3 q6⟩, er_of X G N.c1 E1, er_of X G N.c2 E2⟩
  have kits : Kits K mg C1 C2 := ⟨⟨_, _, _, _, _, _, _, _, kit8_of X G N E1 ve is ln rfl⟩, ⟨_, _, _, _, _, _, _, _, kit8_of X G N E2 ve is ln rfl⟩, exm_of N.c1 E1.hs E1.s1, exm_of N.c1 E1.hs E2.s1, exm_of N.c2 E2.hs E2.s2⟩
  -- the program
  have cIsName : Cal P w K mg base 1 "is_name" 1 rIsName := cal_of X G ["text"] D.isName (b1 fun _ _ _ _ _ _ _ => rfl) fun f fd F => okIsName F T
  have cIsLine : Cal P w K mg base 1 "is_line" 1 rIsLine := cal_of X G ["text"] D.isLine (b1 fun _ _ _ _ _ _ _ => rfl) fun f fd F => okIsLine F T
  have cCheckNames : Cal P w K mg base 2 "check_names" 2 (rCheckNames C1) := cal_of X G ["name", "leans"] D.checkNames (b2 fun _ _ _ _ _ _ _ _ => rfl) fun f fd F => okCheckNames F T cIsName
  have cCheckDeed : Cal P w K mg base 2 "check_deed" 1 (rCheckDeed C1) := cal_of X G ["deed"] D.checkDeed (b1 fun _ _ _ _ _ _ _ => rfl) fun f fd F => okCheckDeed F T cIsLine
  have cCheckDeeds : Cal P w K mg base 3 "check_deeds" 1 (rCheckDeeds C1) := cal_of X G ["deeds"] D.checkDeeds (b1 fun _ _ _ _ _ _ _ => rfl) fun f fd F => okCheckDeeds F T cCheckDeed
  have cCheckMarks : Cal P w K mg base 1 "check_marks" 3 (rCheckMarks C2) := cal_of X G ["name", "leans", "deeds"] D.checkMarks (b3 fun _ _ _ _ _ _ _ _ _ => rfl) fun f fd F => okCheckMarks F T
  have cCheck : Cal P w K mg base 4 "check" 1 (rCheck C1 C2) := cal_of X G ["change"] D.check (b1 fun _ _ _ _ _ _ _ => rfl) fun f fd F => okCheck F cCheckNames cCheckDeeds cCheckMarks
  -- the law
  have cCell : Cal P w K mg base 1 "_law_cell" 2 rCell := cal_of X G ["_law_script", "_law_k"] D.cell (b2 fun _ _ _ _ _ _ _ _ => rfl) fun f fd F => okCell F T
  have cMixed : Cal P w K mg base 1 "_law_mixed" 2 rMixed := cal_of X G ["_law_cell_here", "_law_k"] D.mixed (b2 fun _ _ _ _ _ _ _ _ => rfl) fun f fd F => okMixed F
  have cName : Cal P w K mg base 2 "_law_name" 2 rName := cal_of X G ["_law_cell_here", "_law_taken"] D.name (b2 fun _ _ _ _ _ _ _ _ => rfl) fun f fd F => okName F T cMixed
  have cLine : Cal P w K mg base 1 "_law_line" 1 rLine := cal_of X G ["_law_cell_here"] D.line (b1 fun _ _ _ _ _ _ _ => rfl) fun f fd F => okLine F T
  have cCopy : Cal P w K mg base 1 "_law_copy" 1 rCopy := cal_of X G ["_law_change"] D.copy (b1 fun _ _ _ _ _ _ _ => rfl) fun f fd F => okCopy F T
  have cLeaned : Cal P w K mg base 3 "_law_leaned" 2 rLeaned := cal_of X G ["_law_cell_here", "_law_name_here"] D.leaned (b2 fun _ _ _ _ _ _ _ _ => rfl) fun f fd F => okLeaned F T cName cMixed
  have cSomeDeeds : Cal P w K mg base 2 "_law_some_deeds" 4 rSomeDeeds := cal_of X G ["_law_cell_here", "_law_many", "_law_name_here", "_law_leans"] D.someDeeds (b4 fun _ _ _ _ _ _ _ _ _ _ => rfl) fun f fd F => okSomeDeeds F T cMixed cLine
  have cOddName : Cal P w K mg base 2 "_law_odd_name" 1 rOddName := cal_of X G ["_law_cell_here"] D.oddName (b1 fun _ _ _ _ _ _ _ => rfl) fun f fd F => okOddName F T cMixed
  have cOddLine : Cal P w K mg base 2 "_law_odd_line" 1 rOddLine := cal_of X G ["_law_cell_here"] D.oddLine (b1 fun _ _ _ _ _ _ _ => rfl) fun f fd F => okOddLine F T cLine
  have cWith : Cal P w K mg base 1 "_law_with" 3 rWith := cal_of X G ["_law_row", "_law_at", "_law_thing"] D.wit (b3 fun _ _ _ _ _ _ _ _ _ => rfl) fun f fd F => okWith F
  have cBadDeeds : Cal P w K mg base 3 "_law_bad_deeds" 3 rBadDeeds := cal_of X G ["_law_deeds", "_law_way", "_law_cell_here"] D.badDeeds (b3 fun _ _ _ _ _ _ _ _ _ => rfl) fun f fd F => okBadDeeds F T cWith cOddLine
  have cSpoilt : Cal P w K mg base 4 "_law_spoilt" 3 rSpoilt := cal_of X G ["_law_change", "_law_way", "_law_cell_here"] D.spoilt (b3 fun _ _ _ _ _ _ _ _ _ => rfl) fun f fd F => okSpoilt F T cOddName cBadDeeds
  have cUnleaned : Cal P w K mg base 1 "_law_unleaned" 2 rUnleaned := cal_of X G ["_law_other", "_law_cell_here"] D.unleaned (b2 fun _ _ _ _ _ _ _ _ => rfl) fun f fd F => okUnleaned F
  have al : Alo P w K mg base := by
    obtain ⟨f, oc, od, kV, doc, pm, an, cdv, ct, osl, a, l, c, kk⟩ := D.alone
    have F := fun_mk (st := sAlone) l c kk
    exact ⟨f, _, okAlone F, PySem.W.mg_of X G a, kk, F.binds (b1 (st := sAlone) fun _ _ _ _ _ _ _ => rfl)⟩
  have cAnswer : Cal P w K mg base 5 "_law_answer" 1 rAnswer := cal_of X G ["_law_change"] D.answer (b1 fun _ _ _ _ _ _ _ => rfl) fun f fd F => okAnswer F T kits cCheck al
  exact okLaw FL T cName cCell cLeaned cSomeDeeds cWith cUnleaned cSpoilt cCopy cAnswer
/-- the law row's walk -/
theorem walk_law {l : PySem.W.OpenLaw} {q : Program} {loose : List Str} {XP : (Str → Option Value) → Heap → Prop} {YP : World → Heap → Prop} {d : DefRec} {K : Params → PySem.W.Frag} (hn : l.most = some 63) (hdf : d.params.defaults = [])
    (hY : ∀ (w : World) (h : Heap), YP w h → (K w.params).In h)
    (F : ∀ (w : World) (mg : Str → Option Value) (fa : Addr) (h : Heap), (K w.params).In h → h.Ns mainGlobals mg → mg d.name = some (.ref fa) →
      ∃ fd : FuncData, (∀ (s : Shared) (u : Value), BindsTo s fd ⟨[u], []⟩ [("_law_script", u)]) ∧ ∀ base : Heap, (K w.params).In base → base.Ns mainGlobals mg → FnOk l.prog w (K w.params) mg base (L2N.CX l.prog w) 6 fa fd ["_law_script"] (spD (K w.params) 1 rLaw)) :
    PySem.W.WalkO q loose XP YP l.row.toRowW d [] (fun f vs => PySem.call f vs) :=
  L2.walk_of (n := 63) (k := 6) (x := "_law_script") (CX := fun w => L2N.CX l.prog w) (sp := fun w => spD (K w.params) 1 rLaw) hn (by decide) hdf ⟨rfl, by decide, by decide⟩ hY F
    (fun w H a ns _ _ hS => ⟨H, [.bo (ns.map .int)], .val (.bool true), Ex.refl H, .cons ⟨a, ns.map V.int, rfl, hS, IsAll.ints ns⟩ .nil, rfl, ⟨ns, rfl, rfl⟩, fun v F' H' _ i => i.bl_eq⟩) fun w H s e s' z => by
      obtain ⟨a, B, H', cls, d, _, _, _, _, _, _, _, hE⟩ := z
      exact hE
end
end K1

set_option maxHeartbeats 0
open PySem PySem.W PyProof.Rows
theorem PySem.Challenge.cw_patchweave_k01_changes_checked_holds : PySem.Challenge.rw_patchweave_k01_changes_checked.Holds := by
  w_on; o_law; k_head; (case hw => w_witness2)
  k_fill
  refine K1.walk_law (l := PySem.Challenge.rw_patchweave_k01_changes_checked) rfl rfl (fun w h Y => PySem.W.kIn_of Y) ?F
  case F =>
    intro w mg fa h KX G hmg
    refine' K1.all_mk KX G hmg ?nine ?er1 ?er2 ?blt ?cst ?wrd ?dfs ?lw
    case nine =>
      refine' PD.NineK.mk ?c1 ?c2 ?c3 ?c4 ?c5 ?c6 ?c7 ?c8 ?c9
      case c1 =>
        refine' PD.ClsK.mk ?c1a ?c1i ?c1t
        (case c1a => k_is); (case c1i => k_is); (case c1t => k_is)
      case c2 =>
        refine' PD.ClsK.mk ?c2a ?c2i ?c2t
        (case c2a => k_is); (case c2i => k_is); (case c2t => k_is)
      case c3 =>
        refine' PD.ClsK.mk ?c3a ?c3i ?c3t
        (case c3a => k_is); (case c3i => k_is); (case c3t => k_is)
      case c4 =>
        refine' PD.ClsK.mk ?c4a ?c4i ?c4t
        (case c4a => k_is); (case c4i => k_is); (case c4t => k_is)
      case c5 =>
        refine' PD.ClsK.mk ?c5a ?c5i ?c5t
        (case c5a => k_is); (case c5i => k_is); (case c5t => k_is)
      case c6 =>
        refine' PD.ClsK.mk ?c6a ?c6i ?c6t
        (case c6a => k_is); (case c6i => k_is); (case c6t => k_is)
      case c7 =>
        refine' PD.ClsK.mk ?c7a ?c7i ?c7t
        (case c7a => k_is); (case c7i => k_is); (case c7t => k_is)
      case c8 =>
        refine' PD.ClsK.mk ?c8a ?c8i ?c8t
        (case c8a => k_is); (case c8i => k_is); (case c8t => k_is)
      case c9 =>
        refine' PD.ClsK.mk ?c9a ?c9i ?c9t
        (case c9a => k_is); (case c9i => k_is); (case c9t => k_is)
    case er1 =>
      refine' PD.ErrK.mk ?e1s1 ?e1s2 ?e1s3 ?e1s4 ?e1s5 ?e1s6 ?e1s7 ?e1s8 ?e1s9 ?e1n1 ?e1n2 ?e1n3 ?e1n4 ?e1n5 ?e1n6 ?e1n7 ?e1n8 ?e1sv ?e1q ?e1k ?e1hs ?e1hg ?e1hk ?e1hd ?e1ha ?e1hn ?e1ht ?e1hm
      case e1s1 => first | rfl | k_is
      case e1s2 => first | rfl | k_is
      case e1s3 => k_is
      case e1s4 => k_is
      case e1s5 => k_is
      case e1s6 => k_is
      case e1s7 => k_is
      case e1s8 => k_is
      case e1s9 => k_is
      case e1n1 => decide
      case e1n2 => decide
      case e1n3 => decide
      case e1n4 => decide
      case e1n5 => decide
      case e1n6 => decide
      case e1n7 => decide
      case e1n8 => decide
      case e1sv => k_is
      case e1q => k_exc
      case e1k => k_is
      case e1hs => k_is
      case e1hg => k_is
      case e1hk => k_is
      case e1hd => k_is
      case e1ha => k_is
      case e1hn => k_is
      case e1ht => k_is
      case e1hm => k_is
    case er2 =>
      refine' PD.ErrK.mk ?e2s1 ?e2s2 ?e2s3 ?e2s4 ?e2s5 ?e2s6 ?e2s7 ?e2s8 ?e2s9 ?e2n1 ?e2n2 ?e2n3 ?e2n4 ?e2n5 ?e2n6 ?e2n7 ?e2n8 ?e2sv ?e2q ?e2k ?e2hs ?e2hg ?e2hk ?e2hd ?e2ha ?e2hn ?e2ht ?e2hm
      case e2s1 => first | rfl | k_is
      case e2s2 => first | rfl | k_is
      case e2s3 => k_is
      case e2s4 => k_is
      case e2s5 => k_is
      case e2s6 => k_is
      case e2s7 => k_is
      case e2s8 => k_is
      case e2s9 => k_is
      case e2n1 => decide
      case e2n2 => decide
      case e2n3 => decide
      case e2n4 => decide
      case e2n5 => decide
      case e2n6 => decide
      case e2n7 => decide
      case e2n8 => decide
      case e2sv => k_is
      case e2q => k_exc
      case e2k => k_is
      case e2hs => k_is
      case e2hg => k_is
      case e2hk => k_is
      case e2hd => k_is
      case e2ha => k_is
      case e2hn => k_is
      case e2ht => k_is
      case e2hm => k_is
    case blt =>
      refine' K1.BuiltK.mk ?f0 ?f1 ?f2 ?f3 ?f4 ?f5 ?f6 ?f7 ?f8 ?f9
      case f0 => (unfold K1.FreeK; k_is)
      case f1 => (unfold K1.FreeK; k_is)
      case f2 => (unfold K1.FreeK; k_is)
      case f3 => (unfold K1.FreeK; k_is)
      case f4 => (unfold K1.FreeK; k_is)
      case f5 => (unfold K1.FreeK; k_is)
      case f6 => (unfold K1.FreeK; k_is)
      case f7 => (unfold K1.FreeK; k_is)
      case f8 => (unfold K1.FreeK; k_is)
      case f9 => (unfold K1.FreeK; k_is)
    case cst =>
      refine' K1.constK_mk ?ca ?cb ?cc ?cd
      (case ca => k_is); (case cb => k_is); (case cc => k_is); (case cd => k_is)
    case wrd =>
      refine' K1.wordsK_mk ?wa ?wb
      (case wa => k_is); (case wb => k_is)
    case dfs =>
      refine' K1.DefsK.mk ?d0 ?d1 ?d2 ?d3 ?d4 ?d5 ?d6 ?d7 ?d8 ?d9 ?d10 ?d11 ?d12 ?d13 ?d14 ?d15 ?d16 ?d17 ?d18 ?d19 ?d20 ?d21
      case d0 =>
        refine' PD.defK_mk ?d0a ?d0l ?d0c ?d0k
        (case d0a => k_is); (case d0l => k_is); (case d0c => k_is); (case d0k => k_is)
      case d1 =>
        refine' PD.defK_mk ?d1a ?d1l ?d1c ?d1k
        (case d1a => k_is); (case d1l => k_is); (case d1c => k_is); (case d1k => k_is)
      case d2 =>
        refine' PD.defK_mk ?d2a ?d2l ?d2c ?d2k
        (case d2a => k_is); (case d2l => k_is); (case d2c => k_is); (case d2k => k_is)
      case d3 =>
        refine' PD.defK_mk ?d3a ?d3l ?d3c ?d3k
        (case d3a => k_is); (case d3l => k_is); (case d3c => k_is); (case d3k => k_is)
      case d4 =>
        refine' PD.defK_mk ?d4a ?d4l ?d4c ?d4k
        (case d4a => k_is); (case d4l => k_is); (case d4c => k_is); (case d4k => k_is)
      case d5 =>
        refine' PD.defK_mk ?d5a ?d5l ?d5c ?d5k
        (case d5a => k_is); (case d5l => k_is); (case d5c => k_is); (case d5k => k_is)
      case d6 =>
        refine' PD.defK_mk ?d6a ?d6l ?d6c ?d6k
        (case d6a => k_is); (case d6l => k_is); (case d6c => k_is); (case d6k => k_is)
      case d7 =>
        refine' PD.defK_mk ?d7a ?d7l ?d7c ?d7k
        (case d7a => k_is); (case d7l => k_is); (case d7c => k_is); (case d7k => k_is)
      case d8 =>
        refine' PD.defK_mk ?d8a ?d8l ?d8c ?d8k
        (case d8a => k_is); (case d8l => k_is); (case d8c => k_is); (case d8k => k_is)
      case d9 =>
        refine' PD.defK_mk ?d9a ?d9l ?d9c ?d9k
        (case d9a => k_is); (case d9l => k_is); (case d9c => k_is); (case d9k => k_is)
      case d10 =>
        refine' PD.defK_mk ?d10a ?d10l ?d10c ?d10k
        (case d10a => k_is); (case d10l => k_is); (case d10c => k_is); (case d10k => k_is)
      case d11 =>
        refine' PD.defK_mk ?d11a ?d11l ?d11c ?d11k
        (case d11a => k_is); (case d11l => k_is); (case d11c => k_is); (case d11k => k_is)
      case d12 =>
        refine' PD.defK_mk ?d12a ?d12l ?d12c ?d12k
        (case d12a => k_is); (case d12l => k_is); (case d12c => k_is); (case d12k => k_is)
      case d13 =>
        refine' PD.defK_mk ?d13a ?d13l ?d13c ?d13k
        (case d13a => k_is); (case d13l => k_is); (case d13c => k_is); (case d13k => k_is)
      case d14 =>
        refine' PD.defK_mk ?d14a ?d14l ?d14c ?d14k
        (case d14a => k_is); (case d14l => k_is); (case d14c => k_is); (case d14k => k_is)
      case d15 =>
        refine' PD.defK_mk ?d15a ?d15l ?d15c ?d15k
        (case d15a => k_is); (case d15l => k_is); (case d15c => k_is); (case d15k => k_is)
      case d16 =>
        refine' PD.defK_mk ?d16a ?d16l ?d16c ?d16k
        (case d16a => k_is); (case d16l => k_is); (case d16c => k_is); (case d16k => k_is)
      case d17 =>
        refine' PD.defK_mk ?d17a ?d17l ?d17c ?d17k
        (case d17a => k_is); (case d17l => k_is); (case d17c => k_is); (case d17k => k_is)
      case d18 =>
        refine' PD.defK_mk ?d18a ?d18l ?d18c ?d18k
        (case d18a => k_is); (case d18l => k_is); (case d18c => k_is); (case d18k => k_is)
      case d19 =>
        refine' PD.defK_mk ?d19a ?d19l ?d19c ?d19k
        (case d19a => k_is); (case d19l => k_is); (case d19c => k_is); (case d19k => k_is)
      case d20 =>
        refine' PD.defK_mk ?d20a ?d20l ?d20c ?d20k
        (case d20a => k_is); (case d20l => k_is); (case d20c => k_is); (case d20k => k_is)
      case d21 =>
        refine' PD.defK_mk ?d21a ?d21l ?d21c ?d21k
        (case d21a => k_is); (case d21l => k_is); (case d21c => k_is); (case d21k => k_is)
    case lw =>
      refine' PD.defK_mk ?lwa ?lwl ?lwc ?lwk
      (case lwa => k_is); (case lwl => k_is); (case lwc => k_is); (case lwk => k_is)
