import PyProof.Rows.All
import Wide.All
import OpenK.AllK
import Wide.FinOn
import HandS.ForMost
import HandS.Evl
import HandS.Wide
import HandS.EndBits
import HandS.Property
import HandS.Conv
import HandS.TupAny
import HandS.Zip
import HandS.IsInst
import HandS.Style
import KE.GoesMore
import HandS.TupLe
import HandS.SetBool
import HandS.Strs
import HandS.Deep
import HandS.Star
import HandS.SetFor
import HandS.SortInts
import HandS.Lambda
import KE.KMinKey
import PySem.Challenge.RW_liftheard_k61_whole_lifts_that_are_liste
import KE.LtData
import KE.DataMinMax
import HandS.Rev
import KE.KRevSl
import HandS.ExcInit
import HandS.FStr
import HandS.ExcOwn
import HandS.ExcField
import HandS.ExcIs
import KE.KExcSuper
import KE.KExcIs
import KE.KDflt
import HandS.HeadHook4
import HandS.HeadWalk
import HandS.TryOnly
import KE.GoesEnum
import HandS.Dict
import HandS.More
import HandS.TupMul
set_option Elab.async false
set_option linter.all false
set_option maxRecDepth 100000
set_option maxHeartbeats 8000000
/-! Judgements over the layer: what an expression is worth, by predicates that only grow with the heap. -/
namespace Lh
open PySem L2
open Evl (Ex ex_l ex_t ex_rd fresh_back)

/-! ### data -/
mutual
def Dd (K : PySem.W.Frag) (H : Hp) : PyData → V → Prop
  | .none, v => v = .non
  | .bool b, v => v = .bl b
  | .int i, v => v = .int i
  | .str s, v => v = .str s
  | .list ds, v => ∃ a xs, v = .ref a ∧ H a = some (.lst xs) ∧ DdAll K H ds xs
  | .tuple ds, v => ∃ a xs, v = .ref a ∧ SqT K H a xs ∧ DdAll K H ds xs
  | .dict _, _ => False
def DdAll (K : PySem.W.Frag) (H : Hp) : List PyData → List V → Prop
  | [], xs => xs = []
  | d :: ds, xs => ∃ x r, xs = x :: r ∧ Dd K H d x ∧ DdAll K H ds r
end
mutual
theorem Dd.ex {K : PySem.W.Frag} {H H' : Hp} (e : Ex H H') : ∀ (d : PyData) (v : V), Dd K H d v → Dd K H' d v
  | .none, _, h => h
  | .bool _, _, h => h
  | .int _, _, h => h
  | .str _, _, h => h
  | .list ds, v, ⟨a, xs, h1, h2, h3⟩ => ⟨a, xs, h1, e _ _ h2, DdAll.ex e ds xs h3⟩
  | .tuple ds, v, ⟨a, xs, h1, h2, h3⟩ => ⟨a, xs, h1, ex_t e h2, DdAll.ex e ds xs h3⟩
  | .dict _, _, h => h
theorem DdAll.ex {K : PySem.W.Frag} {H H' : Hp} (e : Ex H H') : ∀ (ds : List PyData) (xs : List V), DdAll K H ds xs → DdAll K H' ds xs
  | [], _, h => h
  | d :: ds, xs, ⟨x, r, h1, h2, h3⟩ => ⟨x, r, h1, Dd.ex e d x h2, DdAll.ex e ds r h3⟩
end
mutual
theorem Dd.dp {K : PySem.W.Frag} {H : Hp} : ∀ (d : PyData) (v : V), Dd K H d v → Dp K H v d
  | .none, _, h => by subst h; exact .non
  | .bool _, _, h => by subst h; exact .bl _
  | .int _, _, h => by subst h; exact .int _
  | .str _, _, h => by subst h; exact .str _
  | .list ds, v, ⟨a, xs, h1, h2, h3⟩ => by subst h1; exact .lst (SqL.of h2) (DdAll.dp ds xs h3)
  | .tuple ds, v, ⟨a, xs, h1, h2, h3⟩ => by subst h1; exact .tup h2 (DdAll.dp ds xs h3)
  | .dict _, _, h => h.elim
theorem DdAll.dp {K : PySem.W.Frag} {H : Hp} : ∀ (ds : List PyData) (xs : List V), DdAll K H ds xs → DpAll K H xs ds
  | [], _, h => by subst h; exact .nil
  | d :: ds, xs, ⟨x, r, h1, h2, h3⟩ => by subst h1; exact .cons (Dd.dp d x h2) (DdAll.dp ds r h3)
end
section
variable {K : PySem.W.Frag} {H : Hp}
theorem DdAll.len : ∀ {ds : List PyData} {xs : List V}, DdAll K H ds xs → xs.length = ds.length
  | [], _, h => by subst h; rfl
  | d :: ds, xs, ⟨x, r, h1, h2, h3⟩ => by subst h1; simp [DdAll.len h3]
theorem DdAll.get : ∀ {ds : List PyData} {xs : List V} {i : Nat} {d : PyData}, DdAll K H ds xs → ds[i]? = some d → ∃ v, xs[i]? = some v ∧ Dd K H d v
  | [], _, i, d, _, e => by simp at e
  | d :: ds, xs, 0, d', ⟨x, r, h1, h2, h3⟩, e => by
    subst h1
    have e' : d = d' := by simpa using e
    subst e'
    exact ⟨x, rfl, h2⟩
  | d :: ds, xs, i + 1, d', ⟨x, r, h1, h2, h3⟩, e => by
    subst h1
    obtain ⟨v, q1, q2⟩ := DdAll.get (i := i) h3 (by simpa using e)
    exact ⟨v, by simpa using q1, q2⟩
theorem DdAll.app : ∀ {ds es : List PyData} {xs ys : List V}, DdAll K H ds xs → DdAll K H es ys → DdAll K H (ds ++ es) (xs ++ ys)
  | [], _, xs, _, h, h' => by
    have e : xs = [] := h
    subst e
    exact h'
  | d :: ds, es, xs, ys, ⟨x, r, h1, h2, h3⟩, h' => by
    subst h1
    exact ⟨x, r ++ ys, rfl, h2, DdAll.app h3 h'⟩
theorem DdAll.one {d : PyData} {v : V} (h : Dd K H d v) : DdAll K H [d] [v] := ⟨v, [], rfl, h, rfl⟩
theorem DdAll.take : ∀ {ds : List PyData} {xs : List V} (n : Nat), DdAll K H ds xs → DdAll K H (ds.take n) (xs.take n)
  | _, _, 0, _ => rfl
  | [], xs, n + 1, h => by
    have e : xs = [] := h
    subst e
    rfl
  | d :: ds, xs, n + 1, ⟨x, r, h1, h2, h3⟩ => by
    subst h1
    exact ⟨x, r.take n, rfl, h2, DdAll.take n h3⟩
theorem DdAll.drop : ∀ {ds : List PyData} {xs : List V} (n : Nat), DdAll K H ds xs → DdAll K H (ds.drop n) (xs.drop n)
  | _, _, 0, h => h
  | [], xs, n + 1, h => by
    have e : xs = [] := h
    subst e
    rfl
  | d :: ds, xs, n + 1, ⟨x, r, h1, h2, h3⟩ => by
    subst h1
    exact DdAll.drop n h3
theorem DdAll.rev : ∀ {ds : List PyData} {xs : List V}, DdAll K H ds xs → DdAll K H ds.reverse xs.reverse
  | [], xs, h => by
    have e : xs = [] := h
    subst e
    rfl
  | d :: ds, xs, ⟨x, r, h1, h2, h3⟩ => by
    subst h1
    simp only [List.reverse_cons]
    exact DdAll.app (DdAll.rev h3) (DdAll.one h2)
/-- a list of ints -/
abbrev li (ns : List Int) : List PyData := ns.map PyData.int
theorem DdAll.ints : ∀ {ns : List Int} {xs : List V}, DdAll K H (li ns) xs → xs = ns.map V.int
  | [], xs, h => h
  | n :: ns, xs, ⟨x, r, h1, h2, h3⟩ => by
    have e : x = V.int n := h2
    subst h1
    rw [e, DdAll.ints h3]
    rfl
theorem DdAll.of_ints : ∀ (ns : List Int), DdAll K H (li ns) (ns.map V.int)
  | [] => rfl
  | n :: ns => ⟨.int n, ns.map V.int, rfl, rfl, DdAll.of_ints ns⟩
end

/-! ### predicates on values -/
structure Pd where
  p : V → Hp → Prop
  m : ∀ {v : V} {H H' : Hp}, Ex H H' → p v H → p v H'
def PD (K : PySem.W.Frag) (d : PyData) : Pd := ⟨fun v H => Dd K H d v, fun {v _ _} e h => Dd.ex e d v h⟩
def PV (v : V) : Pd := ⟨fun x _ => x = v, fun _ h => h⟩
def PEx {α : Type} (A : α → Prop) (P : α → Pd) : Pd := ⟨fun v H => ∃ a, A a ∧ (P a).p v H, fun e ⟨a, h1, h2⟩ => ⟨a, h1, (P a).m e h2⟩⟩
def PAny : Pd := ⟨fun _ _ => True, fun _ _ => True.intro⟩
/-- an int from lo on, below hi -/
def PIn (K : PySem.W.Frag) (lo hi : Int) : Pd := PEx (fun n : Int => lo ≤ n ∧ n < hi) fun n => PD K (.int n)

abbrev Ct := List (Option Pd)
def Sl (Γ : Ct) (σ : L2.St) (H : Hp) : Prop := σ.length = Γ.length ∧ ∀ (i : Nat) (P : Pd), Γ[i]? = some (some P) → ∃ v, σ[i]? = some (some v) ∧ P.p v H
theorem Sl.ex {Γ : Ct} {σ : L2.St} {H H' : Hp} (e : Ex H H') (h : Sl Γ σ H) : Sl Γ σ H' := ⟨h.1, fun i P q => by
  obtain ⟨v, h1, h2⟩ := h.2 i P q
  exact ⟨v, h1, P.m e h2⟩⟩
theorem Sl.set {Γ : Ct} {σ : L2.St} {H : Hp} {P : Pd} {v : V} {i : Nat} (h : Sl Γ σ H) (hv : P.p v H) : Sl (Γ.set i (some P)) (σ.set i (some v)) H := by
  refine ⟨by simp [h.1], fun j Q q => ?_⟩
  by_cases hj : i = j
  · subst hj
    have hl : i < Γ.length := by
      have := (List.getElem?_eq_some_iff.mp q).1
      simpa using this
    rw [List.getElem?_set_self hl] at q
    cases q
    exact ⟨v, List.getElem?_set_self (by rw [h.1]; exact hl), hv⟩
  · rw [List.getElem?_set_ne hj] at q
    obtain ⟨u, h1, h2⟩ := h.2 j Q q
    exact ⟨u, by rw [List.getElem?_set_ne hj]; exact h1, h2⟩
/-- what is known of the slots may be forgotten -/
def Le (Γ Γ' : Ct) : Prop := Γ'.length = Γ.length ∧ ∀ (i : Nat) (P : Pd), Γ'[i]? = some (some P) → Γ[i]? = some (some P)
/-! ### what may change: lists at hand -/
structure Res where
  ad : List Addr
  p : Hp → Hp → Prop
  st : ∀ {H0 H H0' H' : Hp}, Ex H0 H0' → (∀ a ∈ ad, H0' a = none) → (∀ a ∈ ad, H' a = H a) → p H0 H → p H0' H'
  tr : ∀ {H0 H : Hp}, p H0 H → ∀ a ∈ ad, (∃ o, H a = some o) ∧ H0 a = none
/-- a list of things P, made at p behind Z -/
def DAll (Ps : List Pd) (xs : List V) (H : Hp) : Prop := xs.length = Ps.length ∧ ∀ (i : Nat) (P : Pd), Ps[i]? = some P → ∃ v, xs[i]? = some v ∧ P.p v H
theorem DAll.ex {Ps : List Pd} {xs : List V} {H H' : Hp} (e : Ex H H') (h : DAll Ps xs H) : DAll Ps xs H' := ⟨h.1, fun i P q => by
  obtain ⟨v, h1, h2⟩ := h.2 i P q
  exact ⟨v, h1, P.m e h2⟩⟩
theorem DAll.nil {H : Hp} : DAll [] [] H := ⟨rfl, fun i P q => by simp at q⟩
theorem DAll.cons {P : Pd} {Ps : List Pd} {x : V} {xs : List V} {H : Hp} (h : P.p x H) (r : DAll Ps xs H) : DAll (P :: Ps) (x :: xs) H := by
  refine ⟨by simp [r.1], fun i Q q => ?_⟩
  cases i with
  | zero =>
    have e : P = Q := by simpa using q
    subst e
    exact ⟨x, rfl, h⟩
  | succ j =>
    obtain ⟨v, h1, h2⟩ := r.2 j Q (by simpa using q)
    exact ⟨v, by simpa using h1, h2⟩
theorem DAll.inv {P : Pd} {Ps : List Pd} {xs : List V} {H : Hp} (h : DAll (P :: Ps) xs H) : ∃ x r, xs = x :: r ∧ P.p x H ∧ DAll Ps r H := by
  obtain ⟨v, h1, h2⟩ := h.2 0 P rfl
  cases xs with
  | nil => simp at h1
  | cons x r =>
    have e : x = v := by simpa using h1
    subst e
    exact ⟨x, r, rfl, h2, by have := h.1; simpa using this, fun i Q q => by
      obtain ⟨u, q1, q2⟩ := h.2 (i + 1) Q (by simpa using q)
      exact ⟨u, by simpa using q1, q2⟩⟩
theorem DAll.nil_inv {xs : List V} {H : Hp} (h : DAll [] xs H) : xs = [] := by
  have := h.1
  exact List.length_eq_zero_iff.mp (by simpa using this)
theorem DAll.app {Ps Qs : List Pd} {xs ys : List V} {H : Hp} (h : DAll Ps xs H) (h' : DAll Qs ys H) : DAll (Ps ++ Qs) (xs ++ ys) H := by
  induction Ps generalizing xs with
  | nil =>
    have e := h.nil_inv
    subst e
    exact h'
  | cons P Ps ih =>
    obtain ⟨x, r, e, h1, h2⟩ := h.inv
    subst e
    exact DAll.cons h1 (ih h2)
theorem DAll.dd {K : PySem.W.Frag} {H : Hp} : ∀ {ds : List PyData} {xs : List V}, DAll (ds.map (PD K)) xs H → DdAll K H ds xs
  | [], xs, h => h.nil_inv
  | d :: ds, xs, h => by
    obtain ⟨x, r, e, h1, h2⟩ := h.inv
    exact ⟨x, r, e, h1, DAll.dd h2⟩
theorem DdAll.da {K : PySem.W.Frag} {H : Hp} : ∀ {ds : List PyData} {xs : List V}, DdAll K H ds xs → DAll (ds.map (PD K)) xs H
  | [], xs, h => by
    have e : xs = [] := h
    subst e
    exact DAll.nil
  | d :: ds, xs, ⟨x, r, h1, h2, h3⟩ => by
    subst h1
    exact DAll.cons h2 (DdAll.da h3)
def Res.lst (Z : Hp) (p : Addr) (Ps : List Pd) : Res where
  ad := [p]
  p := fun H0 H => Z p = none ∧ H0 p = none ∧ ∃ xs, H p = some (.lst xs) ∧ DAll Ps xs H0
  st := fun {H0 H H0' H'} e n q ⟨h0, h1, xs, h2, h3⟩ => ⟨h0, n p (by simp), xs, by rw [q p (by simp)]; exact h2, h3.ex e⟩
  tr := fun {H0 H} ⟨h0, h1, xs, h2, h3⟩ a ha => by
    have e : a = p := by simpa using ha
    subst e
    exact ⟨⟨_, h2⟩, h1⟩

def Rok (Rs : List Res) (H0 H : Hp) : Prop := (Rs.flatMap (·.ad)).Nodup ∧ ∀ r ∈ Rs, r.p H0 H
theorem Rok.nil {H0 H : Hp} : Rok [] H0 H := ⟨by simp, fun _ h => by simp at h⟩

structure Step (M : Addr → Prop) (H0 H H0' H' : Hp) : Prop where
  un : ∀ a o, ¬ M a → H a = some o → H' a = some o
  th : ∀ a o, H a = some o → ∃ o', H' a = some o'
  ex : Ex H0 H0'
  le : Ex H0' H'
  nw : ∀ a o, H0' a = some o → H0 a = some o ∨ H a = none
abbrev M0 : Addr → Prop := fun _ => False
theorem Step.rfl {M : Addr → Prop} {H0 H : Hp} (e : Ex H0 H) : Step M H0 H H0 H := ⟨fun _ _ _ h => h, fun _ o h => ⟨o, h⟩, Ex.refl _, e, fun _ _ h => .inl h⟩
theorem Step.trans {M : Addr → Prop} {H0 H H1 G1 H2 G2 : Hp} (a : Step M H0 H H1 G1) (b : Step M H1 G1 H2 G2) : Step M H0 H H2 G2 where
  un := fun x o hm h => b.un x o hm (a.un x o hm h)
  th := fun x o h => by
    obtain ⟨o', h'⟩ := a.th x o h
    exact b.th x o' h'
  ex := a.ex.trans b.ex
  le := b.le
  nw := fun x o h => by
    rcases b.nw x o h with q | q
    · exact a.nw x o q
    · refine .inr ?_
      cases e : H x with
      | none => rfl
      | some u =>
        obtain ⟨u', e'⟩ := a.th x u e
        rw [q] at e'
        cases e'
theorem Step.imp {M M' : Addr → Prop} {H0 H H0' H' : Hp} (s : Step M H0 H H0' H') (h : ∀ a, M a → M' a) : Step M' H0 H H0' H' := ⟨fun a o hm => s.un a o fun z => hm (h a z), s.th, s.ex, s.le, s.nw⟩
theorem Step.of0 {M : Addr → Prop} {H0 H H0' H' : Hp} (s : Step M0 H0 H H0' H') : Step M H0 H H0' H' := s.imp fun _ z => z.elim
/-- a new immutable object -/
theorem Step.new {M : Addr → Prop} {H0 H : Hp} {p : Addr} {o : HO} (e : Ex H0 H) (h : H p = none) : Step M H0 H (upd H0 p o) (upd H p o) where
  un := fun a u _ q => by rw [upd_ne (ne_of_none q h)]; exact q
  th := fun a u q => ⟨u, by rw [upd_ne (ne_of_none q h)]; exact q⟩
  ex := Ex.new (fresh_back e h)
  le := fun a u q => by
    by_cases ha : a = p
    · subst ha
      rw [upd_same] at q ⊢
      exact q
    · rw [upd_ne ha] at q ⊢
      exact e a u q
  nw := fun a u q => by
    by_cases ha : a = p
    · subst ha
      exact .inr h
    · rw [upd_ne ha] at q
      exact .inl q
theorem Rok.step {Rs : List Res} {M : Addr → Prop} {H0 H H0' H' : Hp} (r : Rok Rs H0 H) (s : Step M H0 H H0' H') (hm : ∀ x ∈ Rs, ∀ a ∈ x.ad, ¬ M a) : Rok Rs H0' H' := ⟨r.1, fun x hx => by
  have t := x.tr (r.2 x hx)
  refine x.st s.ex (fun a ha => ?_) (fun a ha => ?_) (r.2 x hx)
  · obtain ⟨⟨o, h1⟩, h2⟩ := t a ha
    cases e : H0' a with
    | none => rfl
    | some u =>
      rcases s.nw a u e with q | q
      · rw [h2] at q
        cases q
      · rw [h1] at q
        cases q
  · obtain ⟨⟨o, h1⟩, h2⟩ := t a ha
    rw [h1]
    exact s.un a o (hm x hx a ha) h1⟩
theorem Rok.step0 {Rs : List Res} {H0 H H0' H' : Hp} (r : Rok Rs H0 H) (s : Step M0 H0 H H0' H') : Rok Rs H0' H' := r.step s fun _ _ _ _ z => z
end Lh
namespace Lh
open PySem L2
open Evl (Ex ex_l ex_t ex_rd fresh_back)

/-! ### readings that are what the machine does -/
def wpE (X : Cx) (e : Expr) : TE := fun σ H Q => ∀ (pins : List (Addr × Obj)) (s : Shared), Inv X pins σ H s → wpAny (model X.prog X.w) X.A (eval e X.env) (EP X pins σ Q) X.xe s
def wpT (X : Cx) (e : Expr) : TT := fun σ H Q => ∀ (pins : List (Addr × Obj)) (s : Shared), Inv X pins σ H s → wpAny (model X.prog X.w) X.A (isTrue e X.env (eval e X.env)) (TP X pins σ Q) X.xe s
def wpA (X : Cx) (es : List Expr) : TA := fun σ H Q => ∀ (pos : Pos) (pins : List (Addr × Obj)) (s : Shared), Inv X pins σ H s → wpAny (model X.prog X.w) X.A (spliced (backTo pos (starEach es X.env))) (AP X pins σ Q) X.xe s
def wpS (X : Cx) (st : Stmt) : TS := fun D σ H => ∀ (pins : List (Addr × Obj)) (s : Shared), Inv X pins σ H s → wpAny (model X.prog X.w) X.A (exec st X.env) (SP X pins D) X.xe s
def wpB (X : Cx) (st : List Stmt) : TS := fun D σ H => ∀ (pins : List (Addr × Obj)) (s : Shared), Inv X pins σ H s → wpAny (model X.prog X.w) X.A (execs st X.env) (SP X pins D) X.xe s
def wpI (X : Cx) (tg iter : Expr) : TI := fun σ H R => ∀ (pins : List (Addr × Obj)) (s : Shared), Inv X pins σ H s →
  wpAny (model X.prog X.w) X.A (eval iter X.env) (fun it s1 =>
    wpAny (model X.prog X.w) X.A (pyIter it) (PIE X pins σ tg R) X.xe s1) X.xe s
section
variable {X : Cx} {e : Expr} {es : List Expr} {st : Stmt} {sts : List Stmt} {tg iter : Expr} {σ : L2.St} {H : Hp}
theorem pe_wp : PE X e (wpE X e) := ⟨fun pins s σ H Q I h => h pins s I⟩
theorem pt_wp : PT X e (wpT X e) := ⟨fun pins s σ H Q I h => h pins s I⟩
theorem pa_wp : PA X es (wpA X es) := ⟨fun pos pins s σ H Q I h => h pos pins s I⟩
theorem pss_wp : PSs X sts (wpB X sts) := ⟨fun pins s σ H Q I h => h pins s I⟩
theorem pi_wp : PI X tg iter (wpI X tg iter) := ⟨fun pins s σ H R I h => h pins s I⟩
theorem PE.wp {t : TE} {Q : VK} (h : PE X e t) (q : t σ H Q) : wpE X e σ H Q := fun pins s I => h.run pins s σ H Q I q
theorem PT.wp {t : TT} {Q : Bool → Hp → Prop} (h : PT X e t) (q : t σ H Q) : wpT X e σ H Q := fun pins s I => h.run pins s σ H Q I q
theorem PA.wp {t : TA} {Q : List V → Hp → Prop} (h : PA X es t) (q : t σ H Q) : wpA X es σ H Q := fun pos pins s I => h.run pos pins s σ H Q I q
theorem PSs.wp {t : TS} {D : Ends} (h : PSs X sts t) (q : t D σ H) : wpB X sts D σ H := fun pins s I => h.run pins s σ H D I q
theorem PI.wp {t : TI} {R : It → Hp → Prop} (h : PI X tg iter t) (q : t σ H R) : wpI X tg iter σ H R := fun pins s I => h.run pins s σ H R I q
end

/-! ### the judgements -/
section
variable (M : Addr → Prop) (Γ : Ct) (Rs : List Res)
/-- a reading gives a P -/
def YE (t : TE) (P : Pd) : Prop := ∀ (σ : L2.St) (H0 H : Hp), Sl Γ σ H0 → Ex H0 H → Rok Rs H0 H → ∀ Q : VK, (∀ v H0' H', Step M H0 H H0' H' → Rok Rs H0' H' → P.p v H0' → Q v H') → t σ H Q
def YT (t : TT) (B : Bool → Prop) : Prop := ∀ (σ : L2.St) (H0 H : Hp), Sl Γ σ H0 → Ex H0 H → Rok Rs H0 H → ∀ Q : Bool → Hp → Prop, (∀ b H0' H', Step M H0 H H0' H' → Rok Rs H0' H' → B b → Q b H') → t σ H Q
def YA (t : TA) (Ps : List Pd) : Prop := ∀ (σ : L2.St) (H0 H : Hp), Sl Γ σ H0 → Ex H0 H → Rok Rs H0 H → ∀ Q : List V → Hp → Prop, (∀ vs H0' H', Step M H0 H H0' H' → Rok Rs H0' H' → DAll Ps vs H0' → Q vs H') → t σ H Q
variable (X : Cx)
abbrev XE (e : Expr) (P : Pd) : Prop := YE M Γ Rs (wpE X e) P
abbrev XT (e : Expr) (B : Bool → Prop) : Prop := YT M Γ Rs (wpT X e) B
abbrev XA (es : List Expr) (Ps : List Pd) : Prop := YA M Γ Rs (wpA X es) Ps
variable (Z0 Z Hl : Hp) (D : Ends)
def XS (st : List Stmt) : Prop := ∀ (σ : L2.St) (H0 H : Hp), Sl Γ σ H0 → Step M Z0 Z H0 H → Ex Hl H0 → Rok Rs H0 H → wpB X st D σ H
end
/-- a step by values -/
def Yld (H0 H : Hp) (C : Pd) (f : VK → Prop) : Prop := ∀ Q : VK, (∀ v H0' H', Step M0 H0 H H0' H' → C.p v H0' → Q v H') → f Q
abbrev Is (b : Bool) : Bool → Prop := fun c => c = b
section
variable {M : Addr → Prop} {Γ : Ct} {Rs : List Res} {X : Cx} {H0 H : Hp} {K : PySem.W.Frag}
theorem Yld.val {C : Pd} {f : VK → Prop} {z : V} (e : Ex H0 H) (hz : C.p z H0) (h : ∀ Q : VK, Q z H → f Q) : Yld H0 H C f := fun Q q => h Q (q z H0 H (Step.rfl e) hz)
theorem Yld.newL {f : VK → Prop} {xs : List V} {ds : List PyData} (e : Ex H0 H) (hz : DdAll K H0 ds xs) (h : ∀ Q : VK, (∀ p, H p = none → Q (.ref p) (upd H p (.lst xs))) → f Q) : Yld H0 H (PD K (.list ds)) f := fun Q q => h Q fun p hp =>
  q _ (upd H0 p (.lst xs)) _ (Step.new e hp) ⟨p, xs, rfl, upd_same, DdAll.ex (Ex.new (fresh_back e hp)) _ _ hz⟩
theorem Yld.newT {f : VK → Prop} {xs : List V} {ds : List PyData} (e : Ex H0 H) (hz : DdAll K H0 ds xs) (h : ∀ Q : VK, (∀ p, H p = none → Q (.ref p) (upd H p (.tup xs))) → f Q) : Yld H0 H (PD K (.tuple ds)) f := fun Q q => h Q fun p hp =>
  q _ (upd H0 p (.tup xs)) _ (Step.new e hp) ⟨p, xs, rfl, SqT.of upd_same, DdAll.ex (Ex.new (fresh_back e hp)) _ _ hz⟩
theorem YE.imp {t : TE} {P P' : Pd} (h : YE M Γ Rs t P) (i : ∀ v H, P.p v H → P'.p v H) : YE M Γ Rs t P' := fun σ H0 H l e r Q q => h σ H0 H l e r Q fun v H0' H' s r' p => q v H0' H' s r' (i v H0' p)
theorem YE.to {t : TE} {P P' : Pd} (h : YE M Γ Rs t P) (i : P = P') : YE M Γ Rs t P' := i ▸ h
theorem YE.dat {t : TE} {d d' : PyData} (h : YE M Γ Rs t (PD K d)) (i : d = d') : YE M Γ Rs t (PD K d') := i ▸ h
theorem YT.imp {t : TT} {B B' : Bool → Prop} (h : YT M Γ Rs t B) (i : ∀ b, B b → B' b) : YT M Γ Rs t B' := fun σ H0 H l e r Q q => h σ H0 H l e r Q fun b H0' H' s r' p => q b H0' H' s r' (i b p)
theorem YE.wp {t : TE} {e : Expr} {P : Pd} (h : PE X e t) (y : YE M Γ Rs t P) : XE M Γ Rs X e P := fun σ H0 H l ex r Q q => PE.wp h (y σ H0 H l ex r Q q)
theorem YT.wp {t : TT} {e : Expr} {B : Bool → Prop} (h : PT X e t) (y : YT M Γ Rs t B) : XT M Γ Rs X e B := fun σ H0 H l ex r Q q => PT.wp h (y σ H0 H l ex r Q q)
theorem YA.wp {t : TA} {es : List Expr} {Ps : List Pd} (h : PA X es t) (y : YA M Γ Rs t Ps) : XA M Γ Rs X es Ps := fun σ H0 H l ex r Q q => PA.wp h (y σ H0 H l ex r Q q)
/-! ### names, constants -/
theorem ye_c {v : V} {P : Pd} (h : ∀ H, P.p v H) : YE M Γ Rs (tC v) P := fun σ H0 H _ e r Q q => q v H0 H (Step.rfl e) r (h H0)
theorem ye_var {i : Nat} {P : Pd} (h : Γ[i]? = some (some P)) : YE M Γ Rs (tVar i) P := fun σ H0 H l e r Q q => by
  obtain ⟨v, h1, h2⟩ := l.2 i P h
  exact ⟨v, h1, q v H0 H (Step.rfl e) r h2⟩
theorem xe_var (i : Nat) {x : Str} {pos : Pos} {P : Pd} (h : Γ[i]? = some (some P) := by rfl) (hN : X.N[i]? = some x := by rfl) (hv : Vis X.env.scope x := by first | exact Or.inl rfl | exact Or.inr (Or.inl rfl) | exact Or.inr (Or.inr rfl))
    (hd : (x == ("__debug__" : Str)) = false := by decide) (hcd : (x == ("__classdict__" : Str)) = false := by decide) : XE M Γ Rs X (.Name x pos) P := YE.wp (pe_var hN hv hd hcd) (ye_var h)
theorem xe_int {i : Int} {j pos} : XE M Γ Rs X (.Constant (.int i) j pos) (PD K (.int i)) := YE.wp pe_int (ye_c fun _ => rfl)
theorem xe_bl {b : Bool} {j pos} : XE M Γ Rs X (.Constant (.bool b) j pos) (PD K (.bool b)) := YE.wp pe_bl (ye_c fun _ => rfl)
theorem xe_non {j pos} : XE M Γ Rs X (.Constant .none j pos) (PD K .none) := YE.wp pe_non (ye_c fun _ => rfl)
theorem xe_str {x : Str} {j pos} : XE M Γ Rs X (.Constant (.str x) j pos) (PD K (.str x)) := YE.wp pe_str (ye_c fun _ => rfl)
/-- a module's name that holds an int -/
theorem xe_gint {x : Str} {i : Int} {t : Tok} {pos : Pos} (hm : X.mg x = some (.int i t)) (hg : Gl X x := by rfl) (hd : (x == ("__debug__" : Str)) = false := by decide) : XE M Γ Rs X (.Name x pos) (PD K (.int i)) :=
  YE.wp (pe_glob (v := .int i) hg hm ⟨t, rfl⟩ hd) (ye_c fun _ => rfl)
/-! ### two operands -/
theorem ye_op {r : R2} {ta tb : TE} {A B C : Pd} (ha : YE M Γ Rs ta A) (hb : YE M Γ Rs tb B) (hr : ∀ x y H0 H, A.p x H0 → B.p y H0 → Ex H0 H → Rok Rs H0 H → Yld H0 H C (r x y H)) : YE M Γ Rs (tOp r ta tb) C := fun σ H0 H l e k Q q =>
  ha σ H0 H l e k _ fun x H1 G1 s1 k1 a1 => hb σ H1 G1 (l.ex s1.ex) s1.le k1 _ fun y H2 G2 s2 k2 b2 =>
    hr x y H2 G2 (A.m s2.ex a1) b2 s2.le k2 Q fun v H3 G3 s3 c3 => q v H3 G3 ((s1.trans s2).trans s3.of0) (k2.step0 s3) c3
theorem ye_un {r : V → Hp → VK → Prop} {ta : TE} {A C : Pd} (ha : YE M Γ Rs ta A) (hr : ∀ x H0 H, A.p x H0 → Ex H0 H → Rok Rs H0 H → Yld H0 H C (r x H)) : YE M Γ Rs (tUn r ta) C := fun σ H0 H l e k Q q =>
  ha σ H0 H l e k _ fun x H1 G1 s1 k1 a1 => hr x H1 G1 a1 s1.le k1 Q fun v H3 G3 s3 c3 => q v H3 G3 (s1.trans s3.of0) (k1.step0 s3) c3
theorem xe_bin {op : Operator} {r : R2} {a b : Expr} {A B C : Pd} {pos : Pos} (ho : OpR X (binaryOp op) r) (ha : XE M Γ Rs X a A) (hb : XE M Γ Rs X b B)
    (hr : ∀ x y H0 H, A.p x H0 → B.p y H0 → Ex H0 H → Rok Rs H0 H → Yld H0 H C (r x y H)) : XE M Γ Rs X (.BinOp a op b pos) C := YE.wp (pe_op ho pe_wp pe_wp) (ye_op ha hb hr)
theorem xe_cmp {op : CmpOp} {r : R2} {a b : Expr} {A B C : Pd} {pos : Pos} (ho : OpR X (compareOp op) r) (ha : XE M Γ Rs X a A) (hb : XE M Γ Rs X b B)
    (hr : ∀ x y H0 H, A.p x H0 → B.p y H0 → Ex H0 H → Rok Rs H0 H → Yld H0 H C (r x y H)) (hm : behindInMarks op b = false) : XE M Γ Rs X (.Compare a [op] [b] pos) C := YE.wp (pe_cmpR ho pe_wp pe_wp hm) (ye_op ha hb hr)
theorem xe_un {op : UnaryOp} {r : V → Hp → VK → Prop} {a : Expr} {A C : Pd} {pos : Pos} (ho : UnR X (unaryOp op) r) (ha : XE M Γ Rs X a A)
    (hr : ∀ x H0 H, A.p x H0 → Ex H0 H → Rok Rs H0 H → Yld H0 H C (r x H)) : XE M Γ Rs X (.UnaryOp op a pos) C := YE.wp (pe_un ho pe_wp) (ye_un ha hr)
/-- a test's answer -/
def PB (K : PySem.W.Frag) (B : Bool → Prop) : Pd := PEx B fun b => PD K (.bool b)
theorem yt_test {t : TE} {B : Bool → Prop} (h : YE M Γ Rs t (PB K B)) : YT M Γ Rs (tTest t) B := fun σ H0 H l e k Q q => h σ H0 H l e k _ fun v H1 G1 s1 k1 a1 => by
  obtain ⟨b, hb, hv⟩ := a1
  exact ⟨b, hv, q b H1 G1 s1 k1 hb⟩
theorem yt_B {t : TE} {B : Bool → Prop} (h : YE M Γ Rs t (PB K B)) : YT M Γ Rs (tB t) B := fun σ H0 H l e k Q q => h σ H0 H l e k _ fun v H1 G1 s1 k1 a1 => by
  obtain ⟨b, hb, hv⟩ := a1
  exact ⟨b, hv, q b H1 G1 s1 k1 hb⟩
theorem YE.pb {t : TE} {b : Bool} (h : YE M Γ Rs t (PD K (.bool b))) : YE M Γ Rs t (PB K (Is b)) := h.imp fun v H p => ⟨b, rfl, p⟩
theorem xt_cmp {op : CmpOp} {r : R2} {a b : Expr} {A B : Pd} {T : Bool → Prop} {pos : Pos} (ho : OpR X (compareOp op) r) (ha : XE M Γ Rs X a A) (hb : XE M Γ Rs X b B)
    (hr : ∀ x y H0 H, A.p x H0 → B.p y H0 → Ex H0 H → Rok Rs H0 H → Yld H0 H (PB K T) (r x y H)) (hm : behindInMarks op b = false) : XT M Γ Rs X (.Compare a [op] [b] pos) T := YT.wp (pt_cmpR ho pe_wp pe_wp hm) (yt_test (ye_op ha hb hr))
theorem xt_val {e : Expr} {B : Bool → Prop} (h : XE M Γ Rs X e (PB K B)) (he : ∀ whole, isTrue e X.env whole = (do let v ← whole; standAt e.pos; holding [v] (truthy v)) := by intro _; rfl) : XT M Γ Rs X e B := YT.wp (pt_val pe_wp he) (yt_B h)
theorem xt_not {e : Expr} {B : Bool → Prop} {pos : Pos} (h : XT M Γ Rs X e B) : XT M Γ Rs X (.UnaryOp .Not e pos) (fun b => B (!b)) := YT.wp (pt_not pt_wp) fun σ H0 H l e k Q q =>
  h σ H0 H l e k _ fun b H1 G1 s1 k1 a1 => q (!b) H1 G1 s1 k1 (by rw [Bool.not_not]; exact a1)
/-- and: the second is asked where the first holds -/
def BAnd (A B : Bool → Prop) : Bool → Prop := fun b => (A false ∧ b = false) ∨ (A true ∧ B b)
def BOr (A B : Bool → Prop) : Bool → Prop := fun b => (A true ∧ b = true) ∨ (A false ∧ B b)
theorem yt_and {t u : TT} {A B : Bool → Prop} (h : YT M Γ Rs t A) (h' : A true → YT M Γ Rs u B) : YT M Γ Rs (tAnd t u) (BAnd A B) := fun σ H0 H l e k Q q =>
  h σ H0 H l e k _ fun b H1 G1 s1 k1 a1 => by
    cases b with
    | true => exact h' a1 σ H1 G1 (l.ex s1.ex) s1.le k1 Q fun c H2 G2 s2 k2 a2 => q c H2 G2 (s1.trans s2) k2 (.inr ⟨a1, a2⟩)
    | false => exact q false H1 G1 s1 k1 (.inl ⟨a1, rfl⟩)
theorem yt_or {t u : TT} {A B : Bool → Prop} (h : YT M Γ Rs t A) (h' : A false → YT M Γ Rs u B) : YT M Γ Rs (tOr t u) (BOr A B) := fun σ H0 H l e k Q q =>
  h σ H0 H l e k _ fun b H1 G1 s1 k1 a1 => by
    cases b with
    | false => exact h' a1 σ H1 G1 (l.ex s1.ex) s1.le k1 Q fun c H2 G2 s2 k2 a2 => q c H2 G2 (s1.trans s2) k2 (.inr ⟨a1, a2⟩)
    | true => exact q true H1 G1 s1 k1 (.inl ⟨a1, rfl⟩)
theorem xt_and {a b : Expr} {A B : Bool → Prop} {pos : Pos} (h : XT M Γ Rs X a A) (h' : A true → XT M Γ Rs X b B) : XT M Γ Rs X (.BoolOp .And [a, b] pos) (BAnd A B) := YT.wp (PW.pt (pw_and pt_wp (pw_and1 pt_wp))) (yt_and h h')
theorem xt_or {a b : Expr} {A B : Bool → Prop} {pos : Pos} (h : XT M Γ Rs X a A) (h' : A false → XT M Γ Rs X b B) : XT M Γ Rs X (.BoolOp .Or [a, b] pos) (BOr A B) := YT.wp (PW.pt (pw_or pt_wp (pw_or1 pt_wp))) (yt_or h h')
theorem xt_or3 {a b c : Expr} {A B C : Bool → Prop} {pos : Pos} (h : XT M Γ Rs X a A) (h' : A false → XT M Γ Rs X b B) (h'' : A false → B false → XT M Γ Rs X c C) : XT M Γ Rs X (.BoolOp .Or [a, b, c] pos) (BOr A (BOr B C)) :=
  YT.wp (PW.pt (pw_or pt_wp (pw_or pt_wp (pw_or1 pt_wp)))) (yt_or h fun ha => yt_or (h' ha) fun hb => h'' ha hb)
/-- as values -/
theorem ye_andV {t u : TE} {A B : Bool → Prop} (h : YE M Γ Rs t (PB K A)) (h' : A true → YE M Γ Rs u (PB K B)) : YE M Γ Rs (tAndV t u) (PB K (BAnd A B)) := fun σ H0 H l e k Q q =>
  h σ H0 H l e k _ fun v H1 G1 s1 k1 ⟨b, a1, hv⟩ => ⟨b, hv, by
    cases b with
    | true => exact h' a1 σ H1 G1 (l.ex s1.ex) s1.le k1 Q fun c H2 G2 s2 k2 ⟨b2, a2, hv2⟩ => q c H2 G2 (s1.trans s2) k2 ⟨b2, .inr ⟨a1, a2⟩, hv2⟩
    | false => exact q _ H1 G1 s1 k1 ⟨false, .inl ⟨a1, rfl⟩, rfl⟩⟩
theorem xe_and {a b : Expr} {A B : Bool → Prop} {pos : Pos} (h : XE M Γ Rs X a (PB K A)) (h' : A true → XE M Γ Rs X b (PB K B)) : XE M Γ Rs X (.BoolOp .And [a, b] pos) (PB K (BAnd A B)) := YE.wp (pe_and pe_wp (pe_one pe_wp)) (ye_andV h h')
theorem xe_ifx {c a b : Expr} {B : Bool → Prop} {P : Pd} {pos : Pos} (hc : XT M Γ Rs X c B) (ha : B true → XE M Γ Rs X a P) (hb : B false → XE M Γ Rs X b P) : XE M Γ Rs X (.IfExp c a b pos) P := YE.wp (pe_ifExp pt_wp pe_wp pe_wp) fun σ H0 H l e k Q q =>
  hc σ H0 H l e k _ fun d H1 G1 s1 k1 a1 => by
    cases d with
    | true => exact ha a1 σ H1 G1 (l.ex s1.ex) s1.le k1 Q fun c H2 G2 s2 k2 a2 => q c H2 G2 (s1.trans s2) k2 a2
    | false => exact hb a1 σ H1 G1 (l.ex s1.ex) s1.le k1 Q fun c H2 G2 s2 k2 a2 => q c H2 G2 (s1.trans s2) k2 a2
/-- a < b < c -/
theorem ye_chain {r r' : R2} {ta tb tc : TE} {A B C : Pd} {T U : Bool → Prop} (ha : YE M Γ Rs ta A) (hb : YE M Γ Rs tb B) (hr : ∀ x y H0 H, A.p x H0 → B.p y H0 → Ex H0 H → Rok Rs H0 H → Yld H0 H (PB K T) (r x y H))
    (hc : T true → YE M Γ Rs tc C) (hr' : T true → ∀ x y H0 H, B.p x H0 → C.p y H0 → Ex H0 H → Rok Rs H0 H → Yld H0 H (PB K U) (r' x y H)) : YE M Γ Rs (tChain r r' ta tb tc) (PB K (BAnd T U)) := fun σ H0 H l e k Q q =>
  ha σ H0 H l e k _ fun x H1 G1 s1 k1 a1 => hb σ H1 G1 (l.ex s1.ex) s1.le k1 _ fun y H2 G2 s2 k2 b2 =>
    hr x y H2 G2 (A.m s2.ex a1) b2 s2.le k2 _ fun v H3 G3 s3 ⟨b, hb3, hv⟩ => ⟨b, hv, by
      have k3 := k2.step0 s3
      have s13 := (s1.trans s2).trans s3.of0
      cases b with
      | true =>
        exact hc hb3 σ H3 G3 (l.ex s13.ex) s13.le k3 _ fun w H4 G4 s4 k4 c4 => hr' hb3 y w H4 G4 (B.m (s3.ex.trans s4.ex) b2) c4 s4.le k4 Q fun z H5 G5 s5 ⟨b5, h5, hv5⟩ => q z H5 G5 ((s13.trans s4).trans s5.of0) (k4.step0 s5) ⟨b5, .inr ⟨hb3, h5⟩, hv5⟩
      | false => exact q _ H3 G3 s13 k3 ⟨false, .inl ⟨hb3, rfl⟩, rfl⟩⟩
theorem xt_chain {op op' : CmpOp} {r r' : R2} {a b c : Expr} {A B C : Pd} {T U : Bool → Prop} {pos : Pos} (ho : OpR X (compareOp op) r) (ho' : OpR X (compareOp op') r') (ha : XE M Γ Rs X a A) (hb : XE M Γ Rs X b B)
    (hr : ∀ x y H0 H, A.p x H0 → B.p y H0 → Ex H0 H → Rok Rs H0 H → Yld H0 H (PB K T) (r x y H)) (hc : T true → XE M Γ Rs X c C) (hr' : T true → ∀ x y H0 H, B.p x H0 → C.p y H0 → Ex H0 H → Rok Rs H0 H → Yld H0 H (PB K U) (r' x y H))
    (hm : lastMarks [op, op'] [b, c] = false := by with_unfolding_all rfl) : XT M Γ Rs X (.Compare a [op, op'] [b, c] pos) (BAnd T U) := YT.wp (pt_chain ho ho' pe_wp pe_wp pe_wp hm) (yt_test (ye_chain ha hb hr hc hr'))
theorem xe_chain {op op' : CmpOp} {r r' : R2} {a b c : Expr} {A B C : Pd} {T U : Bool → Prop} {pos : Pos} (ho : OpR X (compareOp op) r) (ho' : OpR X (compareOp op') r') (ha : XE M Γ Rs X a A) (hb : XE M Γ Rs X b B)
    (hr : ∀ x y H0 H, A.p x H0 → B.p y H0 → Ex H0 H → Rok Rs H0 H → Yld H0 H (PB K T) (r x y H)) (hc : T true → XE M Γ Rs X c C) (hr' : T true → ∀ x y H0 H, B.p x H0 → C.p y H0 → Ex H0 H → Rok Rs H0 H → Yld H0 H (PB K U) (r' x y H))
    (hm : lastMarks [op, op'] [b, c] = false := by with_unfolding_all rfl) : XE M Γ Rs X (.Compare a [op, op'] [b, c] pos) (PB K (BAnd T U)) := YE.wp (pe_chain ho ho' pe_wp pe_wp pe_wp hm) (ye_chain ha hb hr hc hr')

/-! ### argument lists -/
theorem xa_nil : XA M Γ Rs X [] [] := YA.wp pa_nil fun σ H0 H l e k Q q => q [] H0 H (Step.rfl e) k DAll.nil
theorem xa_cons {e : Expr} {es : List Expr} {P : Pd} {Ps : List Pd} (h : XE M Γ Rs X e P) (hs : XA M Γ Rs X es Ps) (he : starEach (e :: es) X.env = (false, eval e X.env) :: starEach es X.env := by rfl) : XA M Γ Rs X (e :: es) (P :: Ps) :=
  YA.wp (pa_cons pe_wp pa_wp he) fun σ H0 H l ex k Q q => h σ H0 H l ex k _ fun x H1 G1 s1 k1 a1 => hs σ H1 G1 (l.ex s1.ex) s1.le k1 _ fun xs H2 G2 s2 k2 a2 => q (x :: xs) H2 G2 (s1.trans s2) k2 (DAll.cons (P.m s2.ex a1) a2)
theorem xa_1 {e : Expr} {P : Pd} (h : XE M Γ Rs X e P) (he : starEach [e] X.env = (false, eval e X.env) :: starEach [] X.env := by rfl) : XA M Γ Rs X [e] [P] := xa_cons h xa_nil he
/-- a built-in by its name -/
theorem xe_callB {x : Str} {id : String} {r : List V → Hp → VK → Prop} {e : Expr} {es : List Expr} {Ps : List Pd} {C : Pd} {p pos : Pos} (hc : CallR X (.builtin id) r) (hm : X.mg x = none) (hv : bootBuiltins x = some (.builtin id)) (ha : XA M Γ Rs X (e :: es) Ps)
    (hr : ∀ xs H0 H, DAll Ps xs H0 → Ex H0 H → Rok Rs H0 H → Yld H0 H C (r xs H)) (hg : Gl X x := by rfl) (hn : x ≠ "__name__" := by decide) (hdb : (x == ("__debug__" : Str)) = false := by decide)
    (he : starEach (e :: es) X.env = (false, eval e X.env) :: starEach es X.env := by rfl) (hpl : (backTo pos (starEach es X.env)).any (·.1) = false := by rfl) : XE M Γ Rs X (.Call (.Name x p) (e :: es) [] pos) C :=
  YE.wp (pe_callB hc hg hm hv pa_wp hn hdb he hpl) fun σ H0 H l ex k Q q => ha σ H0 H l ex k _ fun xs H1 G1 s1 k1 a1 => hr xs H1 G1 a1 s1.le k1 Q fun v H2 G2 s2 c2 => q v H2 G2 (s1.trans s2.of0) (k1.step0 s2) c2
theorem xe_callTy {x : Str} {T : String} {r : List V → Hp → VK → Prop} {e : Expr} {es : List Expr} {Ps : List Pd} {C : Pd} {p pos : Pos} (hc : CallR X (.type T) r) (hm : X.mg x = none) (hv : bootBuiltins x = some (.type T)) (ha : XA M Γ Rs X (e :: es) Ps)
    (hr : ∀ xs H0 H, DAll Ps xs H0 → Ex H0 H → Rok Rs H0 H → Yld H0 H C (r xs H)) (hg : Gl X x := by rfl) (hn : x ≠ "__name__" := by decide) (hdb : (x == ("__debug__" : Str)) = false := by decide)
    (he : starEach (e :: es) X.env = (false, eval e X.env) :: starEach es X.env := by rfl) (hpl : (backTo pos (starEach es X.env)).any (·.1) = false := by rfl) : XE M Γ Rs X (.Call (.Name x p) (e :: es) [] pos) C :=
  YE.wp (pe_callTy hc hg hm hv pa_wp hn hdb he hpl) fun σ H0 H l ex k Q q => ha σ H0 H l ex k _ fun xs H1 G1 s1 k1 a1 => hr xs H1 G1 a1 s1.le k1 Q fun v H2 G2 s2 c2 => q v H2 G2 (s1.trans s2.of0) (k1.step0 s2) c2
/-! ### displays -/
theorem xe_tup {es : List Expr} {ds : List PyData} {x1} {pos : Pos} (h : XA M Γ Rs X es (ds.map (PD K))) (hz : ds.length ≤ 1000) : XE M Γ Rs X (.Tuple es x1 pos) (PD K (.tuple ds)) :=
  YE.wp (pe_tup pa_wp) fun σ H0 H l ex k Q q => h σ H0 H l ex k _ fun xs H1 G1 s1 k1 a1 => ⟨by have := a1.1; rw [List.length_map] at this; rw [this]; exact Nat.le_trans hz (by decide), fun p hp =>
    q _ (upd H1 p (.tup xs)) _ (s1.trans (Step.new s1.le hp)) (k1.step0 (Step.new s1.le hp)) ⟨p, xs, rfl, SqT.of upd_same, DdAll.ex (Ex.new (fresh_back s1.le hp)) _ _ a1.dd⟩⟩
theorem xe_lst {es : List Expr} {ds : List PyData} {pos : Pos} (h : XA M Γ Rs X es (ds.map (PD K))) (hz : ds.length ≤ 1000) : XE M Γ Rs X (.List es pos) (PD K (.list ds)) :=
  YE.wp (pe_lst pa_wp) fun σ H0 H l ex k Q q => h σ H0 H l ex k _ fun xs H1 G1 s1 k1 a1 => ⟨by have := a1.1; rw [List.length_map] at this; rw [this]; exact Nat.le_trans hz (by decide), fun p hp =>
    q _ (upd H1 p (.lst xs)) _ (s1.trans (Step.new s1.le hp)) (k1.step0 (Step.new s1.le hp)) ⟨p, xs, rfl, upd_same, DdAll.ex (Ex.new (fresh_back s1.le hp)) _ _ a1.dd⟩⟩
end

/-! ### statements -/
section
variable {M : Addr → Prop} {Γ Γ' : Ct} {Rs : List Res} {X : Cx} {Z0 Z Hl : Hp} {D : Ends} {K : PySem.W.Frag} {rest : List Stmt}
theorem xs_nil (h : ∀ σ H0 H, Sl Γ σ H0 → Step M Z0 Z H0 H → Ex Hl H0 → Rok Rs H0 H → D.nx σ H) : XS M Γ Rs X Z0 Z Hl D [] := fun σ H0 H l s b k => PSs.wp pss_nil (h σ H0 H l s b k)
/-- behind a block: the rest -/
theorem xs_then (h : XS M Γ Rs X Z0 Z Hl D rest) : XS M Γ Rs X Z0 Z Hl { D with nx := wpB X rest D } [] := xs_nil h
theorem xs_cons {st : Stmt} {t : TS} (h : PS X st t) (q : ∀ σ H0 H, Sl Γ σ H0 → Step M Z0 Z H0 H → Ex Hl H0 → Rok Rs H0 H → t { D with nx := wpB X rest D } σ H) : XS M Γ Rs X Z0 Z Hl D (st :: rest) :=
  fun σ H0 H l s b k => PSs.wp (pss_cons h pss_wp) (q σ H0 H l s b k)
/-- x = e -/
theorem xs_asg (i : Nat) {x : Str} {e : Expr} {P : Pd} {pos pos' : Pos} (he : XE M Γ Rs X e P) (h : XS M (Γ.set i (some P)) Rs X Z0 Z Hl D rest) (hN : X.N.Nodup) (hi : X.N[i]? = some x := by rfl) (hx : Loc X.env.scope x := by first | exact Or.inl rfl | exact Or.inr rfl)
    (hs : swapsWith e (some (.Name x pos')) pos.line X.env = pure false := by rfl) (hf : X.fn x = true ∨ X.env.scope.names.lookup x = some .local := by first | exact .inl rfl | exact .inr rfl) : XS M Γ Rs X Z0 Z Hl D (.Assign [.Name x pos'] e pos :: rest) :=
  xs_cons (ps_set hN hi hx pe_wp hs hf) fun σ H0 H l s b k => he σ H0 H l s.le k _ fun v H1 G1 s1 k1 a1 => h _ H1 G1 ((l.ex s1.ex).set a1) (s.trans s1) (b.trans s1.ex) k1
/-- x = e, where e is one of many -/
theorem xs_asgE (i : Nat) {α : Type} {A : α → Prop} {P : α → Pd} {x : Str} {e : Expr} {pos pos' : Pos} (he : XE M Γ Rs X e (PEx A P)) (h : ∀ a, A a → XS M (Γ.set i (some (P a))) Rs X Z0 Z Hl D rest) (hN : X.N.Nodup) (hi : X.N[i]? = some x := by rfl) (hx : Loc X.env.scope x := by first | exact Or.inl rfl | exact Or.inr rfl)
    (hs : swapsWith e (some (.Name x pos')) pos.line X.env = pure false := by rfl) (hf : X.fn x = true ∨ X.env.scope.names.lookup x = some .local := by first | exact .inl rfl | exact .inr rfl) : XS M Γ Rs X Z0 Z Hl D (.Assign [.Name x pos'] e pos :: rest) :=
  xs_cons (ps_set hN hi hx pe_wp hs hf) fun σ H0 H l s b k => he σ H0 H l s.le k _ fun v H1 G1 s1 k1 ⟨a, ha, hv⟩ => h a ha _ H1 G1 ((l.ex s1.ex).set hv) (s.trans s1) (b.trans s1.ex) k1
/-- a value dropped -/
theorem xs_expr {e : Expr} {P : Pd} {pos : Pos} (he : XE M Γ Rs X e P) (h : XS M Γ Rs X Z0 Z Hl D rest) (hs : swapsWith e none pos.line X.env = pure false := by rfl) : XS M Γ Rs X Z0 Z Hl D (.Expr e pos :: rest) :=
  xs_cons (ps_expr pe_wp hs) fun σ H0 H l s b k => he σ H0 H l s.le k _ fun v H1 G1 s1 k1 a1 => h _ H1 G1 (l.ex s1.ex) (s.trans s1) (b.trans s1.ex) k1
theorem xs_ret {e : Expr} {P : Pd} {pos : Pos} (he : XE M Γ Rs X e P) (h : ∀ v H0 H, Step M Z0 Z H0 H → Rok Rs H0 H → P.p v H0 → D.rt v H) : XS M Γ Rs X Z0 Z Hl D (.Return (some e) pos :: rest) :=
  xs_cons (ps_ret pe_wp) fun σ H0 H l s b k => he σ H0 H l s.le k _ fun v H1 G1 s1 k1 a1 => h v H1 G1 (s.trans s1) k1 a1
theorem xs_if {c : Expr} {a b : List Stmt} {B : Bool → Prop} {pos : Pos} (hc : XT M Γ Rs X c B) (ha : B true → XS M Γ Rs X Z0 Z Hl { D with nx := wpB X rest D } a) (hb : B false → XS M Γ Rs X Z0 Z Hl { D with nx := wpB X rest D } b) :
    XS M Γ Rs X Z0 Z Hl D (.If c a b pos :: rest) :=
  xs_cons (ps_if pt_wp pss_wp pss_wp) fun σ H0 H l s b k => hc σ H0 H l s.le k _ fun d H1 G1 s1 k1 a1 => by
    cases d with
    | true => exact ha a1 σ H1 G1 (l.ex s1.ex) (s.trans s1) (b.trans s1.ex) k1
    | false => exact hb a1 σ H1 G1 (l.ex s1.ex) (s.trans s1) (b.trans s1.ex) k1
/-- if c: (never) -/
theorem xs_skip {c : Expr} {a : List Stmt} {pos : Pos} (hc : XT M Γ Rs X c (Is false)) (h : XS M Γ Rs X Z0 Z Hl D rest) : XS M Γ Rs X Z0 Z Hl D (.If c a [] pos :: rest) := xs_if hc (fun q => Bool.noConfusion q) fun _ => xs_then h
/-- a, b = x, y -/
theorem xs_par (i j : Nat) {x y : Str} {a b : Expr} {P Q : Pd} {px py pt : Pos} {kt k2 pt2} {pos : Pos} (ha : XA M Γ Rs X [a, b] [P, Q]) (h : XS M ((Γ.set i (some P)).set j (some Q)) Rs X Z0 Z Hl D rest) (hN : X.N.Nodup) (hc : X.calm = true := by rfl) (hi : X.N[i]? = some x := by rfl) (hj : X.N[j]? = some y := by rfl) (hij : i ≠ j := by decide)
    (hx : X.env.scope.names.lookup x = some .local := by rfl) (hy : X.env.scope.names.lookup y = some .local := by rfl) (hw : swappedStores [.Tuple [.Name x px, .Name y py] kt pt] (.Tuple [a, b] k2 pt2) X.env = pure (some [x, y]) := by rfl)
    (hs : swapsWithSole [.Tuple [.Name x px, .Name y py] kt pt] (.Tuple [a, b] k2 pt2) pos.line X.env = pure false := by rfl) : XS M Γ Rs X Z0 Z Hl D (.Assign [.Tuple [.Name x px, .Name y py] kt pt] (.Tuple [a, b] k2 pt2) pos :: rest) :=
  xs_cons (ps_par hc hN hi hj hij hx hy pa_wp hw hs) fun σ H0 H l s b k => ha σ H0 H l s.le k _ fun vs H1 G1 s1 k1 a1 => by
    obtain ⟨v, r, e1, h1, h2⟩ := a1.inv
    obtain ⟨w, r', e2, h3, h4⟩ := h2.inv
    have e3 := h4.nil_inv
    subst e1 e2 e3
    exact ⟨v, w, rfl, h _ H1 G1 (((l.ex s1.ex).set h1).set h3) (s.trans s1) (b.trans s1.ex) k1⟩

/-! ### loops -/
/-- an iterator that gives the things Qs, one after another -/
def Wk (J : It) (Qs : List Pd) (H0 : Hp) : Prop := ∀ H0' H, Ex H0 H0' → Ex H0' H → ∀ i,
  (∀ Q, Qs[i]? = some Q → J.go i H ∧ ∀ x H', J.yld i H x H' → ∃ H0'', Step M0 H0' H H0'' H' ∧ Q.p x H0'') ∧ (Qs.length = i → J.stop i H)
def XI (M : Addr → Prop) (Γ : Ct) (Rs : List Res) (X : Cx) (tg iter : Expr) (Qs : List Pd) : Prop :=
  ∀ (σ : L2.St) (H0 H : Hp), Sl Γ σ H0 → Ex H0 H → Rok Rs H0 H → ∀ R : It → Hp → Prop, (∀ J H0' H', Step M H0 H H0' H' → Rok Rs H0' H' → Wk J Qs H0' → R J H') → wpI X tg iter σ H R
/-- what the target makes of a Q -/
def XG (X : Cx) (tg : Expr) (Q : Pd) (Γ Γ' : Ct) : Prop := ∃ g, PG X tg g ∧ ∀ (v : V) (σ : L2.St) (H0 H : Hp), Sl Γ σ H0 → Ex H0 H → Q.p v H0 → ∀ R : L2.St → Hp → Prop, (∀ σ', Sl Γ' σ' H0 → R σ' H) → g v σ H R
/-- a loop's word: in which contexts a turn may begin -/
structure KJ (M : Addr → Prop) (Z0 Z Hs : Hp) (J : Nat → Ct → List Res → Prop) (i : Nat) (σ : L2.St) (H : Hp) : Prop where
  is : ∃ Γ Rs H0, J i Γ Rs ∧ Ex Hs H0 ∧ Sl Γ σ H0 ∧ Step M Z0 Z H0 H ∧ Rok Rs H0 H
end
end Lh
namespace Lh
open PySem L2
open Evl (Ex ex_l ex_t ex_rd fresh_back)
section
variable {M : Addr → Prop} {Γ Γ' : Ct} {Rs : List Res} {X : Cx} {Z0 Z Hl : Hp} {D : Ends} {K : PySem.W.Frag} {rest : List Stmt}
/-- for tg in iter: body; rest. J: the loop's word, by the turn -/
theorem xs_for {tg iter : Expr} {body : List Stmt} {Qs : List Pd} {pos : Pos} (hp : PassesOwn (model X.prog X.w) X.A X.env X.xe) (hi : XI M Γ Rs X tg iter Qs) (J : Nat → Ct → List Res → Prop) (h0 : J 0 Γ Rs)
    (hg : ∃ g, PG X tg g ∧ ∀ (i : Nat) (Q : Pd) (Γ1 : Ct) (Rs1 : List Res), Qs[i]? = some Q → J i Γ1 Rs1 → ∃ Γ2, (∀ (v : V) (σ : L2.St) (H0 H : Hp), Sl Γ1 σ H0 → Ex H0 H → Q.p v H0 → ∀ R : L2.St → Hp → Prop, (∀ σ', Sl Γ2 σ' H0 → R σ' H) → g v σ H R) ∧
      ∀ Hs, XS M Γ2 Rs1 X Z0 Z Hs { D with nx := KJ M Z0 Z Hs J (i + 1), ct := KJ M Z0 Z Hs J (i + 1), bk := wpB X rest D } body)
    (hd : ∀ Γ1 Rs1, J Qs.length Γ1 Rs1 → XS M Γ1 Rs1 X Z0 Z Hl D rest) (hc : X.calm = true := by rfl) (hs : ∀ x, foldedSetIterable iter X.env x = pure x := by intro _; rfl) : XS M Γ Rs X Z0 Z Hl D (.For tg iter body [] pos :: rest) := by
  obtain ⟨g, hg, hb⟩ := hg
  refine xs_cons (ps_for hp hc pi_wp hg pss_wp hs) fun σ H0 H l s b k => hi σ H0 H l s.le k _ fun I H1 G1 s1 k1 wk => ?_
  refine ⟨fun i m σ' G => m = Qs.length - i ∧ i ≤ Qs.length ∧ KJ M Z0 Z H1 J i σ' G, ⟨_, rfl, Nat.zero_le _, Γ, Rs, H1, h0, Ex.refl _, l.ex s1.ex, s.trans s1, k1⟩, ?_⟩
  rintro i m σ' G ⟨rfl, hi', Γ1, Rs1, H2, j, e2, l2, s2, k2⟩
  have w := wk H2 G e2 s2.le i
  by_cases hlt : i < Qs.length
  · obtain ⟨go, yl⟩ := w.1 _ (List.getElem?_eq_getElem hlt)
    refine .inr ⟨go, KJ M Z0 Z H1 J (i + 1), fun σ3 G3 h3 => ⟨Qs.length - (i + 1), by omega, rfl, hlt, h3⟩, fun x G3 y => ?_⟩
    obtain ⟨H3, s3, hx⟩ := yl x G3 y
    obtain ⟨Γ2, hv, hbody⟩ := hb i _ Γ1 Rs1 (List.getElem?_eq_getElem hlt) j
    refine hv x σ' H3 G3 (l2.ex s3.ex) s3.le hx _ fun σ4 l4 => ?_
    have hb2 := hbody H1 σ4 H3 G3 l4 (s2.trans s3.of0) (e2.trans s3.ex) (k2.step0 s3)
    exact hb2
  · have e : i = Qs.length := by omega
    subst e
    exact .inl ⟨w.2 rfl, hd Γ1 Rs1 j σ' H2 G l2 s2 ((b.trans s1.ex).trans e2) k2⟩
/-- at a turn's end -/
theorem xs_turn {J : Nat → Ct → List Res → Prop} {i : Nat} {Hs : Hp} {Γ1 : Ct} {Rs1 : List Res} (hn : ∀ σ H, KJ M Z0 Z Hs J i σ H → D.nx σ H) (h : J i Γ1 Rs1) : XS M Γ1 Rs1 X Z0 Z Hs D [] :=
  xs_nil fun σ H0 H l s b k => hn σ H ⟨Γ1, Rs1, H0, h, b, l, s, k⟩

/-! ### while -/
theorem xs_while {c : Expr} {body : List Stmt} {pos : Pos} (hp : PassesOwn (model X.prog X.w) X.A X.env X.xe) (J : Nat → Ct → List Res → Prop) (m0 : Nat) (h0 : J m0 Γ Rs)
    (hs : ∀ m Γ1 Rs1, J m Γ1 Rs1 → ∃ B, XT M Γ1 Rs1 X c B ∧ (B true → ∀ Hs, XS M Γ1 Rs1 X Z0 Z Hs { D with nx := fun σ H => ∃ m', m' < m ∧ KJ M Z0 Z Hs J m' σ H, ct := fun σ H => ∃ m', m' < m ∧ KJ M Z0 Z Hs J m' σ H, bk := wpB X rest D } body) ∧
      (B false → XS M Γ1 Rs1 X Z0 Z Hl D rest)) : XS M Γ Rs X Z0 Z Hl D (.While c body [] pos :: rest) := by
  refine xs_cons (ps_while hp pt_wp pss_wp) fun σ H0 H l s b k => ?_
  refine ⟨fun m σ' G => KJ M Z0 Z H0 J m σ' G, ⟨m0, Γ, Rs, H0, h0, Ex.refl _, l, s, k⟩, ?_⟩
  rintro m σ' G ⟨Γ1, Rs1, H2, j, e2, l2, s2, k2⟩
  obtain ⟨B, ht, hy, hn⟩ := hs m Γ1 Rs1 j
  refine ht σ' H2 G l2 s2.le k2 _ fun d H3 G3 s3 k3 hd => ?_
  cases d with
  | true =>
    refine ⟨fun σ3 G3 => ∃ m', m' < m ∧ KJ M Z0 Z H0 J m' σ3 G3, fun σ3 G3 h3 => h3, ?_⟩
    have q := hy hd H0 σ' H3 G3 (l2.ex s3.ex) (s2.trans s3) (e2.trans s3.ex) k3
    exact q
  | false => exact hn hd σ' H3 G3 (l2.ex s3.ex) (s2.trans s3) ((b.trans e2).trans s3.ex) k3
theorem xs_turnW {J : Nat → Ct → List Res → Prop} {m m' : Nat} {Hs : Hp} {Γ1 : Ct} {Rs1 : List Res} (hn : ∀ σ H, (∃ m', m' < m ∧ KJ M Z0 Z Hs J m' σ H) → D.nx σ H) (hm : m' < m) (h : J m' Γ1 Rs1) : XS M Γ1 Rs1 X Z0 Z Hs D [] :=
  xs_nil fun σ H0 H l s b k => hn σ H ⟨m', hm, Γ1, Rs1, H0, h, b, l, s, k⟩

/-! ### what a for goes over -/
theorem wk_list {a : Addr} {xs : List V} {ds : List PyData} {H0 : Hp} (h : SqL K H0 a xs) (hd : DdAll K H0 ds xs) : Wk (Itl K a) (ds.map (PD K)) H0 := fun H0' H e e' i => by
  refine ⟨fun Q q => ?_, fun q => ⟨xs, ex_l (e.trans e') h, by rw [hd.len]; exact Nat.le_of_eq (by simpa using q)⟩⟩
  rw [List.getElem?_map] at q
  cases hi : ds[i]? with
  | none =>
    rw [hi] at q
    cases q
  | some d =>
    rw [hi] at q
    have e1 : PD K d = Q := Option.some.inj q
    subst e1
    obtain ⟨v, h1, h2⟩ := hd.get hi
    refine ⟨⟨xs, v, ex_l (e.trans e') h, h1⟩, fun x H' ⟨y1, y2⟩ => ?_⟩
    have e2 : x = v := Option.some.inj ((y2 xs (ex_l (e.trans e') h)).symm.trans h1)
    subst e2 y1
    exact ⟨H0', Step.rfl e', Dd.ex e _ _ h2⟩
theorem wk_tup {a : Addr} {xs : List V} {ds : List PyData} {H0 : Hp} (h : SqT K H0 a xs) (hd : DdAll K H0 ds xs) : Wk (Itt K a) (ds.map (PD K)) H0 := fun H0' H e e' i => by
  refine ⟨fun Q q => ?_, fun q => ⟨xs, ex_t (e.trans e') h, by rw [hd.len]; exact Nat.le_of_eq (by simpa using q)⟩⟩
  rw [List.getElem?_map] at q
  cases hi : ds[i]? with
  | none =>
    rw [hi] at q
    cases q
  | some d =>
    rw [hi] at q
    have e1 : PD K d = Q := Option.some.inj q
    subst e1
    obtain ⟨v, h1, h2⟩ := hd.get hi
    refine ⟨⟨xs, v, ex_t (e.trans e') h, h1⟩, fun x H' ⟨y1, y2⟩ => ?_⟩
    have e2 : x = v := Option.some.inj ((y2 xs (ex_t (e.trans e') h)).symm.trans h1)
    subst e2 y1
    exact ⟨H0', Step.rfl e', Dd.ex e _ _ h2⟩
/-- lo, lo + 1, .. -/
def rgI (lo : Int) (n : Nat) : List Int := (List.range n).map fun (i : Nat) => lo + (i : Int)
theorem wk_range {lo : Int} {n : Nat} {H0 : Hp} : Wk (Itr lo n) ((li (rgI lo n)).map (PD K)) H0 := fun H0' H e e' i => by
  refine ⟨fun Q q => ?_, fun q => (show n ≤ i from Nat.le_of_eq (by simpa [rgI, li] using q))⟩
  by_cases hi : i < n
  · refine ⟨hi, fun x H' ⟨y1, y2⟩ => ?_⟩
    have e1 : PD K (.int (lo + (i : Int))) = Q := by simpa [rgI, li, hi] using q
    subst e1 y1
    exact ⟨H0', Step.rfl e', y2⟩
  · simp [rgI, li, hi] at q
theorem wk_rev {a : Addr} {xs : List V} {ds : List PyData} {H0 : Hp} (h : SqL K H0 a xs) (hd : DdAll K H0 ds xs) : Wk (Itv K a xs.length) (ds.reverse.map (PD K)) H0 := fun H0' H e e' i => by
  have hl := hd.len
  refine ⟨fun Q q => ?_, fun q => by show xs.length ≤ i; rw [hl]; exact Nat.le_of_eq (by simpa using q)⟩
  have hlt : i < ds.length := by
    have := (List.getElem?_eq_some_iff.mp q).1
    simpa using this
  have hi : ds[xs.length - 1 - i]? = some (ds[xs.length - 1 - i]'(by omega)) := List.getElem?_eq_getElem _
  have e1 : PD K (ds[xs.length - 1 - i]'(by omega)) = Q := by
    rw [List.getElem?_map, List.getElem?_reverse hlt] at q
    have e3 : ds.length - 1 - i = xs.length - 1 - i := by omega
    rw [e3, hi] at q
    exact Option.some.inj q
  subst e1
  obtain ⟨v, h1, h2⟩ := hd.get hi
  refine ⟨⟨by omega, xs, v, ex_l (e.trans e') h, h1⟩, fun x H' ⟨y1, y2⟩ => ?_⟩
  have e2 : x = v := Option.some.inj ((y2 xs (ex_l (e.trans e') h)).symm.trans h1)
  subst e2 y1
  exact ⟨H0', Step.rfl e', Dd.ex e _ _ h2⟩
/-- pairs in new tuples -/
def PT2 (K : PySem.W.Frag) (P Q : Pd) : Pd := ⟨fun v H => ∃ a x y, v = .ref a ∧ SqT K H a [x, y] ∧ P.p x H ∧ Q.p y H, fun e ⟨a, x, y, h1, h2, h3, h4⟩ => ⟨a, x, y, h1, ex_t e h2, P.m e h3, Q.m e h4⟩⟩
theorem wk_enum {a : Addr} {xs : List V} {ds : List PyData} {H0 : Hp} (h : SqL K H0 a xs) (hd : DdAll K H0 ds xs) : Wk (Ite K a) ((List.range ds.length).zipWith (fun i d => PT2 K (PD K (.int (i : Nat))) (PD K d)) ds) H0 := fun H0' H e e' i => by
  refine ⟨fun Q q => ?_, fun q => ⟨xs, ex_l (e.trans e') h, by rw [hd.len]; exact Nat.le_of_eq (by simpa using q)⟩⟩
  have hlt : i < ds.length := by
    have := (List.getElem?_eq_some_iff.mp q).1
    simpa using this
  have e1 : PT2 K (PD K (.int (i : Nat))) (PD K ds[i]) = Q := by
    simpa [List.getElem?_zipWith, hlt] using q
  subst e1
  obtain ⟨v, h1, h2⟩ := hd.get (List.getElem?_eq_getElem hlt)
  refine ⟨⟨xs, v, ex_l (e.trans e') h, h1⟩, fun x H' ⟨T, y, y1, y2, y3, y4⟩ => ?_⟩
  have e2 : y = v := Option.some.inj ((y4 xs (ex_l (e.trans e') h)).symm.trans h1)
  subst e2 y1 y3
  exact ⟨upd H0' T (.tup [.int (i : Nat), y]), Step.new e' y2, T, _, _, rfl, SqT.of upd_same, rfl, Dd.ex (e.trans (Ex.new (fresh_back e' y2))) _ _ h2⟩
theorem wk_zip {a b : Addr} {xs ys : List V} {ds es : List PyData} {H0 : Hp} (h : SqL K H0 a xs) (hd : DdAll K H0 ds xs) (h' : SqL K H0 b ys) (hd' : DdAll K H0 es ys) : Wk (Itz K a b) (ds.zipWith (fun d e => PT2 K (PD K d) (PD K e)) es) H0 := fun H0' H e e' i => by
  have l1 := hd.len
  have l2 := hd'.len
  refine ⟨fun Q q => ?_, fun q => ⟨xs, ys, ex_l (e.trans e') h, ex_l (e.trans e') h', by rw [List.length_zipWith] at q; omega⟩⟩
  have hlt : i < ds.length ∧ i < es.length := by
    have := (List.getElem?_eq_some_iff.mp q).1
    rw [List.length_zipWith] at this
    omega
  have e1 : PT2 K (PD K (ds[i]'hlt.1)) (PD K (es[i]'hlt.2)) = Q := by
    simpa [List.getElem?_zipWith, hlt.1, hlt.2] using q
  subst e1
  obtain ⟨v, h1, h2⟩ := hd.get (List.getElem?_eq_getElem hlt.1)
  obtain ⟨u, h3, h4⟩ := hd'.get (List.getElem?_eq_getElem hlt.2)
  refine ⟨⟨xs, ys, v, u, ex_l (e.trans e') h, ex_l (e.trans e') h', h1, h3⟩, fun x H' ⟨T, y, z, y1, y2, y3, y4, y5⟩ => ?_⟩
  have e2 : y = v := Option.some.inj ((y4 xs (ex_l (e.trans e') h)).symm.trans h1)
  have e3 : z = u := Option.some.inj ((y5 ys (ex_l (e.trans e') h')).symm.trans h3)
  subst e2 e3 y1 y3
  have x2 := e.trans (Ex.new (o := .tup [y, z]) (fresh_back e' y2))
  exact ⟨upd H0' T (.tup [y, z]), Step.new e' y2, T, _, _, rfl, SqT.of upd_same, Dd.ex x2 _ _ h2, Dd.ex x2 _ _ h4⟩
theorem xi_list {tg e : Expr} {ds : List PyData} (h : XE M Γ Rs X e (PD X.K (.list ds))) : XI M Γ Rs X tg e (ds.map (PD X.K)) := fun σ H0 H l ex k R r => PI.wp (pi_list pe_wp) (h σ H0 H l ex k _ fun v H1 G1 s1 k1 ⟨a, xs, e1, h1, h2⟩ =>
  ⟨a, e1, ⟨xs, ex_l s1.le (SqL.of h1)⟩, r _ H1 G1 s1 k1 (wk_list (SqL.of h1) h2)⟩)
theorem xi_tup {tg e : Expr} {ds : List PyData} (h : XE M Γ Rs X e (PD X.K (.tuple ds))) : XI M Γ Rs X tg e (ds.map (PD X.K)) := fun σ H0 H l ex k R r => PI.wp (pi_tup pe_wp) (h σ H0 H l ex k _ fun v H1 G1 s1 k1 ⟨a, xs, e1, h1, h2⟩ =>
  ⟨a, e1, ⟨xs, ex_t s1.le h1⟩, r _ H1 G1 s1 k1 (wk_tup h1 h2)⟩)
theorem xi_range1 {tg a : Expr} {p pos : Pos} {n : Int} (hm : X.mg "range" = none) (h : XE M Γ Rs X a (PD K (.int n))) (hn : -(2 ^ 62) ≤ n ∧ n < 2 ^ 62) (hg : Gl X "range" := by rfl) (hs : starEach [a] X.env = [(false, eval a X.env)] := by rfl) :
    XI M Γ Rs X tg (.Call (.Name "range" p) [a] [] pos) ((li (rgI 0 n.toNat)).map (PD K)) := fun σ H0 H l ex k R r => PI.wp (pi_range1 hg hm pa_wp hs) ((xa_1 (by exact h) (by exact hs)) σ H0 H l ex k _ fun vs H1 G1 s1 k1 a1 => by
  obtain ⟨v, w, e1, h1, h2⟩ := a1.inv
  have e2 := h2.nil_inv
  subst e1 e2
  have e3 : v = .int n := h1
  subst e3
  exact ⟨n, rfl, hn.1, hn.2, r _ H1 G1 s1 k1 wk_range⟩)
theorem xi_rev {tg e : Expr} {p pos : Pos} {ds : List PyData} (hm : X.mg "reversed" = none) (h : XE M Γ Rs X e (PD X.K (.list ds))) (hg : Gl X "reversed" := by rfl) (hs : starEach [e] X.env = [(false, eval e X.env)] := by rfl) :
    XI M Γ Rs X tg (.Call (.Name "reversed" p) [e] [] pos) (ds.reverse.map (PD X.K)) := fun σ H0 H l ex k R r => PI.wp (pi_reversed hg hm pa_wp hs) ((xa_1 h (by exact hs)) σ H0 H l ex k _ fun vs H1 G1 s1 k1 a1 => by
  obtain ⟨v, w, e1, ⟨a, xs, e3, h3, h4⟩, h2⟩ := a1.inv
  have e2 := h2.nil_inv
  subst e1 e2 e3
  exact ⟨a, xs, rfl, ex_l s1.le (SqL.of h3), r _ H1 G1 s1 k1 (wk_rev (SqL.of h3) h4)⟩)
theorem xi_enum {e : Expr} {p pos tpos : Pos} {elts : List Expr} {kk : Nat} {ds : List PyData} (hm : X.mg "enumerate" = none) (h : XE M Γ Rs X e (PD X.K (.list ds))) (hg : Gl X "enumerate" := by rfl) (hs : starEach [e] X.env = [(false, eval e X.env)] := by rfl) :
    XI M Γ Rs X (.Tuple elts kk tpos) (.Call (.Name "enumerate" p) [e] [] pos) ((List.range ds.length).zipWith (fun i d => PT2 X.K (PD X.K (.int (i : Nat))) (PD X.K d)) ds) := fun σ H0 H l ex k R r => PI.wp (pi_enum hg hm pa_wp hs) ((xa_1 h (by exact hs)) σ H0 H l ex k _ fun vs H1 G1 s1 k1 a1 => by
  obtain ⟨v, w, e1, ⟨a, xs, e3, h3, h4⟩, h2⟩ := a1.inv
  have e2 := h2.nil_inv
  subst e1 e2 e3
  exact ⟨a, xs, rfl, ex_l s1.le (SqL.of h3), r _ H1 G1 s1 k1 (wk_enum (SqL.of h3) h4)⟩)
theorem xi_zip {e e2 : Expr} {p pos tpos : Pos} {elts : List Expr} {kk : Nat} {ds es : List PyData} (hm : X.mg "zip" = none) (h : XE M Γ Rs X e (PD X.K (.list ds))) (h' : XE M Γ Rs X e2 (PD X.K (.list es))) (hg : Gl X "zip" := by rfl)
    (hs : starEach [e, e2] X.env = (false, eval e X.env) :: starEach [e2] X.env := by rfl) (hpl : (backTo pos (starEach [e2] X.env)).any (·.1) = false := by rfl) (hs2 : starEach [e2] X.env = (false, eval e2 X.env) :: starEach [] X.env := by rfl) :
    XI M Γ Rs X (.Tuple elts kk tpos) (.Call (.Name "zip" p) [e, e2] [] pos) (ds.zipWith (fun d e => PT2 X.K (PD X.K d) (PD X.K e)) es) := fun σ H0 H l ex k R r => PI.wp (pi_zip hg hm pa_wp hs hpl) ((xa_cons h (xa_1 h' hs2) hs) σ H0 H l ex k _ fun vs H1 G1 s1 k1 a1 => by
  obtain ⟨v, w, e1, ⟨a, xs, e3, h3, h4⟩, h2⟩ := a1.inv
  obtain ⟨u, w', e5, ⟨b, ys, e6, h6, h7⟩, h8⟩ := h2.inv
  have e2 := h8.nil_inv
  subst e1 e5 e2 e3 e6
  exact ⟨a, b, xs, ys, rfl, ex_l s1.le (SqL.of h3), ex_l s1.le (SqL.of h6), r _ H1 G1 s1 k1 (wk_zip (SqL.of h3) h4 (SqL.of h6) h7)⟩)
/-! ### targets -/
abbrev GV (g : TG) (Q : Pd) (Γ1 Γ2 : Ct) : Prop := ∀ (v : V) (σ : L2.St) (H0 H : Hp), Sl Γ1 σ H0 → Ex H0 H → Q.p v H0 → ∀ R : L2.St → Hp → Prop, (∀ σ', Sl Γ2 σ' H0 → R σ' H) → g v σ H R
theorem gv_name {i : Nat} {Q : Pd} : GV (gName i) Q Γ (Γ.set i (some Q)) := fun v σ H0 H l e h R r => r _ (l.set h)
theorem gv_pair {i j : Nat} {P Q : Pd} : GV (gTup K 2 (gCons (gName i) (gCons (gName j) gNil))) (PT2 K P Q) Γ ((Γ.set i (some P)).set j (some Q)) := fun v σ H0 H l e ⟨a, x, y, h1, h2, h3, h4⟩ R r =>
  ⟨a, [x, y], h1, ex_t e h2, rfl, x, [y], rfl, y, [], rfl, rfl, r _ ((l.set h3).set h4)⟩
/-- for x in iter, x the i-th name -/
theorem xs_forN (i : Nat) {x : Str} {iter : Expr} {body : List Stmt} {Qs : List Pd} {pos xp : Pos} (hi : XI M Γ Rs X (.Name x xp) iter Qs) (J : Nat → Ct → List Res → Prop) (h0 : J 0 Γ Rs)
    (hb : ∀ (t : Nat) (Q : Pd) (Γ1 : Ct) (Rs1 : List Res), Qs[t]? = some Q → J t Γ1 Rs1 → ∀ Hs, XS M (Γ1.set i (some Q)) Rs1 X Z0 Z Hs { D with nx := KJ M Z0 Z Hs J (t + 1), ct := KJ M Z0 Z Hs J (t + 1), bk := wpB X rest D } body)
    (hd : ∀ Γ1 Rs1, J Qs.length Γ1 Rs1 → XS M Γ1 Rs1 X Z0 Z Hl D rest) (hN : X.N.Nodup) (hp : PassesOwn (model X.prog X.w) X.A X.env X.xe := by exact PassesOwn.never) (hx : X.N[i]? = some x := by rfl) (hl : Loc X.env.scope x := by first | exact Or.inl rfl | exact Or.inr rfl)
    (hf : X.fn x = true ∨ X.env.scope.names.lookup x = some .local := by first | exact .inl rfl | exact .inr rfl) (hc : X.calm = true := by rfl) (hs : ∀ x, foldedSetIterable iter X.env x = pure x := by intro _; rfl) : XS M Γ Rs X Z0 Z Hl D (.For (.Name x xp) iter body [] pos :: rest) :=
  xs_for hp hi J h0 ⟨gName i, pg_name hN hx hl hf, fun t Q Γ1 Rs1 hq j => ⟨_, gv_name, hb t Q Γ1 Rs1 hq j⟩⟩ hd hc hs
/-- for x, y in iter -/
theorem xs_forP (i j : Nat) {x y : Str} {iter : Expr} {body : List Stmt} {pos xp yp tp : Pos} {kt : Nat} {Qs : List Pd} (hi : XI M Γ Rs X (.Tuple [.Name x xp, .Name y yp] kt tp) iter Qs) (J : Nat → Ct → List Res → Prop) (h0 : J 0 Γ Rs)
    (hb : ∀ (t : Nat) (Q : Pd) (Γ1 : Ct) (Rs1 : List Res), Qs[t]? = some Q → J t Γ1 Rs1 → ∃ P1 P2, Q = PT2 X.K P1 P2 ∧ ∀ Hs, XS M ((Γ1.set i (some P1)).set j (some P2)) Rs1 X Z0 Z Hs { D with nx := KJ M Z0 Z Hs J (t + 1), ct := KJ M Z0 Z Hs J (t + 1), bk := wpB X rest D } body)
    (hd : ∀ Γ1 Rs1, J Qs.length Γ1 Rs1 → XS M Γ1 Rs1 X Z0 Z Hl D rest) (hN : X.N.Nodup) (hp : PassesOwn (model X.prog X.w) X.A X.env X.xe := by exact PassesOwn.never) (hx : X.N[i]? = some x := by rfl) (hy : X.N[j]? = some y := by rfl) (hl : Loc X.env.scope x := by first | exact Or.inl rfl | exact Or.inr rfl) (hl2 : Loc X.env.scope y := by first | exact Or.inl rfl | exact Or.inr rfl)
    (hf : X.fn x = true ∨ X.env.scope.names.lookup x = some .local := by first | exact .inl rfl | exact .inr rfl) (hf2 : X.fn y = true ∨ X.env.scope.names.lookup y = some .local := by first | exact .inl rfl | exact .inr rfl) (hc : X.calm = true := by rfl) (hs : ∀ x, foldedSetIterable iter X.env x = pure x := by intro _; rfl) :
    XS M Γ Rs X Z0 Z Hl D (.For (.Tuple [.Name x xp, .Name y yp] kt tp) iter body [] pos :: rest) :=
  xs_for hp hi J h0 ⟨_, pg_tup hc (pgs_cons (pg_name hN hx hl hf) (pgs_cons (pg_name hN hy hl2 hf2) pgs_nil)), fun t Q Γ1 Rs1 hq j => by
    obtain ⟨P1, P2, e, h⟩ := hb t Q Γ1 Rs1 hq j
    subst e
    exact ⟨_, gv_pair, h⟩⟩ hd hc hs
end
end Lh
namespace Lh
open PySem L2
open Evl (Ex ex_l ex_t ex_rd fresh_back)
/-! ### calls of defs -/
/-- a promise: from things as pre tells, the lists Rs at hand, a thing as post tells; what is in M may have changed -/
def SpF {α : Type} (M : α → Addr → Prop) (Rs : α → List Res) (pre : α → List Pd) (post : α → Pd) : Sp := fun vs H Q _ => ∃ (x : α) (H0 : Hp), Ex H0 H ∧ Rok (Rs x) H0 H ∧ DAll (pre x) vs H0 ∧
  ∀ v H0' H', Step (M x) H0 H H0' H' → Rok (Rs x) H0' H' → (post x).p v H0' → Q v H'
abbrev SpP {α : Type} (pre : α → List Pd) (post : α → Pd) : Sp := SpF (fun _ => M0) (fun _ => []) pre post
section
variable {M : Addr → Prop} {Γ Γ' : Ct} {Rs : List Res} {X : Cx} {Z0 Z Hl : Hp} {D : Ends} {K : PySem.W.Frag} {rest : List Stmt}
/-- a call of a def that changes nothing -/
theorem xe_call {P' : Program} {w' : World} {K' : PySem.W.Frag} {mg' : Str → Option Value} {base' : Heap} {α : Type} {pre : α → List Pd} {post : α → Pd} {x : Str} {f : Addr} {fd : FuncData} {ps : List Str} {k : Nat} {e : Expr} {es : List Expr} {p pos : Pos} {Ps : List Pd} {C : Pd} (F : FnOk P' w' K' mg' base' CX0 k f fd ps (SpP pre post)) (hr : Room k X.A) (hm : mg' x = some (.ref f)) (hk : PySem.W.keepIn K' (.ref f) = true)
    (hb : Binds K' fd ps []) (ha : XA M Γ Rs X (e :: es) Ps) (hx : ∀ vs H, DAll Ps vs H → ∃ y, DAll (pre y) vs H ∧ ∀ v H, (post y).p v H → C.p v H) (hg : Gl X x := by rfl) (hdb : (x == ("__debug__" : Str)) = false := by decide)
    (he : starEach (e :: es) X.env = (false, eval e X.env) :: starEach es X.env := by rfl)
    (hpl : (backTo pos (starEach es X.env)).any (·.1) = false := by rfl) (eP : X.prog = P' := by rfl) (ew : X.w = w' := by rfl) (eK : X.K = K' := by rfl) (em : X.mg = mg' := by rfl) (eb : X.base = base' := by rfl) : XE M Γ Rs X (.Call (.Name x p) (e :: es) [] pos) C := by
  subst eP ew eK em eb
  exact YE.wp (pe_call F hr hg hm hk hb (dvs := []) .nil pass0 pa_wp hdb he hpl) fun σ H0 H l ex r Q q => ha σ H0 H l ex r _ fun vs H1 G1 s1 r1 a1 => by
    obtain ⟨y, h1, h2⟩ := hx vs H1 a1
    refine ⟨y, H1, s1.le, Rok.nil, by rw [List.append_nil]; exact h1, fun v H2 G2 s2 _ p2 => q v H2 G2 (s1.trans (s2.imp fun _ z => z.elim)) (r1.step0 s2) (h2 v H2 p2)⟩
theorem xe_callD {P' : Program} {w' : World} {K' : PySem.W.Frag} {mg' : Str → Option Value} {base' : Heap} {α : Type} {pre : α → List Pd} {post : α → Pd} {x : Str} {f : Addr} {fd : FuncData} {ps : List Str} {k : Nat} {e : Expr} {es : List Expr} {p pos : Pos} (F : FnOk P' w' K' mg' base' CX0 k f fd ps (SpP pre post)) (y : α) (hr : Room k X.A)
    (hm : mg' x = some (.ref f)) (hk : PySem.W.keepIn K' (.ref f) = true) (hb : Binds K' fd ps []) (ha : XA M Γ Rs X (e :: es) (pre y)) (hg : Gl X x := by rfl) (hdb : (x == ("__debug__" : Str)) = false := by decide)
    (he : starEach (e :: es) X.env = (false, eval e X.env) :: starEach es X.env := by rfl)
    (hpl : (backTo pos (starEach es X.env)).any (·.1) = false := by rfl)
    (eP : X.prog = P' := by rfl) (ew : X.w = w' := by rfl) (eK : X.K = K' := by rfl) (em : X.mg = mg' := by rfl) (eb : X.base = base' := by rfl) : XE M Γ Rs X (.Call (.Name x p) (e :: es) [] pos) (post y) :=
  xe_call F hr hm hk hb ha (fun vs H h => ⟨y, h, fun _ _ h => h⟩) hg hdb he hpl eP ew eK em eb
/-- a call of a def that changes the lists R1 (within M1), the first of those at hand -/
theorem xe_callM {P' : Program} {w' : World} {K' : PySem.W.Frag} {mg' : Str → Option Value} {base' : Heap} {α : Type} {M1 : α → Addr → Prop} {R1 : α → List Res} {pre : α → List Pd} {post : α → Pd} {x : Str} {f : Addr} {fd : FuncData} {ps : List Str} {k : Nat} {e : Expr} {es : List Expr} {p pos : Pos} {Ps : List Pd} {C : Pd} {r1 : Res} {Rs2 : List Res} (F : FnOk P' w' K' mg' base' CX0 k f fd ps (SpF M1 R1 pre post)) (hr : Room k X.A)
    (hm : mg' x = some (.ref f)) (hk : PySem.W.keepIn K' (.ref f) = true) (hb : Binds K' fd ps []) (ha : XA M Γ (r1 :: Rs2) X (e :: es) Ps) (hx : ∀ vs H, DAll Ps vs H → ∃ y, DAll (pre y) vs H ∧ R1 y = [r1] ∧ (∀ a, M1 y a → M a) ∧ (∀ a, M1 y a → a ∈ r1.ad) ∧ ∀ v H, (post y).p v H → C.p v H)
    (hg : Gl X x := by rfl) (hdb : (x == ("__debug__" : Str)) = false := by decide) (he : starEach (e :: es) X.env = (false, eval e X.env) :: starEach es X.env := by rfl) (hpl : (backTo pos (starEach es X.env)).any (·.1) = false := by rfl) (eP : X.prog = P' := by rfl) (ew : X.w = w' := by rfl) (eK : X.K = K' := by rfl) (em : X.mg = mg' := by rfl) (eb : X.base = base' := by rfl) : XE M Γ (r1 :: Rs2) X (.Call (.Name x p) (e :: es) [] pos) C := by
  subst eP ew eK em eb
  exact YE.wp (pe_call F hr hg hm hk hb (dvs := []) .nil pass0 pa_wp hdb he hpl) fun σ H0 H l ex r Q q => ha σ H0 H l ex r _ fun vs H1 G1 s1 k1 a1 => by
    obtain ⟨y, h1, h2, h3, h4, h5⟩ := hx vs H1 a1
    have nd : ∀ r ∈ Rs2, ∀ a ∈ r.ad, a ∉ r1.ad := fun r hr a ha hb => by
      have d := k1.1
      rw [List.flatMap_cons, List.nodup_append] at d
      exact d.2.2 a hb a (List.mem_flatMap.mpr ⟨r, hr, ha⟩) rfl
    refine ⟨y, H1, s1.le, ?_, by rw [List.append_nil]; exact h1, fun v H2 G2 s2 k2 p2 => ?_⟩
    · rw [h2]
      refine ⟨?_, fun r hr => k1.2 r (by rw [List.mem_singleton.mp hr]; exact List.mem_cons_self)⟩
      have d := k1.1
      rw [List.flatMap_cons, List.nodup_append] at d
      simpa using d.1
    · have k3 : Rok Rs2 H2 G2 := by
        have k1' : Rok Rs2 H1 G1 := ⟨by have d := k1.1; rw [List.flatMap_cons, List.nodup_append] at d; exact d.2.1, fun r hr => k1.2 r (List.mem_cons_of_mem _ hr)⟩
        exact k1'.step s2 fun r hr a ha hm => nd r hr a ha (h4 a hm)
      refine q v H2 G2 (s1.trans (s2.imp h3)) ⟨k1.1, fun r hr => ?_⟩ (h5 v H2 p2)
      rcases List.mem_cons.mp hr with e1 | hr
      · rw [e1]
        exact k2.2 r1 (by rw [h2]; exact List.mem_cons_self)
      · exact k3.2 r hr
end

/-! ### a def's promise by its body -/
section
variable {K : PySem.W.Frag} {mg : Str → Option Value} {base : Heap} {P : Program} {w : World}
/-- the slots at the beginning -/
def ctOf (N : List Str) (Ps : List Pd) : Ct := Ps.map some ++ List.replicate (N.length - Ps.length) none
theorem sl_start {N : List Str} {Ps : List Pd} {vs : List V} {H : Hp} (h : DAll Ps vs H) : Sl (ctOf N Ps) (L2.start N vs) H := by
  have e := h.1
  refine ⟨by simp [ctOf, L2.start, e], fun i P q => ?_⟩
  by_cases hi : i < Ps.length
  · unfold ctOf at q
    rw [List.getElem?_append_left (by simpa using hi), List.getElem?_map] at q
    cases hp : Ps[i]? with
    | none =>
      rw [hp] at q
      cases q
    | some P' =>
      rw [hp] at q
      have e1 : P' = P := Option.some.inj (Option.some.inj q)
      subst e1
      obtain ⟨v, h1, h2⟩ := h.2 i P' hp
      refine ⟨v, ?_, h2⟩
      unfold L2.start
      rw [List.getElem?_append_left (by simp [e]; exact hi), List.getElem?_map, h1]
      rfl
  · unfold ctOf at q
    rw [List.getElem?_append_right (by simpa using Nat.le_of_not_lt hi)] at q
    have := List.getElem?_replicate (n := N.length - Ps.length) (a := (none : Option Pd)) (i := i - (Ps.map some).length)
    rw [this] at q
    split at q
    · cases q
    · cases q
/-- what the walk of a body asks: the context, the promise's ends -/
theorem fn_F {α : Type} {M : α → Addr → Prop} {Rs : α → List Res} {pre : α → List Pd} {post : α → Pd} {x qual : Str} {st : Stmt} {f : Addr} {fd : FuncData} {N ps : List Str} {k : Nat} (F : Fun K x qual st f fd) (S : FnScope N ps (defScope st)) (len : ∀ y, (pre y).length = ps.length)
    (hb : ∀ (y : α) (Z0 Z : Hp) (Q : VK) (X : Cx) (qX : ∃ (cdv : Value) (A : Around) (outer : List Env) (s : Shared) (E : XK), X = (cxOf CX0 P w K mg base N qual (defScope st) f cdv A outer s Z E).nox ∧ Room k X.A), (∀ v H0' H', Step (M y) Z0 Z H0' H' → Rok (Rs y) H0' H' → (post y).p v H0' → Q v H') →
      XS (M y) (ctOf N (pre y)) (Rs y) X Z0 Z Z0 { nx := fun _ H' => Q .non H', rt := Q } (defBody st)) : FnOk P w K mg base CX0 (k + 1) f fd ps (SpF M Rs pre post) := by
  refine F.ok S (fun vs H Q E h => ?_) (fun cdv A outer s H vs Q E hr h => ?_)
  · obtain ⟨y, H0, _, _, h, _⟩ := h
    rw [h.1, len]
  · obtain ⟨y, H0, e, r, h, q⟩ := h
    refine ⟨_, pss_wp, ?_⟩
    exact hb y H0 H Q _ ⟨cdv, A, outer, s, E, rfl, hr⟩ q _ H0 H (sl_start h) (Step.rfl e) (Ex.refl _) r
end

/-! ### comprehensions -/
def wpEb (X : Cx) (scope : Scope) (e : Expr) : TE := fun σ H Q => ∀ (s0 : Shared) (H0 : Hp) (C : Addr) (cl : List (Str × Addr)) (fp : List Addr), wpE (X.blk s0 H0 scope (compEnvC scope cl C X.env) fp) e σ H Q
def wpTb (X : Cx) (scope : Scope) (e : Expr) : TT := fun σ H Q => ∀ (s0 : Shared) (H0 : Hp) (C : Addr) (cl : List (Str × Addr)) (fp : List Addr), wpT (X.blk s0 H0 scope (compEnvC scope cl C X.env) fp) e σ H Q
def wipeC (Γ : Ct) : List Nat → Ct
  | [] => Γ
  | v :: vs => (wipeC Γ vs).set v none
theorem Sl.forget {Γ : Ct} {σ : L2.St} {H : Hp} (h : Sl Γ σ H) (v : Nat) : Sl (Γ.set v none) (σ.set v none) H := by
  refine ⟨by simp [h.1], fun i P q => ?_⟩
  by_cases hi : v = i
  · subst hi
    by_cases hl : v < Γ.length
    · rw [List.getElem?_set_self hl] at q
      cases q
    · rw [List.getElem?_eq_none (by simpa using Nat.le_of_not_lt hl)] at q
      cases q
  · rw [List.getElem?_set_ne hi] at q
    obtain ⟨u, h1, h2⟩ := h.2 i P q
    exact ⟨u, by rw [List.getElem?_set_ne hi]; exact h1, h2⟩
theorem Sl.wipe {Γ : Ct} {σ : L2.St} {H : Hp} (h : Sl Γ σ H) : ∀ vs : List Nat, Sl (wipeC Γ vs) (L2.wipe σ vs) H
  | [] => h
  | v :: vs => (Sl.wipe h vs).forget v
/-- what may change stands in the heap -/
def Cov (M : Addr → Prop) (Rs : List Res) : Prop := ∀ H0 H, Rok Rs H0 H → ∀ a, M a → ∃ o, H a = some o
theorem cov0 {Rs : List Res} : Cov M0 Rs := fun _ _ _ _ z => z.elim
theorem Rok.wr {Rs : List Res} {A H : Hp} {p : Addr} {o : HO} (k : Rok Rs A H) (h : ∀ r ∈ Rs, ∀ a ∈ r.ad, a ≠ p) : Rok Rs A (upd H p o) := ⟨k.1, fun r hr => r.st (Ex.refl _) (fun a ha => (r.tr (k.2 r hr) a ha).2) (fun a ha => upd_ne (h r hr a ha)) (k.2 r hr)⟩
theorem Rok.updA {Rs : List Res} {A H : Hp} {p : Addr} {o : HO} (k : Rok Rs A H) (hp : A p = none) (h : ∀ r ∈ Rs, ∀ a ∈ r.ad, a ≠ p) : Rok Rs (upd A p o) H := ⟨k.1, fun r hr => r.st (Ex.new hp) (fun a ha => by rw [upd_ne (h r hr a ha)]; exact (r.tr (k.2 r hr) a ha).2) (fun a ha => rfl) (k.2 r hr)⟩
section
variable {M : Addr → Prop} {Γ Γ' : Ct} {Rs : List Res} {X : Cx} {Z0 Z Hl : Hp} {D : Ends} {K : PySem.W.Frag} {rest : List Stmt}
/-- the comprehension's word: the lists that may be made so far -/
theorem ye_lc {tg iter : Expr} {j : Nat} {tt : TT} {te : TE} {Qs : List Pd} (hi : XI M Γ Rs X tg iter Qs) (cv : Cov M Rs) (hz : Qs.length ≤ 100000) (R : Nat → List PyData → Prop) (r0 : R 0 [])
    (ht : ∀ (i : Nat) (Q : Pd), Qs[i]? = some Q → ∃ B, YT M ((wipeC Γ [j]).set j (some Q)) Rs tt B ∧ (B true → YE M ((wipeC Γ [j]).set j (some Q)) Rs te (PEx (fun d => ∀ ds, ds.length ≤ i → R i ds → R (i + 1) (ds ++ [d])) (PD K))) ∧ (B false → ∀ ds, R i ds → R (i + 1) ds)) :
    YE M Γ Rs (tLc (wpI X tg iter) (gName j) tt te [j]) (PEx (fun ds => R Qs.length ds ∧ ds.length ≤ Qs.length) fun ds => PD K (.list ds)) := fun σ H0 H l ex k Q q => hi σ H0 H l ex k _ fun J A0 G1 s1 k1 wk D hD => by
  have nr : ∀ r ∈ Rs, ∀ a ∈ r.ad, a ≠ D := fun r hr a ha e => by
    obtain ⟨⟨o, h1⟩, _⟩ := r.tr (k1.2 r hr) a ha
    rw [e, hD] at h1
    cases h1
  have nM : ¬ M D := fun z => by
    obtain ⟨o, h⟩ := cv A0 G1 k1 D z
    rw [hD] at h
    cases h
  refine ⟨fun i m G => m = Qs.length - i ∧ i ≤ Qs.length ∧ ∃ A acc ds, R i ds ∧ ds.length ≤ i ∧ Step M A0 G1 A G ∧ A D = none ∧ Rok Rs A G ∧ G D = some (.lst acc) ∧ DdAll K A ds acc, ⟨_, rfl, Nat.zero_le _, A0, [], [], r0, Nat.le_refl _, ?_, fresh_back s1.le hD, k1.wr nr, upd_same, rfl⟩, ?_⟩
  · exact ⟨fun a o _ h => by rw [upd_ne (ne_of_none h hD)]; exact h, fun a o h => ⟨o, by rw [upd_ne (ne_of_none h hD)]; exact h⟩, Ex.refl _, fun a o h => by rw [upd_ne (ne_of_none (s1.le a o h) hD)]; exact s1.le a o h, fun a o h => .inl h⟩
  · rintro i m G ⟨rfl, hi', A, acc, ds, hR, hlen, s2, aD, k2, gD, hdd⟩
    have w := wk A G s2.ex s2.le i
    by_cases hlt : i < Qs.length
    · have hq := List.getElem?_eq_getElem hlt
      obtain ⟨go, yl⟩ := w.1 _ hq
      obtain ⟨B, hB, hY, hN⟩ := ht i _ hq
      refine .inr ⟨go, fun G' => i + 1 ≤ Qs.length ∧ ∃ A acc ds, R (i + 1) ds ∧ ds.length ≤ i + 1 ∧ Step M A0 G1 A G' ∧ A D = none ∧ Rok Rs A G' ∧ G' D = some (.lst acc) ∧ DdAll K A ds acc, fun G' h => ⟨Qs.length - (i + 1), by omega, rfl, h⟩, fun x G2 y => ?_⟩
      obtain ⟨A2, s3, hx⟩ := yl x G2 y
      refine ⟨by simp [L2.wipe, List.set_set], ?_⟩
      have s12 := s2.trans s3.of0
      have nw : ∀ {A' G' : Hp}, Step M A G A' G' → A' D = none := fun {A' G'} s => by
        cases e : A' D with
        | none => rfl
        | some o =>
          rcases s.nw D o e with z | z
          · rw [aD] at z
            cases z
          · rw [gD] at z
            cases z
      have lΓ : Sl ((wipeC Γ [j]).set j (some Qs[i])) ((L2.wipe σ [j]).set j (some x)) A2 := (((l.ex s1.ex).ex (s2.ex.trans s3.ex)).wipe [j]).set hx
      refine hB _ A2 G2 lΓ s3.le (k2.step0 s3) _ fun b A3 G3 s4 k4 hb => ?_
      cases b with
      | true =>
        refine hY hb _ A3 G3 (lΓ.ex s4.ex) s4.le k4 _ fun v A4 G4 s5 k5 ⟨d, hd, hv⟩ => ?_
        have s35 : Step M A G A4 G4 := (s3.of0.trans s4).trans s5
        have g4 : G4 D = some (.lst acc) := s35.un D _ nM gD
        refine ⟨acc, g4, ?_, hlt, A4, acc ++ [v], ds ++ [d], hd ds hlen hR, by simp; omega, ?_, nw s35, k5.wr nr, upd_same, DdAll.app (DdAll.ex s35.ex _ _ hdd) (DdAll.one hv)⟩
        · rw [hdd.len]
          have : (100000 : Nat) < sizeLine := by decide
          omega
        · have t := s2.trans s35
          refine ⟨fun a o hm h => ?_, fun a o h => ?_, t.ex, fun a o h => ?_, t.nw⟩
          · rw [upd_ne (ne_of_none h hD)]
            exact t.un a o hm h
          · obtain ⟨o', h'⟩ := t.th a o h
            exact ⟨o', by rw [upd_ne (ne_of_none h hD)]; exact h'⟩
          · have na : a ≠ D := fun e => by
              rw [e, nw s35] at h
              cases h
            rw [upd_ne na]
            exact t.le a o h
      | false =>
        have s34 : Step M A G A3 G3 := s3.of0.trans s4
        exact ⟨hlt, A3, acc, ds, hN hb ds hR, by omega, s2.trans s34, nw s34, k4, s34.un D _ nM gD, DdAll.ex s34.ex _ _ hdd⟩
    · have e : i = Qs.length := by omega
      subst e
      refine .inl ⟨w.2 rfl, q (.ref D) (upd A D (.lst acc)) G ?_ (k2.updA aD nr) ⟨ds, ⟨hR, hlen⟩, D, acc, rfl, upd_same, DdAll.ex (Ex.new aD) _ _ hdd⟩⟩
      have t := s1.trans s2
      refine ⟨t.un, t.th, t.ex.trans (Ex.new aD), fun a o h => ?_, fun a o h => ?_⟩
      · by_cases ha : a = D
        · subst ha
          rw [upd_same] at h
          rw [gD]
          exact h
        · rw [upd_ne ha] at h
          exact t.le a o h
      · by_cases ha : a = D
        · subst ha
          refine .inr ?_
          cases e : H a with
          | none => rfl
          | some u =>
            obtain ⟨u', h'⟩ := s1.th a u e
            rw [hD] at h'
            cases h'
        · rw [upd_ne ha] at h
          exact t.nw a o h
theorem yt_yes : YT M Γ Rs tYes (Is true) := fun σ H0 H l e k Q q => q true H0 H (Step.rfl e) k rfl

theorem blk_ok {X : Cx} {e : Expr} {scope : Scope} : ∀ (s0 : Shared) (H0 : Hp) (C : Addr) (cl : List (Str × Addr)) (fp : List Addr), PE (X.blk s0 H0 scope (compEnvC scope cl C X.env) fp) e (wpEb X scope e) := fun s0 H0 C cl fp => ⟨fun pins s σ H Q I h => h s0 H0 C cl fp pins s I⟩
theorem blk_okT {X : Cx} {e : Expr} {scope : Scope} : ∀ (s0 : Shared) (H0 : Hp) (C : Addr) (cl : List (Str × Addr)) (fp : List Addr), PT (X.blk s0 H0 scope (compEnvC scope cl C X.env) fp) e (wpTb X scope e) := fun s0 H0 C cl fp => ⟨fun pins s σ H Q I h => h s0 H0 C cl fp pins s I⟩
/-- every block of the comprehension's scope -/
abbrev Blk (X : Cx) (scope : Scope) (Y : Cx → Prop) : Prop := ∀ (s0 : Shared) (H0 : Hp) (C : Addr) (cl : List (Str × Addr)) (fp : List Addr), Y (X.blk s0 H0 scope (compEnvC scope cl C X.env) fp)
theorem ye_blk {X : Cx} {e : Expr} {scope : Scope} {P : Pd} (h : Blk X scope fun Y => XE M Γ Rs Y e P) : YE M Γ Rs (wpEb X scope e) P := fun σ H0 H l ex k Q q s0 G0 C cl fp => h s0 G0 C cl fp σ H0 H l ex k Q q
theorem yt_blk {X : Cx} {e : Expr} {scope : Scope} {B : Bool → Prop} (h : Blk X scope fun Y => XT M Γ Rs Y e B) : YT M Γ Rs (wpTb X scope e) B := fun σ H0 H l ex k Q q s0 G0 C cl fp => h s0 G0 C cl fp σ H0 H l ex k Q q
abbrev blkG (Γ : Ct) (j : Nat) (Q : Pd) : Ct := (wipeC Γ [j]).set j (some Q)
/-- what the parts of [elt for x in iter if c] give -/
def LcIf (M : Addr → Prop) (Γ : Ct) (Rs : List Res) (X : Cx) (K : PySem.W.Frag) (scope : Scope) (j : Nat) (elt c : Expr) (Qs : List Pd) (R : Nat → List PyData → Prop) : Prop :=
  ∀ (i : Nat) (Q : Pd), Qs[i]? = some Q → ∃ B, (Blk X scope fun Y => XT M (blkG Γ j Q) Rs Y c B) ∧ (B true → Blk X scope fun Y => XE M (blkG Γ j Q) Rs Y elt (PEx (fun d => ∀ ds, ds.length ≤ i → R i ds → R (i + 1) (ds ++ [d])) (PD K))) ∧ (B false → ∀ ds, R i ds → R (i + 1) ds)
def LcAll (M : Addr → Prop) (Γ : Ct) (Rs : List Res) (X : Cx) (K : PySem.W.Frag) (scope : Scope) (j : Nat) (elt : Expr) (Qs : List Pd) (R : Nat → List PyData → Prop) : Prop :=
  ∀ (i : Nat) (Q : Pd), Qs[i]? = some Q → Blk X scope fun Y => XE M (blkG Γ j Q) Rs Y elt (PEx (fun d => ∀ ds, ds.length ≤ i → R i ds → R (i + 1) (ds ++ [d])) (PD K))
abbrev LcP (K : PySem.W.Frag) (Qs : List Pd) (R : Nat → List PyData → Prop) : Pd := PEx (fun ds => R Qs.length ds ∧ ds.length ≤ Qs.length) fun ds => PD K (.list ds)
theorem ye_lcIf (j : Nat) {tg iter elt c : Expr} {scope : Scope} {Qs : List Pd} (hi : XI M Γ Rs X tg iter Qs) (cv : Cov M Rs) (hz : Qs.length ≤ 100000) (R : Nat → List PyData → Prop) (r0 : R 0 []) (ht : LcIf M Γ Rs X K scope j elt c Qs R) :
    YE M Γ Rs (tLc (wpI X tg iter) (gName j) (wpTb X scope c) (wpEb X scope elt) [j]) (LcP K Qs R) := ye_lc hi cv hz R r0 fun i Q hq => by
  obtain ⟨B, h1, h2, h3⟩ := ht i Q hq
  exact ⟨B, yt_blk h1, fun hb => ye_blk (h2 hb), h3⟩
theorem ye_lcAll (j : Nat) {tg iter elt : Expr} {scope : Scope} {Qs : List Pd} (hi : XI M Γ Rs X tg iter Qs) (cv : Cov M Rs) (hz : Qs.length ≤ 100000) (R : Nat → List PyData → Prop) (r0 : R 0 []) (ht : LcAll M Γ Rs X K scope j elt Qs R) :
    YE M Γ Rs (tLc (wpI X tg iter) (gName j) tYes (wpEb X scope elt) [j]) (LcP K Qs R) := ye_lc hi cv hz R r0 fun i Q hq => ⟨Is true, yt_yes, fun _ => ye_blk (ht i Q hq), fun z => Bool.noConfusion z⟩
/-- the block's own name is stored -/
abbrev BlkG (X : Cx) (scope : Scope) (x : Str) (xp : Pos) (j : Nat) : Prop := ∀ (s : Shared) (H : Hp) (C : Addr) (cl : List (Str × Addr)) (fp : List Addr), PG (X.blk s H scope (compEnvC scope cl C X.env) fp) (.Name x xp) (gName j)
theorem xe_lcIf (j : Nat) {x : Str} {elt iter c : Expr} {scope : Scope} {pos xp : Pos} {Qs : List Pd} (hi : XI M Γ Rs X (.Name x xp) iter Qs) (R : Nat → List PyData → Prop) (r0 : R 0 []) (ht : LcIf M Γ Rs X K scope j elt c Qs R) (hN : X.N.Nodup)
    (ok : BlkOk X.N X.env.scope scope [(x, j)]) (hz : Qs.length ≤ 100000) (cv : Cov M Rs) (hg : BlkG X scope x xp j) (hc : X.calm = true := by rfl) (hs : ∀ x, foldedSetIterable iter X.env x = pure x := by intro _; rfl) :
    XE M Γ Rs X (.ListComp elt [⟨.Name x xp, iter, [c], 0⟩] scope pos) (LcP K Qs R) := YE.wp (pe_lc (own := [(x, j)]) hc hN pi_wp ok hg (fun s H C cl fp => pts_one (blk_okT s H C cl fp)) blk_ok hs) (ye_lcIf j hi cv hz R r0 ht)
theorem xe_lc (j : Nat) {x : Str} {elt iter : Expr} {scope : Scope} {pos xp : Pos} {Qs : List Pd} (hi : XI M Γ Rs X (.Name x xp) iter Qs) (R : Nat → List PyData → Prop) (r0 : R 0 []) (ht : LcAll M Γ Rs X K scope j elt Qs R) (hN : X.N.Nodup)
    (ok : BlkOk X.N X.env.scope scope [(x, j)]) (hz : Qs.length ≤ 100000) (cv : Cov M Rs) (hg : BlkG X scope x xp j) (hc : X.calm = true := by rfl) (hs : ∀ x, foldedSetIterable iter X.env x = pure x := by intro _; rfl) :
    XE M Γ Rs X (.ListComp elt [⟨.Name x xp, iter, [], 0⟩] scope pos) (LcP K Qs R) := YE.wp (pe_lc (own := [(x, j)]) hc hN pi_wp ok hg (fun s H C cl fp => pts_nil) blk_ok hs) (ye_lcAll j hi cv hz R r0 ht)
/-- y = [..] -/
theorem xs_asgT {i : Nat} {st : Stmt} {t : TE} {α : Type} {A : α → Prop} {P : α → Pd} (h : PS X st (tAsg t (gName i))) (y : YE M Γ Rs t (PEx A P)) (k : ∀ a, A a → XS M (Γ.set i (some (P a))) Rs X Z0 Z Hl D rest) : XS M Γ Rs X Z0 Z Hl D (st :: rest) :=
  xs_cons h fun σ H0 H l s b r => y σ H0 H l s.le r _ fun v H1 G1 s1 k1 ⟨a, ha, hv⟩ => k a ha _ H1 G1 ((l.ex s1.ex).set hv) (s.trans s1) (b.trans s1.ex) k1
theorem xs_lcIf (i j : Nat) {x y : Str} {elt iter c : Expr} {scope : Scope} {pos spos xp py : Pos} {Qs : List Pd} (hi : XI M Γ Rs X (.Name x xp) iter Qs) (R : Nat → List PyData → Prop) (r0 : R 0 []) (ht : LcIf M Γ Rs X K scope j elt c Qs R)
    (k : ∀ ds, R Qs.length ds ∧ ds.length ≤ Qs.length → XS M (Γ.set i (some (PD K (.list ds)))) Rs X Z0 Z Hl D rest) (hN : X.N.Nodup) (ok : BlkOk X.N X.env.scope scope [(x, j)]) (hz : Qs.length ≤ 100000) (cv : Cov M Rs) (hg : BlkG X scope x xp j)
    (hsw : swapsWith (.ListComp elt [⟨.Name x xp, iter, [c], 0⟩] scope pos) (some (.Name y py)) spos.line X.env = pure true) (hy : X.N[i]? = some y := by rfl) (hyl : X.env.scope.names.lookup y = some .local := by rfl) (hc : X.calm = true := by rfl) (hs : ∀ x, foldedSetIterable iter X.env x = pure x := by intro _; rfl) :
    XS M Γ Rs X Z0 Z Hl D (.Assign [.Name y py] (.ListComp elt [⟨.Name x xp, iter, [c], 0⟩] scope pos) spos :: rest) :=
  xs_asgT (ps_setLc (own := [(x, j)]) hc hN hy hyl hsw pi_wp ok hg (fun s H C cl fp => pts_one (blk_okT s H C cl fp)) blk_ok hs) (ye_lcIf j hi cv hz R r0 ht) k
end
end Lh
/-! sum of a tuple of ints; enumerate of a tuple; len of an own object. -/
namespace LhS
open L2 PyProof.Rows PySem PySem.Spec
section
variable {s : Shared} {E : Value → Shared → Prop} {A : Around} {w : World} {prog : Program}
theorem sumT_raw {t : Addr} {kids : List Value} {ns : List Int} {Q : Value → Shared → Prop} (hh : A.handled = none) (ht : s.heap.IsTuple t kids.toArray) (hInts : IntsAre kids ns)
    (h : ∀ h' tk t', (∀ b o, s.heap.get? b = some o → h'.get? b = some o) → Q (.int ns.sum t') { s with heap := h', toks := tk }) : wpAny (model prog w) A (call (.builtin "sum") [.ref t]) Q E s := by
  obtain ⟨xs, e⟩ := hInts.allInts.items
  have hn : numsOf (intItems xs).toList = ns := by rw [← e]; exact hInts.numsOf
  rw [nums_intItems] at hn
  rw [e] at ht
  have hlt : t < s.heap.objs.size := by obtain ⟨_, q, _⟩ := ht; exact Heap.lt_size q
  refine call_sum_walkG (wpAny_pyIter_tuple ht ?_)
  refine ⟨s.heap.objs.size, _, _, _, _, _, numAt xs, rfl, Walks.tuple (A := A.in1) hh _ t (Nat.ne_of_lt hlt) (intItems xs), ⟨⟨_, Heap.get?_push_size _ rfl, rfl, rfl⟩, ht.push _⟩, fun b inFp => ?_, fun _ _ => intItems_at, fun h' tk t' hk => ?_⟩
  · show _ < (s.heap.push _).objs.size
    rw [Heap.size_push]
    have eOr : b = s.heap.objs.size ∨ b = t := by simpa using inFp
    rcases eOr with eOr | eOr
    · rw [eOr]
      exact Nat.lt_succ_self _
    · rw [eOr]
      exact Nat.lt_succ_of_lt hlt
  · have q := h h' tk t' fun b o e => hk b o (fun hm => by
      have eOne : b = s.heap.objs.size := by simpa using hm
      exact absurd (eOne ▸ Heap.lt_size e) (Nat.lt_irrefl _)) (Heap.get?_push_of_some _ e)
    have ez : preSum (numAt xs) (intItems xs).size = ns.sum := by
      rw [preSum_eq, List.take_of_length_le (by simp [intItems]), hn]
    rw [ez]
    exact q
end
section
variable {X : Cx}
def rSumT (K : PySem.W.Frag) : List V → Hp → VK → Prop := fun argv H Q => ∃ (a : Addr) (ns : List Int), argv = [V.ref a] ∧ SqT K H a (ns.map V.int) ∧ Q (.int ns.sum) H
theorem cr_sumT (hc : X.calm = true) : CallR X (.builtin "sum") (rSumT X.K) := by
  intro pins s σ H argv us Q I r h
  obtain ⟨ad, ns, rfl, hs, q⟩ := h
  obtain ⟨kids, vk, hl, _⟩ := I.tuple hs
  obtain ⟨u, rfl, uRel⟩ := vals1 r
  have uRel' : u = Value.ref ad := uRel
  subst uRel'
  exact sumT_raw (I.ok.hd hc) hl (intsAre_of vk) fun h' tk t' hk => ⟨.int _, H, I.kept hk, ⟨_, rfl⟩, q⟩
/-- len of an own object: what kids __len__ promises -/
def rLenO (C : Addr) (sp : Sp) (E : XK) : List V → Hp → VK → Prop := fun argv H Q => ∃ a dx fs, argv = [V.ref a] ∧ H a = some (.ins C dx fs) ∧ sp [.ref a] H (fun v H' => ∃ n : Int, v = .int n ∧ 0 ≤ n ∧ n < 2 ^ 63 ∧ Q (.int n) H') E
theorem cr_lenO {CX : CXT} {k : Nat} {C f : Addr} {fd : FuncData} {ps : List Str} {sp : Sp} {E : XK} (fpH : PySem.W.findIn X.K (.ref C) "__len__" = some (some (.ref f))) (hInts : PySem.W.isFn X.K (.ref f) = true)
    (F : FnOk X.prog X.w X.K X.mg X.base CX k f fd ps sp) (hr : Room (k + 1) X.A) (inFp : Binds X.K fd ps []) (hx : Passes CX X.nox E) : CallR X (.builtin "len") (rLenO C sp E) := by
  intro pins s σ H argv us Q I r h
  obtain ⟨a, dx, fs, rfl, eIns, hsp⟩ := h
  obtain ⟨u, rfl, uRel⟩ := vals1 r
  have uRel' : u = Value.ref a := uRel
  subst uRel'
  obtain ⟨mA, own, _, _, _, _⟩ := ins_get I.hok eIns
  obtain ⟨od, J, _⟩ := own.look
  obtain ⟨m, Ff⟩ := I.fr
  refine PySem.W.len_K Ff I.ok.mod.kin J fpH hInts ?_
  have hl : ([Value.ref a] ++ ([] : List Value)).length = ps.length := by
    rw [← F.len _ _ _ _ hsp]
    rfl
  refine wpAny_call (codeAny_mono (F.run X.A.in1 X.stack s H ⟨[.ref a], []⟩ [.ref a] [.ref a] _ E hr.in1 I.env0.in1 (inFp _ [.ref a] I.kIn hl) (.cons rfl .nil) hsp) fun r s' hSq => ?_)
  cases r with
  | error er => exact False.elim (hx pins σ H s er s' (I.wish _) hSq)
  | ok fl =>
    cases fl with
    | ret u =>
      obtain ⟨v, H', I3, vk, n, ev, h0, h1, q3⟩ := I.after hSq
      subst ev
      obtain ⟨t, rfl⟩ := vk
      exact ⟨⟨h0, h1⟩, ⟨.int n, H', I3.tok _, ⟨_, rfl⟩, q3⟩⟩
    | next => exact False.elim hSq
    | brk => exact False.elim hSq
    | cont => exact False.elim hSq
end
end LhS

/-! ### enumerate of a tuple -/
namespace LhS
open L2 PyProof.Rows PySem PySem.Spec
section
variable {s : Shared} {E : Value → Shared → Prop} {A : Around} {w : World} {prog : Program}
theorem meets_enumT (t : Addr) (items : Array Value) (n : Nat) (dct : Option Addr) (sl : Array (Option Value)) :
    Meets (Builtin.«enumerate.__new__» ⟨[.type "enumerate", .ref t], []⟩) (fun _ R s => s.heap.get? t = some { cls := .type "tuple", dict := dct, data := .seq items n, slots := sl } ∧
      R (.ok (.ret (.ref (s.heap.push { cls := .type "tuple_iterator", data := .fields #[.ref t, .int 0 0] }).objs.size)))
        { s with heap := (s.heap.push { cls := .type "tuple_iterator", data := .fields #[.ref t, .int 0 0] }).push { cls := .type "enumerate", data := .fields #[.none, .bool false, .ref s.heap.objs.size, rawInt 0, .none, .none] } }) :=
  .of_wp fun _ _ _ R s h => by
    obtain ⟨hp, gl, dp, tk, os⟩ := s
    obtain ⟨hl, h⟩ := h
    have hsub := sub_enumerate
    have hT : Heap.IsTuple (Shared.heap ⟨hp, gl, dp, tk, os⟩) t items := ⟨_, hl, rfl, n, rfl⟩
    wp_walk using AutoSeq1.wpAny_loadPart' hl
    refine wpAny_stack_any fun _ => wpAny_pure ?_
    split
    · rename_i kind _ _ _ _ _
      cases (kind == Value.type "enumerate")
      · wp_walk using AutoSeq1.wpAny_loadPart' hl, wpAny_pyIter_tuple hT
        exact ⟨_, rfl, h⟩
      · wp_walk using AutoSeq1.wpAny_loadPart' hl, wpAny_pyIter_tuple hT
        exact ⟨_, rfl, h⟩
    · wp_walk using AutoSeq1.wpAny_loadPart' hl, wpAny_pyIter_tuple hT
      exact ⟨_, rfl, h⟩
theorem call_enumT {t : Addr} {items : Array Value} {Q : Value → Shared → Prop} (hT : s.heap.IsTuple t items)
    (h : ∀ h', IsEnum h' (s.heap.objs.size + 1) s.heap.objs.size 0 .none → h'.IsTupleIter s.heap.objs.size t 0 → (∀ b o, s.heap.get? b = some o → h'.get? b = some o) → Q (.ref (s.heap.objs.size + 1)) { s with heap := h' }) :
    wpAny (model prog w) A (call (.type "enumerate") [.ref t]) Q E s := by
  obtain ⟨⟨c, dct, dt, sl⟩, hl, hc, n, hd⟩ := hT
  have hc' : c = .type "tuple" := hc
  have hd' : dt = .seq items n := hd
  subst hc' hd'
  refine callType_new F.called_enumerate (by decide) (F.typeCall_enumerate_1 _) (F.newCall_enumerate_1 _) (fun obj => F.args_object_init_2 obj _) F.entry_enumerate_new (meets_enumT t items n dct sl) ⟨hl, ?_⟩
  have hz : (s.heap.push { cls := .type "tuple_iterator", data := .fields #[.ref t, .int 0 0] }).objs.size = s.heap.objs.size + 1 := Heap.size_push ..
  show _ ∧ _
  rw [hz]
  have q := Heap.get?_push_size (s.heap.push { cls := .type "tuple_iterator", data := .fields #[.ref t, .int 0 0] }) (o := { cls := .type "enumerate", data := .fields #[.none, .bool false, .ref s.heap.objs.size, rawInt 0, .none, .none] }) rfl
  rw [hz] at q
  exact ⟨⟨_, q, rfl⟩, h _ q ⟨_, Heap.get?_push_of_some _ (Heap.get?_push_size _ rfl), rfl, rfl⟩ fun b o x => Heap.get?_push_of_some _ (Heap.get?_push_of_some _ x)⟩
end
/-- the tuple at a as it stands, each item in a new pair -/
def IteT (K : PySem.W.Frag) (a : Addr) : It :=
  ⟨fun i H => ∃ (xs : List V) (x : V), SqT K H a xs ∧ xs[i]? = some x, fun i H v H' => ∃ T x, v = .ref T ∧ H T = none ∧ H' = upd H T (.tup [.int (i : Nat), x]) ∧ ∀ xs, SqT K H a xs → xs[i]? = some x, fun i H => ∃ xs : List V, SqT K H a xs ∧ xs.length = i⟩
theorem turn_enumT {P : Program} {w : World} {K : PySem.W.Frag} {elts : List Expr} {kk : Nat} {tpos : Pos} (a e it : Addr) (hai : a ≠ it) :
    Turn P w K (.Tuple elts kk tpos) (IteT K a) [e, it] e (fun i h => (∃ was, IsEnum h e it ((i : Nat) : Int) was) ∧ h.IsTupleIter it a i ∧ e ≠ it ∧ e ≠ a) where
  mem := by simp
  obj := fun i h now b inFp => by
    obtain ⟨⟨was, hEn⟩, ⟨o, ho, hc, hd⟩, _⟩ := now
    have eOr : b = e ∨ b = it := by simpa using inFp
    rcases eOr with z | z
    · rw [z]
      exact ⟨_, hEn, fun v q => nomatch q⟩
    · rw [z]
      exact ⟨o, ho, fun v q => by rw [hd] at q; cases q⟩
  keep := fun i h h' now k => by
    obtain ⟨⟨was, hEn⟩, hInts, nEI, nEA⟩ := now
    exact ⟨⟨was, k e (by simp) _ hEn⟩, hInts.at fun o q => k it (by simp) o q, nEI, nEA⟩
  item := by
    intro X hP hw hK hc i pins s σ H E I fpH now hg
    subst hP hw hK
    obtain ⟨⟨was, hEn⟩, hIt, nEI, nEA⟩ := now
    obtain ⟨xs, x, hSq, hx⟩ := hg
    obtain ⟨kids, vk, p, hz⟩ := I.tuple hSq
    obtain ⟨u, hu, uRel⟩ := vk.get hx
    have eIn : e < s.heap.objs.size := Heap.lt_size hEn
    have iIn : it < s.heap.objs.size := by obtain ⟨_, q, _⟩ := hIt; exact Heap.lt_size q
    have hh : X.A.in1.handled = none := I.ok.hd hc
    have hlen : i < kids.toArray.size := by
      have := (List.getElem?_eq_some_iff.mp hu).1
      simpa using this
    refine wpAny_pyNext_enum_itemD (Draws.tuple hh it a hai kids.toArray) hEn ⟨hIt, p⟩ hlen nEI (by simp [nEI, nEA]) fun y h' tk hy ho hs' hT hsz hk => ?_
    have ey : y = u := by
      have q : kids[i]? = some y := by simpa using hy
      rw [hu] at q
      exact Eq.symm (Option.some.inj q)
    subst ey
    refine ⟨_, rfl, wpAny_letOwnedTupleGo_enum (s := { s with heap := h', toks := tk + 1 }) ho fun h'' he' sb => ?_⟩
    have hT2 : h''.get? s.heap.objs.size = some { cls := .type "tuple", data := .seq #[.int i tk, y] } := (sb.2 _ (Nat.ne_of_gt eIn)).trans hT
    have laid : ObjOk X.prog X.w (upd H s.heap.objs.size (.tup [.int (i : Nat), x])) h'' s.heap.objs.size (.tup [.int (i : Nat), x]) :=
      ⟨by show 2 ≤ sizeLine; decide, [.int i tk, y], .cons ⟨_, rfl⟩ (.cons uRel .nil), ⟨_, hT2, rfl, _, rfl⟩⟩
    have I1 : Inv X pins σ (upd H s.heap.objs.size (.tup [.int (i : Nat), x])) { s with heap := h'', toks := tk + 1 } :=
      I.turnedNew (ch := [e, it]) (fun b ob inFp q => (sb.2 b (fun z => inFp (by simp [z]))).trans (hk b ob (fun z => inFp (by simp [z])) (fun z => inFp (by simp [z])) q)) fpH (Nat.le_refl _) laid
    refine ⟨.ref s.heap.objs.size, _, I1, rfl, ⟨_, x, rfl, I.hok.fresh (Nat.le_refl _), rfl, fun ys hy => by rw [I.tuple_inj hy hSq]; exact hx⟩, ⟨⟨y, ?_⟩, hs'.1.at fun o q => (sb.2 it (Ne.symm nEI)).trans q, nEI, nEA⟩, fun b inFp => ?_⟩
    · have eOne : ((i + 1 : Nat) : Int) = (i : Int) + 1 := by omega
      rw [eOne]; exact he'
    · have bIn : b < s.heap.objs.size := by
        have eOr : b = e ∨ b = it := by simpa using inFp
        rcases eOr with z | z
        · rw [z]; exact eIn
        · rw [z]; exact iIn
      rw [upd_ne (Nat.ne_of_lt bIn)]
      exact (fpH b inFp).1
  done := by
    intro X hP hw hK hc i pins s σ H E I fpH now hg
    subst hP hw hK
    obtain ⟨⟨was, hEn⟩, hIt, nEI, nEA⟩ := now
    obtain ⟨xs, hSq, hx⟩ := hg
    obtain ⟨kids, vk, p, hz⟩ := I.tuple hSq
    obtain ⟨f0, f1, f2, f3, f4, f5⟩ := fpH it (by simp)
    have hl := vk.length
    have hh : X.A.in1.handled = none := I.ok.hd hc
    have hn : i = kids.toArray.size := by
      rw [← hx, hl]
      simp
    subst hn
    exact wpAny_pyNext_enum_endD (Draws.tuple hh it a hai kids.toArray) hEn ⟨hIt, p⟩ fun h' eb => ⟨rfl, I.turned (t' := s.toks) (fun b o inFp q => eb b o inFp q) f0 f1 f3 f4 f5⟩
  self := fun A i s Q E now h => by
    obtain ⟨⟨_, hEn⟩, _⟩ := now
    exact wpAny_pyIter_enum hEn h
def iEnumT (K : PySem.W.Frag) (ta : TA) : TI := fun σ H R => ta σ H fun argv H1 => ∃ a xs, argv = [.ref a] ∧ SqT K H1 a xs ∧ R (IteT K a) H1
theorem pi_enumT {X : Cx} {e : Expr} {ta : TA} {p pos tpos : Pos} {elts : List Expr} {kk : Nat} (hg : Gl X "enumerate") (hm : X.mg "enumerate" = none) (ha : PA X [e] ta) (hs : starEach [e] X.env = [(false, eval e X.env)] := by rfl) :
    PI X (.Tuple elts kk tpos) (.Call (.Name "enumerate" p) [e] [] pos) (iEnumT X.K ta) := by
  constructor
  intro pins s σ H R I h
  refine Call_ (ld_blt I hg hm boot_enumerate (PyProof.Rows.callWith_type1 (thn (ha.run pos pins s σ H _ I h) fun us s1 ⟨argv, H1, I1, r1, q1⟩ => ?_) hs rfl))
  obtain ⟨a, xs, ex, hSq, q⟩ := q1
  subst ex
  obtain ⟨u, rfl, uRel⟩ := vals1 r1
  have uRel' : u = Value.ref a := uRel
  subst uRel'
  obtain ⟨kids, vk, p', hz⟩ := I1.tuple hSq
  have hal : a < s1.heap.objs.size := by obtain ⟨_, q, _⟩ := p'; exact Heap.lt_size q
  refine call_enumT (show s1.heap.IsTuple a kids.toArray from p') fun h' hEn hIt hk => wpAny_pyIter_enum hEn ?_
  have Inow : Inv X pins σ H1 { s1 with heap := h' } := I1.kept (t' := s1.toks) hk
  refine ⟨s1.heap.objs.size + 1, [s1.heap.objs.size + 1, s1.heap.objs.size], _, _, H1, rfl, Inow, turn_enumT a (s1.heap.objs.size + 1) s1.heap.objs.size (Nat.ne_of_lt hal), ⟨⟨.none, hEn⟩, hIt, Nat.succ_ne_self _, Nat.ne_of_gt (Nat.lt_succ_of_lt hal)⟩, fun b inFp => ?_, q⟩
  have leB : s1.heap.objs.size ≤ b := by
    have eOr : b = s1.heap.objs.size + 1 ∨ b = s1.heap.objs.size := by simpa using inFp
    rcases eOr with z | z
    · exact z ▸ Nat.le_succ _
    · exact z ▸ Nat.le_refl _
  exact I1.fpOk leB (I1.hok.fresh leB)
end LhS
namespace Lh
open PySem L2
open Evl (Ex ex_l ex_t ex_rd fresh_back)
theorem sl_big {n : Nat} (h : n ≤ 1000000) : n ≤ sizeLine := Nat.le_trans h (by decide)
/-! ### steps by values -/
section
variable {H0 H : Hp} {K : PySem.W.Frag} {x y : V}
theorem yl_I0 {g : Int → Int → V} {i j : Int} {d : PyData} (hd : ∀ H, Dd K H d (g i j)) (hx : Dd K H0 (.int i) x) (hy : Dd K H0 (.int j) y) (e : Ex H0 H) : Yld H0 H (PD K d) (rI0 g x y H) := Yld.val (z := g i j) e (hd H0) fun Q q => ⟨i, j, hx, hy, q⟩
theorem yl_I {C : Int → Int → Prop} {g : Int → Int → V} {i j : Int} {d : PyData} (hc : C i j) (hd : ∀ H, Dd K H d (g i j)) (hx : Dd K H0 (.int i) x) (hy : Dd K H0 (.int j) y) (e : Ex H0 H) : Yld H0 H (PD K d) (rI C g x y H) := Yld.val (z := g i j) e (hd H0) fun Q q => ⟨i, j, hx, hy, hc, q⟩
theorem Yld.pb {f : VK → Prop} {b : Bool} (h : Yld H0 H (PD K (.bool b)) f) : Yld H0 H (PB K (Is b)) f := fun Q q => h Q fun v A G s p => q v A G s ⟨b, rfl, p⟩
theorem dec_int' {i j : Int} : decide (V.int i = V.int j) = decide (i = j) := by
  by_cases h : i = j
  · subst h
    simp
  · rw [decide_eq_false h, decide_eq_false (fun e => h (V.int.inj e))]
theorem dec_str' {i j : Str} : decide (V.str i = V.str j) = decide (i = j) := by
  by_cases h : i = j
  · subst h
    simp
  · rw [decide_eq_false h, decide_eq_false (fun e => h (V.str.inj e))]
theorem dec_bl' {i j : Bool} : decide (V.bl i = V.bl j) = decide (i = j) := by
  by_cases h : i = j
  · subst h
    simp
  · rw [decide_eq_false h, decide_eq_false (fun e => h (V.bl.inj e))]
theorem yl_eqI {i j : Int} (hx : Dd K H0 (.int i) x) (hy : Dd K H0 (.int j) y) (e : Ex H0 H) : Yld H0 H (PD K (.bool (decide (i = j)))) (rEq x y H) := by
  have hx' : x = .int i := hx
  have hy' : y = .int j := hy
  subst hx' hy'
  exact Yld.val (z := .bl (decide (V.int i = V.int j))) e (by rw [dec_int']; rfl) fun Q q => ⟨rfl, q⟩
theorem yl_neI {i j : Int} (hx : Dd K H0 (.int i) x) (hy : Dd K H0 (.int j) y) (e : Ex H0 H) : Yld H0 H (PD K (.bool (!decide (i = j)))) (rNe x y H) := by
  have hx' : x = .int i := hx
  have hy' : y = .int j := hy
  subst hx' hy'
  exact Yld.val (z := .bl (!decide (V.int i = V.int j))) e (by rw [dec_int']; rfl) fun Q q => ⟨rfl, q⟩
theorem yl_eqS {i j : Str} (hx : Dd K H0 (.str i) x) (hy : Dd K H0 (.str j) y) (e : Ex H0 H) : Yld H0 H (PD K (.bool (decide (i = j)))) (rEq x y H) := by
  have hx' : x = .str i := hx
  have hy' : y = .str j := hy
  subst hx' hy'
  exact Yld.val (z := .bl (decide (V.str i = V.str j))) e (by rw [dec_str']; rfl) fun Q q => ⟨rfl, q⟩
theorem yl_neS {i j : Str} (hx : Dd K H0 (.str i) x) (hy : Dd K H0 (.str j) y) (e : Ex H0 H) : Yld H0 H (PD K (.bool (!decide (i = j)))) (rNe x y H) := by
  have hx' : x = .str i := hx
  have hy' : y = .str j := hy
  subst hx' hy'
  exact Yld.val (z := .bl (!decide (V.str i = V.str j))) e (by rw [dec_str']; rfl) fun Q q => ⟨rfl, q⟩
theorem yl_neB {i j : Bool} (hx : Dd K H0 (.bool i) x) (hy : Dd K H0 (.bool j) y) (e : Ex H0 H) : Yld H0 H (PD K (.bool (!decide (i = j)))) (rNe x y H) := by
  have hx' : x = .bl i := hx
  have hy' : y = .bl j := hy
  subst hx' hy'
  exact Yld.val (z := .bl (!decide (V.bl i = V.bl j))) e (by rw [dec_bl']; rfl) fun Q q => ⟨rfl, q⟩
theorem yl_eqD {d d' : PyData} (hs : SeqAt.shaped d = true) (hs' : SeqAt.shaped d' = true) (hx : Dd K H0 d x) (hy : Dd K H0 d' y) (e : Ex H0 H) : Yld H0 H (PD K (.bool (PyData.eqv d d'))) (rEqD K x y H) :=
  Yld.val (z := .bl (PyData.eqv d d')) e rfl fun Q q => ⟨d, d', Dd.dp d x (Dd.ex e _ _ hx), Dd.dp d' y (Dd.ex e _ _ hy), hs, hs', q⟩
theorem yl_neD {d d' : PyData} (hs : SeqAt.shaped d = true) (hs' : SeqAt.shaped d' = true) (hx : Dd K H0 d x) (hy : Dd K H0 d' y) (e : Ex H0 H) : Yld H0 H (PD K (.bool (!PyData.eqv d d'))) (rNeD K x y H) :=
  Yld.val (z := .bl (!PyData.eqv d d')) e rfl fun Q q => ⟨d, d', Dd.dp d x (Dd.ex e _ _ hx), Dd.dp d' y (Dd.ex e _ _ hy), hs, hs', q⟩
/-- in a list or a tuple of ints -/
theorem inV_ints (i : Int) : ∀ ns : List Int, inV (.int i) (ns.map V.int) = decide (i ∈ ns)
  | [] => rfl
  | n :: ns => by
    have h := inV_ints i ns
    unfold inV at h ⊢
    rw [List.map_cons, List.any_cons, h]
    show ((n == i) || decide (i ∈ ns)) = decide (i ∈ n :: ns)
    by_cases e : n = i
    · subst e
      simp
    · have e' : ¬ i = n := fun z => e z.symm
      simp [e, e']
theorem flat_ints (ns : List Int) : (ns.map V.int).all flatV = true := by
  rw [List.all_map, List.all_eq_true]
  exact fun _ _ => rfl
theorem yl_inL {i : Int} {ns : List Int} (hx : Dd K H0 (.int i) x) (hy : Dd K H0 (.list (li ns)) y) (e : Ex H0 H) : Yld H0 H (PD K (.bool (decide (i ∈ ns)))) (rIn K false x y H) := by
  obtain ⟨a, xs, ey, h1, h2⟩ := hy
  have hx' : x = .int i := hx
  have e2 := h2.ints
  subst hx' ey e2
  exact Yld.val (z := .bl (inV (.int i) (ns.map V.int))) e (by rw [inV_ints]; rfl) fun Q q => ⟨a, _, rfl, .inl (SqL.of (e _ _ h1)), rfl, flat_ints ns, q⟩
theorem yl_inT {i : Int} {ns : List Int} (hx : Dd K H0 (.int i) x) (hy : Dd K H0 (.tuple (li ns)) y) (e : Ex H0 H) : Yld H0 H (PD K (.bool (decide (i ∈ ns)))) (rIn K false x y H) := by
  obtain ⟨a, xs, ey, h1, h2⟩ := hy
  have hx' : x = .int i := hx
  have e2 := h2.ints
  subst hx' ey e2
  exact Yld.val (z := .bl (inV (.int i) (ns.map V.int))) e (by rw [inV_ints]; rfl) fun Q q => ⟨a, _, rfl, .inr (ex_t e h1), rfl, flat_ints ns, q⟩
theorem yl_niT {i : Int} {ns : List Int} (hx : Dd K H0 (.int i) x) (hy : Dd K H0 (.tuple (li ns)) y) (e : Ex H0 H) : Yld H0 H (PD K (.bool (!decide (i ∈ ns)))) (rIn K true x y H) := by
  obtain ⟨a, xs, ey, h1, h2⟩ := hy
  have hx' : x = .int i := hx
  have e2 := h2.ints
  subst hx' ey e2
  exact Yld.val (z := .bl (!inV (.int i) (ns.map V.int))) e (by rw [inV_ints]; rfl) fun Q q => ⟨a, _, rfl, .inr (ex_t e h1), rfl, flat_ints ns, q⟩
theorem atI_dd {ds : List PyData} {xs : List V} {i : Int} {d : PyData} (h : DdAll K H ds xs) (q : atI ds i = some d) : ∃ v, atI xs i = some v ∧ Dd K H d v := by
  unfold atI at q ⊢
  rw [h.len]
  cases e : ixN ds.length i with
  | none =>
    rw [e] at q
    cases q
  | some j =>
    rw [e] at q
    obtain ⟨v, h1, h2⟩ := h.get (i := j) q
    exact ⟨v, h1, h2⟩
theorem yl_ixL {ds : List PyData} {i : Int} {d : PyData} (q : atI ds i = some d) (hx : Dd K H0 (.list ds) x) (hy : Dd K H0 (.int i) y) (e : Ex H0 H) : Yld H0 H (PD K d) (rIxL K x y H) := by
  obtain ⟨a, xs, ex, h1, h2⟩ := hx
  obtain ⟨v, q1, q2⟩ := atI_dd h2 q
  exact Yld.val (z := v) e q2 fun Q q => ⟨a, xs, i, v, ex, hy, SqL.of (e _ _ h1), q1, q⟩
theorem yl_ixT {ds : List PyData} {i : Int} {d : PyData} (q : atI ds i = some d) (hx : Dd K H0 (.tuple ds) x) (hy : Dd K H0 (.int i) y) (e : Ex H0 H) : Yld H0 H (PD K d) (rIxT K x y H) := by
  obtain ⟨a, xs, ex, h1, h2⟩ := hx
  obtain ⟨v, q1, q2⟩ := atI_dd h2 q
  exact Yld.val (z := v) e q2 fun Q q => ⟨a, xs, i, v, ex, hy, ex_t e h1, q1, q⟩
theorem yl_catL {ds es : List PyData} (hz : ds.length + es.length ≤ 1000000) (hx : Dd K H0 (.list ds) x) (hy : Dd K H0 (.list es) y) (e : Ex H0 H) : Yld H0 H (PD K (.list (ds ++ es))) (rCat x y H) := by
  obtain ⟨a, xs, ex, h1, h2⟩ := hx
  obtain ⟨b, ys, ey, h3, h4⟩ := hy
  exact Yld.newL e (DdAll.app h2 h4) fun Q q => ⟨a, b, xs, ys, ex, ey, e _ _ h1, e _ _ h3, by rw [h2.len, h4.len]; exact sl_big hz, q⟩
theorem dd_rep {ds : List PyData} {xs : List V} (h : DdAll K H ds xs) : ∀ n : Nat, DdAll K H (List.replicate n ds).flatten (List.replicate n xs).flatten
  | 0 => rfl
  | n + 1 => by
    simp only [List.replicate_succ, List.flatten_cons]
    exact DdAll.app h (dd_rep h n)
theorem yl_repL {ds : List PyData} {k : Int} (hk : -(2 ^ 63) ≤ k ∧ k < 2 ^ 63) (hz : ds.length * k.toNat ≤ 1000000) (hx : Dd K H0 (.list ds) x) (hy : Dd K H0 (.int k) y) (e : Ex H0 H) : Yld H0 H (PD K (.list (List.replicate k.toNat ds).flatten)) (rRep x y H) := by
  obtain ⟨a, xs, ex, h1, h2⟩ := hx
  exact Yld.newL e (dd_rep h2 _) fun Q q => ⟨a, k, xs, ex, hy, e _ _ h1, hk.1, hk.2, by rw [h2.len]; exact sl_big hz, q⟩
theorem yl_catT {ds es : List PyData} (hz : ds.length + es.length ≤ 1000000) (hx : Dd K H0 (.tuple ds) x) (hy : Dd K H0 (.tuple es) y) (e : Ex H0 H) : Yld H0 H (PD K (.tuple (ds ++ es))) (rCatA K x y H) := fun Q q => by
  obtain ⟨a, xs, ex, h1, h2⟩ := hx
  obtain ⟨b, ys, ey, h3, h4⟩ := hy
  refine ⟨a, b, xs, ys, ex, ey, ex_t e h1, ex_t e h3, by rw [h2.len, h4.len]; exact sl_big hz, fun z => ?_, fun _ z => ?_, fun _ _ p hp => ?_⟩
  · subst z
    have e1 : ds = [] := List.length_eq_zero_iff.mp (by rw [← h2.len]; rfl)
    subst e1
    exact q _ H0 H (Step.rfl e) ⟨b, ys, rfl, h3, h4⟩
  · subst z
    have e1 : es = [] := List.length_eq_zero_iff.mp (by rw [← h4.len]; rfl)
    subst e1
    rw [List.append_nil] at q
    exact q _ H0 H (Step.rfl e) ⟨a, xs, rfl, h1, h2⟩
  · exact q _ _ _ (Step.new e hp) ⟨p, _, rfl, SqT.of upd_same, DdAll.ex (Ex.new (fresh_back e hp)) _ _ (DdAll.app h2 h4)⟩
end
section
variable {M : Addr → Prop} {Γ Γ' : Ct} {Rs : List Res} {X : Cx} {Z0 Z Hl : Hp} {D : Ends} {K : PySem.W.Frag} {rest : List Stmt} {a b c : Expr} {pos : Pos} {i j k : Int} {s t : Str} {u v : Bool}
theorem xe_add (ha : XE M Γ Rs X a (PD K (.int i))) (hb : XE M Γ Rs X b (PD K (.int j))) : XE M Γ Rs X (.BinOp a .Add b pos) (PD K (.int (i + j))) := xe_bin op_add ha hb fun x y H0 H hx hy e _ => yl_I0 (fun _ => rfl) hx hy e
theorem xe_sub (ha : XE M Γ Rs X a (PD K (.int i))) (hb : XE M Γ Rs X b (PD K (.int j))) : XE M Γ Rs X (.BinOp a .Sub b pos) (PD K (.int (i - j))) := xe_bin op_sub ha hb fun x y H0 H hx hy e _ => yl_I0 (fun _ => rfl) hx hy e
theorem xe_mul (ha : XE M Γ Rs X a (PD K (.int i))) (hb : XE M Γ Rs X b (PD K (.int j))) (h : CMulW i j) : XE M Γ Rs X (.BinOp a .Mult b pos) (PD K (.int (i * j))) := xe_bin op_mulW ha hb fun x y H0 H hx hy e _ => yl_I h (fun _ => rfl) hx hy e
theorem xe_fdiv (ha : XE M Γ Rs X a (PD K (.int i))) (hb : XE M Γ Rs X b (PD K (.int j))) (h : CDivW i j) : XE M Γ Rs X (.BinOp a .FloorDiv b pos) (PD K (.int (i / j))) := xe_bin op_fdivW ha hb fun x y H0 H hx hy e _ => yl_I h (fun _ => rfl) hx hy e
theorem xe_mod (ha : XE M Γ Rs X a (PD K (.int i))) (hb : XE M Γ Rs X b (PD K (.int j))) (h : 0 < j) : XE M Γ Rs X (.BinOp a .Mod b pos) (PD K (.int (i % j))) := xe_bin op_mod ha hb fun x y H0 H hx hy e _ => yl_I h (fun _ => rfl) hx hy e
theorem xe_neg (ha : XE M Γ Rs X a (PD K (.int i))) : XE M Γ Rs X (.UnaryOp .USub a pos) (PD K (.int (-i))) := xe_un un_neg ha fun x H0 H hx e _ => Yld.val (z := .int (-i)) e rfl fun Q q => ⟨i, hx, q⟩
theorem xe_gt (ha : XE M Γ Rs X a (PD K (.int i))) (hb : XE M Γ Rs X b (PD K (.int j))) : XE M Γ Rs X (.Compare a [.Gt] [b] pos) (PD K (.bool (decide (j < i)))) := xe_cmp op_gt ha hb (fun x y H0 H hx hy e _ => yl_I0 (fun _ => rfl) hx hy e) (nomark _)
theorem xe_eqI (ha : XE M Γ Rs X a (PD K (.int i))) (hb : XE M Γ Rs X b (PD K (.int j))) : XE M Γ Rs X (.Compare a [.Eq] [b] pos) (PD K (.bool (decide (i = j)))) := xe_cmp op_eq ha hb (fun x y H0 H hx hy e _ => yl_eqI hx hy e) (nomark _)
theorem xe_neS (ha : XE M Γ Rs X a (PD K (.str s))) (hb : XE M Γ Rs X b (PD K (.str t))) : XE M Γ Rs X (.Compare a [.NotEq] [b] pos) (PD K (.bool (!decide (s = t)))) := xe_cmp op_ne ha hb (fun x y H0 H hx hy e _ => yl_neS hx hy e) (nomark _)
theorem xt_lt (ha : XE M Γ Rs X a (PD K (.int i))) (hb : XE M Γ Rs X b (PD K (.int j))) : XT M Γ Rs X (.Compare a [.Lt] [b] pos) (Is (decide (i < j))) := xt_cmp (K := K) op_lt ha hb (fun x y H0 H hx hy e _ => (yl_I0 (g := fun i j => .bl (decide (i < j))) (d := .bool (decide (i < j))) (fun _ => rfl) hx hy e).pb) (nomark _)
theorem xt_le (ha : XE M Γ Rs X a (PD K (.int i))) (hb : XE M Γ Rs X b (PD K (.int j))) : XT M Γ Rs X (.Compare a [.LtE] [b] pos) (Is (decide (i ≤ j))) := xt_cmp (K := K) op_le ha hb (fun x y H0 H hx hy e _ => (yl_I0 (g := fun i j => .bl (decide (i ≤ j))) (d := .bool (decide (i ≤ j))) (fun _ => rfl) hx hy e).pb) (nomark _)
theorem xt_gt (ha : XE M Γ Rs X a (PD K (.int i))) (hb : XE M Γ Rs X b (PD K (.int j))) : XT M Γ Rs X (.Compare a [.Gt] [b] pos) (Is (decide (j < i))) := xt_cmp (K := K) op_gt ha hb (fun x y H0 H hx hy e _ => (yl_I0 (g := fun i j => .bl (decide (j < i))) (d := .bool (decide (j < i))) (fun _ => rfl) hx hy e).pb) (nomark _)
theorem xt_eqI (ha : XE M Γ Rs X a (PD K (.int i))) (hb : XE M Γ Rs X b (PD K (.int j))) : XT M Γ Rs X (.Compare a [.Eq] [b] pos) (Is (decide (i = j))) := xt_cmp (K := K) op_eq ha hb (fun x y H0 H hx hy e _ => (yl_eqI hx hy e).pb) (nomark _)
theorem xt_neI (ha : XE M Γ Rs X a (PD K (.int i))) (hb : XE M Γ Rs X b (PD K (.int j))) : XT M Γ Rs X (.Compare a [.NotEq] [b] pos) (Is (!decide (i = j))) := xt_cmp (K := K) op_ne ha hb (fun x y H0 H hx hy e _ => (yl_neI hx hy e).pb) (nomark _)
theorem xt_eqS (ha : XE M Γ Rs X a (PD K (.str s))) (hb : XE M Γ Rs X b (PD K (.str t))) : XT M Γ Rs X (.Compare a [.Eq] [b] pos) (Is (decide (s = t))) := xt_cmp (K := K) op_eq ha hb (fun x y H0 H hx hy e _ => (yl_eqS hx hy e).pb) (nomark _)
theorem xt_neB (ha : XE M Γ Rs X a (PD K (.bool u))) (hb : XE M Γ Rs X b (PD K (.bool v))) : XT M Γ Rs X (.Compare a [.NotEq] [b] pos) (Is (!decide (u = v))) := xt_cmp (K := K) op_ne ha hb (fun x y H0 H hx hy e _ => (yl_neB hx hy e).pb) (nomark _)
theorem room_u {n : Nat} (hr : Room n X.A) : X.A.units + 64 < cLine := by
  have := hr.un
  omega
theorem xe_eqD {d d' : PyData} {n : Nat} (hr : Room n X.A) (ha : XE M Γ Rs X a (PD X.K d)) (hb : XE M Γ Rs X b (PD X.K d')) (hs : SeqAt.shaped d = true) (hs' : SeqAt.shaped d' = true) : XE M Γ Rs X (.Compare a [.Eq] [b] pos) (PD X.K (.bool (PyData.eqv d d'))) := xe_cmp (op_eqD (room_u hr)) ha hb (fun x y H0 H hx hy e _ => yl_eqD hs hs' hx hy e) (nomark _)
theorem xt_neD {d d' : PyData} {n : Nat} (hr : Room n X.A) (ha : XE M Γ Rs X a (PD X.K d)) (hb : XE M Γ Rs X b (PD X.K d')) (hs : SeqAt.shaped d = true) (hs' : SeqAt.shaped d' = true) : XT M Γ Rs X (.Compare a [.NotEq] [b] pos) (Is (!PyData.eqv d d')) := xt_cmp (K := X.K) (op_neD (room_u hr)) ha hb (fun x y H0 H hx hy e _ => (yl_neD hs hs' hx hy e).pb) (nomark _)
theorem xe_inT {ns : List Int} (ha : XE M Γ Rs X a (PD X.K (.int i))) (hb : XE M Γ Rs X b (PD X.K (.tuple (li ns)))) (hm : behindInMarks .In b = false := by rfl) : XE M Γ Rs X (.Compare a [.In] [b] pos) (PD X.K (.bool (decide (i ∈ ns)))) := xe_cmp op_in_seq ha hb (fun x y H0 H hx hy e _ => yl_inT hx hy e) hm
theorem xt_inL {ns : List Int} (ha : XE M Γ Rs X a (PD X.K (.int i))) (hb : XE M Γ Rs X b (PD X.K (.list (li ns)))) (hm : behindInMarks .In b = false := by rfl) : XT M Γ Rs X (.Compare a [.In] [b] pos) (Is (decide (i ∈ ns))) := xt_cmp (K := X.K) op_in_seq ha hb (fun x y H0 H hx hy e _ => (yl_inL hx hy e).pb) hm
theorem xt_inT {ns : List Int} (ha : XE M Γ Rs X a (PD X.K (.int i))) (hb : XE M Γ Rs X b (PD X.K (.tuple (li ns)))) (hm : behindInMarks .In b = false := by rfl) : XT M Γ Rs X (.Compare a [.In] [b] pos) (Is (decide (i ∈ ns))) := xt_cmp (K := X.K) op_in_seq ha hb (fun x y H0 H hx hy e _ => (yl_inT hx hy e).pb) hm
theorem xt_niT {ns : List Int} (ha : XE M Γ Rs X a (PD X.K (.int i))) (hb : XE M Γ Rs X b (PD X.K (.tuple (li ns)))) (hm : behindInMarks .NotIn b = false := by rfl) : XT M Γ Rs X (.Compare a [.NotIn] [b] pos) (Is (!decide (i ∈ ns))) := xt_cmp (K := X.K) op_notIn_seq ha hb (fun x y H0 H hx hy e _ => (yl_niT hx hy e).pb) hm
/-! ### items, slices, sums of lists -/
theorem xe_ixL {ds : List PyData} {d : PyData} (ha : XE M Γ Rs X a (PD X.K (.list ds))) (hb : XE M Γ Rs X b (PD X.K (.int i))) (h : atI ds i = some d) (hs : PlainIx b := by exact fun _ _ => rfl) : XE M Γ Rs X (.Subscript a b pos) (PD X.K d) := YE.wp (pe_ix ix_list pe_wp pe_wp hs) (ye_op ha hb fun x y H0 H hx hy e _ => yl_ixL h hx hy e)
theorem xe_ixT {ds : List PyData} {d : PyData} (ha : XE M Γ Rs X a (PD X.K (.tuple ds))) (hb : XE M Γ Rs X b (PD X.K (.int i))) (h : atI ds i = some d) (hs : PlainIx b := by exact fun _ _ => rfl) : XE M Γ Rs X (.Subscript a b pos) (PD X.K d) := YE.wp (pe_ix ix_tup pe_wp pe_wp hs) (ye_op ha hb fun x y H0 H hx hy e _ => yl_ixT h hx hy e)
/-- at a place that is one of many -/
theorem xe_ixLE {ds : List PyData} {A : Int → Prop} {B : PyData → Prop} (ha : XE M Γ Rs X a (PD X.K (.list ds))) (hb : XE M Γ Rs X b (PEx A fun k => PD X.K (.int k))) (h : ∀ k, A k → ∃ d, atI ds k = some d ∧ B d) (hs : PlainIx b := by exact fun _ _ => rfl) : XE M Γ Rs X (.Subscript a b pos) (PEx B fun d => PD X.K d) :=
  YE.wp (pe_ix ix_list pe_wp pe_wp hs) (ye_op ha hb fun x y H0 H hx ⟨k, hk, hy⟩ e _ => by
    obtain ⟨d, h1, h2⟩ := h k hk
    exact fun Q q => yl_ixL h1 hx hy e Q fun v A G s p => q v A G s ⟨d, h2, p⟩)
theorem xe_catL {ds es : List PyData} (ha : XE M Γ Rs X a (PD K (.list ds))) (hb : XE M Γ Rs X b (PD K (.list es))) (hz : ds.length + es.length ≤ 1000000) : XE M Γ Rs X (.BinOp a .Add b pos) (PD K (.list (ds ++ es))) := xe_bin op_cat ha hb fun x y H0 H hx hy e _ => yl_catL hz hx hy e
theorem xe_catT {ds es : List PyData} (ha : XE M Γ Rs X a (PD X.K (.tuple ds))) (hb : XE M Γ Rs X b (PD X.K (.tuple es))) (hz : ds.length + es.length ≤ 1000000) : XE M Γ Rs X (.BinOp a .Add b pos) (PD X.K (.tuple (ds ++ es))) := xe_bin op_catA ha hb fun x y H0 H hx hy e _ => yl_catT hz hx hy e
theorem xe_repL {ds : List PyData} (ha : XE M Γ Rs X a (PD K (.list ds))) (hb : XE M Γ Rs X b (PD K (.int k))) (hk : -(2 ^ 63) ≤ k ∧ k < 2 ^ 63) (hz : ds.length * k.toNat ≤ 1000000) : XE M Γ Rs X (.BinOp a .Mult b pos) (PD K (.list (List.replicate k.toNat ds).flatten)) := xe_bin op_rep ha hb fun x y H0 H hx hy e _ => yl_repL hk hz hx hy e
/-- one argument -/
theorem da1 {P : Pd} {xs : List V} {H : Hp} (h : DAll [P] xs H) : ∃ x, xs = [x] ∧ P.p x H := by
  obtain ⟨x, r, e, h1, h2⟩ := h.inv
  have e2 := h2.nil_inv
  subst e e2
  exact ⟨x, rfl, h1⟩
theorem da2 {P Q : Pd} {xs : List V} {H : Hp} (h : DAll [P, Q] xs H) : ∃ x y, xs = [x, y] ∧ P.p x H ∧ Q.p y H := by
  obtain ⟨x, r, e, h1, h2⟩ := h.inv
  obtain ⟨y, e2, h3⟩ := da1 h2
  subst e e2
  exact ⟨x, y, rfl, h1, h3⟩
variable {p : Pos}
theorem xe_lenL {ds : List PyData} (hm : X.mg "len" = none) (h : XE M Γ Rs X a (PD X.K (.list ds))) (hg : Gl X "len" := by rfl) (he : starEach [a] X.env = (false, eval a X.env) :: starEach [] X.env := by rfl) : XE M Γ Rs X (.Call (.Name "len" p) [a] [] pos) (PD X.K (.int (ds.length : Int))) :=
  xe_callB call_len_seq hm PySem.boot_len (xa_1 h he) (fun xs H0 H hx e _ => by
    obtain ⟨x, e1, q, ys, e2, h1, h2⟩ := da1 hx
    subst e1 e2
    exact Yld.val (z := .int (ys.length : Int)) e (by rw [h2.len]; rfl) fun Q k => ⟨q, ys, rfl, .inl (SqL.of (e _ _ h1)), k⟩) hg (by decide) (by decide) he rfl
theorem xe_lenT {ds : List PyData} (hm : X.mg "len" = none) (h : XE M Γ Rs X a (PD X.K (.tuple ds))) (hg : Gl X "len" := by rfl) (he : starEach [a] X.env = (false, eval a X.env) :: starEach [] X.env := by rfl) : XE M Γ Rs X (.Call (.Name "len" p) [a] [] pos) (PD X.K (.int (ds.length : Int))) :=
  xe_callB call_len_seq hm PySem.boot_len (xa_1 h he) (fun xs H0 H hx e _ => by
    obtain ⟨x, e1, q, ys, e2, h1, h2⟩ := da1 hx
    subst e1 e2
    exact Yld.val (z := .int (ys.length : Int)) e (by rw [h2.len]; rfl) fun Q k => ⟨q, ys, rfl, .inr (ex_t e h1), k⟩) hg (by decide) (by decide) he rfl
theorem xe_intI (hm : X.mg "int" = none) (h : XE M Γ Rs X a (PD K (.int i))) (hg : Gl X "int" := by rfl) (he : starEach [a] X.env = (false, eval a X.env) :: starEach [] X.env := by rfl) : XE M Γ Rs X (.Call (.Name "int" p) [a] [] pos) (PD K (.int i)) :=
  xe_callTy call_int1 hm (by decide +kernel) (xa_1 h he) (fun xs H0 H hx e _ => by
    obtain ⟨x, e1, q⟩ := da1 hx
    have q' : x = .int i := q
    subst e1 q'
    exact Yld.val (z := .int i) e rfl fun Q k => .inl ⟨i, rfl, k⟩) hg (by decide) (by decide) he rfl
def b2n (b : Bool) : Int := if b then 1 else 0
theorem xe_intB (hm : X.mg "int" = none) (h : XE M Γ Rs X a (PD K (.bool u))) (hg : Gl X "int" := by rfl) (he : starEach [a] X.env = (false, eval a X.env) :: starEach [] X.env := by rfl) : XE M Γ Rs X (.Call (.Name "int" p) [a] [] pos) (PD K (.int (b2n u))) :=
  xe_callTy call_int1 hm (by decide +kernel) (xa_1 h he) (fun xs H0 H hx e _ => by
    obtain ⟨x, e1, q⟩ := da1 hx
    have q' : x = .bl u := q
    subst e1 q'
    exact Yld.val (z := .int (b2n u)) e rfl fun Q k => .inr ⟨u, rfl, k⟩) hg (by decide) (by decide) he rfl
theorem xe_sumL {ns : List Int} (hm : X.mg "sum" = none) (h : XE M Γ Rs X a (PD X.K (.list (li ns)))) (hc : X.calm = true := by rfl) (hg : Gl X "sum" := by rfl) (he : starEach [a] X.env = (false, eval a X.env) :: starEach [] X.env := by rfl) : XE M Γ Rs X (.Call (.Name "sum" p) [a] [] pos) (PD X.K (.int ns.sum)) :=
  xe_callB (cr_sum hc) hm (by decide +kernel) (xa_1 h he) (fun xs H0 H hx e _ => by
    obtain ⟨x, e1, q, ys, e2, h1, h2⟩ := da1 hx
    have e3 := h2.ints
    subst e1 e2 e3
    exact Yld.val (z := .int ns.sum) e rfl fun Q k => ⟨q, ns, rfl, SqL.of (e _ _ h1), k⟩) hg (by decide) (by decide) he rfl
theorem xe_sumT {ns : List Int} (hm : X.mg "sum" = none) (h : XE M Γ Rs X a (PD X.K (.tuple (li ns)))) (hc : X.calm = true := by rfl) (hg : Gl X "sum" := by rfl) (he : starEach [a] X.env = (false, eval a X.env) :: starEach [] X.env := by rfl) : XE M Γ Rs X (.Call (.Name "sum" p) [a] [] pos) (PD X.K (.int ns.sum)) :=
  xe_callB (LhS.cr_sumT hc) hm (by decide +kernel) (xa_1 h he) (fun xs H0 H hx e _ => by
    obtain ⟨x, e1, q, ys, e2, h1, h2⟩ := da1 hx
    have e3 := h2.ints
    subst e1 e2 e3
    exact Yld.val (z := .int ns.sum) e rfl fun Q k => ⟨q, ns, rfl, ex_t e h1, k⟩) hg (by decide) (by decide) he rfl
theorem xe_min2 (hm : X.mg "min" = none) (h : XE M Γ Rs X a (PD K (.int i))) (h' : XE M Γ Rs X b (PD K (.int j))) (hc : X.calm = true := by rfl) (hg : Gl X "min" := by rfl) (he : starEach [a, b] X.env = (false, eval a X.env) :: starEach [b] X.env := by rfl) (he2 : starEach [b] X.env = (false, eval b X.env) :: starEach [] X.env := by rfl) (hpl : (backTo pos (starEach [b] X.env)).any (·.1) = false := by rfl) :
    XE M Γ Rs X (.Call (.Name "min" p) [a, b] [] pos) (PD K (.int (min i j))) :=
  xe_callB (call_min2 hc) hm (by decide +kernel) (xa_cons h (xa_1 h' he2) he) (fun xs H0 H hx e _ => by
    obtain ⟨x, y, e1, q1, q2⟩ := da2 hx
    have q1' : x = .int i := q1
    have q2' : y = .int j := q2
    subst e1 q1' q2'
    have z : (if j < i then j else i) = min i j := by omega
    exact Yld.val (z := .int (min i j)) e rfl fun Q k => ⟨i, j, rfl, by rw [z]; exact k⟩) hg (by decide) (by decide) he hpl
theorem xe_max2 (hm : X.mg "max" = none) (h : XE M Γ Rs X a (PD K (.int i))) (h' : XE M Γ Rs X b (PD K (.int j))) (hc : X.calm = true := by rfl) (hg : Gl X "max" := by rfl) (he : starEach [a, b] X.env = (false, eval a X.env) :: starEach [b] X.env := by rfl) (he2 : starEach [b] X.env = (false, eval b X.env) :: starEach [] X.env := by rfl) (hpl : (backTo pos (starEach [b] X.env)).any (·.1) = false := by rfl) :
    XE M Γ Rs X (.Call (.Name "max" p) [a, b] [] pos) (PD K (.int (max i j))) :=
  xe_callB (call_max2 hc) hm (by decide +kernel) (xa_cons h (xa_1 h' he2) he) (fun xs H0 H hx e _ => by
    obtain ⟨x, y, e1, q1, q2⟩ := da2 hx
    have q1' : x = .int i := q1
    have q2' : y = .int j := q2
    subst e1 q1' q2'
    have z : (if j > i then j else i) = max i j := by omega
    exact Yld.val (z := .int (max i j)) e rfl fun Q k => ⟨i, j, rfl, by rw [z]; exact k⟩) hg (by decide) (by decide) he hpl
theorem xe_listL {ds : List PyData} (hm : X.mg "list" = none) (h : XE M Γ Rs X a (PD X.K (.list ds))) (hg : Gl X "list" := by rfl) (he : starEach [a] X.env = (false, eval a X.env) :: starEach [] X.env := by rfl) : XE M Γ Rs X (.Call (.Name "list" p) [a] [] pos) (PD X.K (.list ds)) :=
  xe_callTy call_list_of hm (by decide +kernel) (xa_1 h he) (fun xs H0 H hx e _ => by
    obtain ⟨x, e1, q, ys, e2, h1, h2⟩ := da1 hx
    subst e1 e2
    exact Yld.newL e h2 fun Q k => ⟨q, ys, rfl, .inl (SqL.of (e _ _ h1)), k⟩) hg (by decide) (by decide) he rfl
theorem xe_listT {ds : List PyData} (hm : X.mg "list" = none) (h : XE M Γ Rs X a (PD X.K (.tuple ds))) (hg : Gl X "list" := by rfl) (he : starEach [a] X.env = (false, eval a X.env) :: starEach [] X.env := by rfl) : XE M Γ Rs X (.Call (.Name "list" p) [a] [] pos) (PD X.K (.list ds)) :=
  xe_callTy call_list_of hm (by decide +kernel) (xa_1 h he) (fun xs H0 H hx e _ => by
    obtain ⟨x, e1, q, ys, e2, h1, h2⟩ := da1 hx
    subst e1 e2
    exact Yld.newL e h2 fun Q k => ⟨q, ys, rfl, .inr (ex_t e h1), k⟩) hg (by decide) (by decide) he rfl
theorem xe_tupL {ds : List PyData} (hm : X.mg "tuple" = none) (h : XE M Γ Rs X a (PD X.K (.list ds))) (hg : Gl X "tuple" := by rfl) (he : starEach [a] X.env = (false, eval a X.env) :: starEach [] X.env := by rfl) : XE M Γ Rs X (.Call (.Name "tuple" p) [a] [] pos) (PD X.K (.tuple ds)) :=
  xe_callTy call_tuple_of hm (by decide +kernel) (xa_1 h he) (fun xs H0 H hx e _ => by
    obtain ⟨x, e1, q, ys, e2, h1, h2⟩ := da1 hx
    subst e1 e2
    exact Yld.newT e h2 fun Q k => ⟨q, ys, rfl, .inl ⟨SqL.of (e _ _ h1), k⟩⟩) hg (by decide) (by decide) he rfl
theorem xe_tupT {ds : List PyData} (hm : X.mg "tuple" = none) (h : XE M Γ Rs X a (PD X.K (.tuple ds))) (hg : Gl X "tuple" := by rfl) (he : starEach [a] X.env = (false, eval a X.env) :: starEach [] X.env := by rfl) : XE M Γ Rs X (.Call (.Name "tuple" p) [a] [] pos) (PD X.K (.tuple ds)) :=
  xe_callTy call_tupleT hm (by decide +kernel) (xa_1 h he) (fun xs H0 H hx e _ => by
    obtain ⟨x, e1, q, ys, e2, h1, h2⟩ := da1 hx
    subst e1 e2
    exact Yld.val (z := .ref q) e ⟨q, ys, rfl, h1, h2⟩ fun Q k => ⟨q, ys, rfl, ex_t e h1, k⟩) hg (by decide) (by decide) he rfl
theorem xe_allL {bs : List Bool} (hm : X.mg "all" = none) (h : XE M Γ Rs X a (PD X.K (.list (bs.map PyData.bool)))) (hc : X.calm = true := by rfl) (hg : Gl X "all" := by rfl) (he : starEach [a] X.env = (false, eval a X.env) :: starEach [] X.env := by rfl) : XE M Γ Rs X (.Call (.Name "all" p) [a] [] pos) (PD X.K (.bool (bs.all id))) :=
  xe_callB (cr_all hc) hm (by decide +kernel) (xa_1 h he) (fun xs H0 H hx e _ => by
    obtain ⟨x, e1, q, ys, e2, h1, h2⟩ := da1 hx
    have bl : ∀ (bs : List Bool) (ys : List V), DdAll X.K H0 (bs.map PyData.bool) ys → ys = bs.map V.bl := fun bs => by
      induction bs with
      | nil => exact fun ys h => h
      | cons b bs ih =>
        rintro ys ⟨x, r, h1, h2, h3⟩
        have e : x = V.bl b := h2
        subst h1
        rw [e, ih r h3]
        rfl
    have e3 := bl bs ys h2
    subst e1 e2 e3
    exact Yld.val (z := .bl (bs.all id)) e rfl fun Q k => ⟨q, bs, rfl, SqL.of (e _ _ h1), k⟩) hg (by decide) (by decide) he rfl
theorem rgV_eq (n : Int) : rgV 0 n = (rgI 0 n.toNat).map V.int := by
  unfold rgV rgI
  rw [List.map_map, Int.sub_zero]
  rfl
theorem xe_listRg {n : Int} {p2 pos2 : Pos} (hm : X.mg "list" = none) (hm2 : X.mg "range" = none) (h : XE M Γ Rs X a (PD X.K (.int n))) (hn : 0 ≤ n ∧ n ≤ 1000000) (hc : X.calm = true := by rfl) (hg : Gl X "list" := by rfl) (hg2 : Gl X "range" := by rfl) (he : starEach [a] X.env = (false, eval a X.env) :: starEach [] X.env := by rfl)
    (he2 : starEach [.Call (.Name "range" p2) [a] [] pos2] X.env = (false, eval (.Call (.Name "range" p2) [a] [] pos2) X.env) :: starEach [] X.env := by rfl) : XE M Γ Rs X (.Call (.Name "list" p) [.Call (.Name "range" p2) [a] [] pos2] [] pos) (PD X.K (.list (li (rgI 0 n.toNat)))) :=
  YE.wp (pe_listRg hc hg hm (prg_1 hg2 hm2 pe_wp he) he2) fun σ H0 H l e k Q q => h σ H0 H l e k _ fun v H1 G1 s1 k1 hv => ⟨n, hv, RgOk.of_le (by omega) (by omega) (by omega) (by omega), fun d hd => by
    rw [rgV_eq]
    exact q _ (upd H1 d (.lst ((rgI 0 n.toNat).map V.int))) _ (s1.trans (Step.new s1.le hd)) (k1.step0 (Step.new s1.le hd)) ⟨d, _, rfl, upd_same, DdAll.of_ints _⟩⟩
theorem xe_tupRg {n : Int} {p2 pos2 : Pos} (hm : X.mg "tuple" = none) (hm2 : X.mg "range" = none) (h : XE M Γ Rs X a (PD X.K (.int n))) (hn : 0 ≤ n ∧ n ≤ 1000000) (hc : X.calm = true := by rfl) (hg : Gl X "tuple" := by rfl) (hg2 : Gl X "range" := by rfl) (he : starEach [a] X.env = (false, eval a X.env) :: starEach [] X.env := by rfl)
    (he2 : starEach [.Call (.Name "range" p2) [a] [] pos2] X.env = (false, eval (.Call (.Name "range" p2) [a] [] pos2) X.env) :: starEach [] X.env := by rfl) : XE M Γ Rs X (.Call (.Name "tuple" p) [.Call (.Name "range" p2) [a] [] pos2] [] pos) (PD X.K (.tuple (li (rgI 0 n.toNat)))) :=
  YE.wp (pe_tupRg hc hg hm (prg_1 hg2 hm2 pe_wp he) he2) fun σ H0 H l e k Q q => h σ H0 H l e k _ fun v H1 G1 s1 k1 hv => ⟨n, hv, RgOk.of_le (by omega) (by omega) (by omega) (by omega), fun d hd => by
    rw [rgV_eq]
    exact q _ (upd H1 d (.tup ((rgI 0 n.toNat).map V.int))) _ (s1.trans (Step.new s1.le hd)) (k1.step0 (Step.new s1.le hd)) ⟨d, _, rfl, SqT.of upd_same, DdAll.of_ints _⟩⟩
end
end Lh
namespace Lh
open PySem L2
open Evl (Ex ex_l ex_t ex_rd fresh_back)
section
variable {M : Addr → Prop} {Γ Γ' : Ct} {Rs : List Res} {X : Cx} {Z0 Z Hl : Hp} {D : Ends} {K : PySem.W.Frag} {rest : List Stmt} {a b c : Expr} {pos p : Pos} {i j k : Int}
theorem xt_truT {ds : List PyData} (h : XE M Γ Rs X a (PD X.K (.tuple ds))) (he : ∀ whole, isTrue a X.env whole = (do let v ← whole; standAt a.pos; holding [v] (truthy v)) := by intro _; rfl) : XT M Γ Rs X a (Is (!ds.isEmpty)) := YT.wp (pt_truth pe_wp he) fun σ H0 H l e k Q q =>
  h σ H0 H l e k _ fun v H1 G1 s1 k1 ⟨a, xs, e1, h1, h2⟩ => by
    subst e1
    refine ⟨!xs.isEmpty, .inr (.inl ⟨xs, ex_t s1.le h1, rfl⟩), q _ H1 G1 s1 k1 ?_⟩
    have := h2.len
    cases xs <;> cases ds <;> simp at this ⊢
theorem xt_truL {ds : List PyData} (h : XE M Γ Rs X a (PD X.K (.list ds))) (he : ∀ whole, isTrue a X.env whole = (do let v ← whole; standAt a.pos; holding [v] (truthy v)) := by intro _; rfl) : XT M Γ Rs X a (Is (!ds.isEmpty)) := YT.wp (pt_truth pe_wp he) fun σ H0 H l e k Q q =>
  h σ H0 H l e k _ fun v H1 G1 s1 k1 ⟨a, xs, e1, h1, h2⟩ => by
    subst e1
    refine ⟨!xs.isEmpty, .inl ⟨xs, SqL.of (s1.le _ _ h1), rfl⟩, q _ H1 G1 s1 k1 ?_⟩
    have := h2.len
    cases xs <;> cases ds <;> simp at this ⊢
theorem xt_bool {u : Bool} (h : XE M Γ Rs X a (PD K (.bool u))) (he : ∀ whole, isTrue a X.env whole = (do let v ← whole; standAt a.pos; holding [v] (truthy v)) := by intro _; rfl) : XT M Γ Rs X a (Is u) := xt_val (K := K) h.pb he
theorem xt_lele {v : Int} (ha : XE M Γ Rs X a (PD K (.int i))) (hb : XE M Γ Rs X b (PD K (.int j))) (hc : XE M Γ Rs X c (PD K (.int v))) (hm : lastMarks [.LtE, .LtE] [b, c] = false := by with_unfolding_all rfl) : XT M Γ Rs X (.Compare a [.LtE, .LtE] [b, c] pos) (Is (decide (i ≤ j) && decide (j ≤ v))) :=
  (xt_chain (K := K) op_le op_le ha hb (fun x y H0 H hx hy e _ => (yl_I0 (g := fun i j => .bl (decide (i ≤ j))) (d := .bool (decide (i ≤ j))) (fun _ => rfl) hx hy e).pb) (fun _ => hc) (fun _ x y H0 H hx hy e _ => (yl_I0 (g := fun i j => .bl (decide (i ≤ j))) (d := .bool (decide (j ≤ v))) (fun _ => rfl) hx hy e).pb) hm).imp fun b hb => by
    rcases hb with ⟨h, rfl⟩ | ⟨h, h'⟩
    · show false = _
      rw [← h]
      rfl
    · show b = _
      rw [← h, Bool.true_and]
      exact h'
theorem xe_lele {v : Int} (ha : XE M Γ Rs X a (PD K (.int i))) (hb : XE M Γ Rs X b (PD K (.int j))) (hc : XE M Γ Rs X c (PD K (.int v))) (hm : lastMarks [.LtE, .LtE] [b, c] = false := by with_unfolding_all rfl) : XE M Γ Rs X (.Compare a [.LtE, .LtE] [b, c] pos) (PD K (.bool (decide (i ≤ j) && decide (j ≤ v)))) :=
  (xe_chain (K := K) op_le op_le ha hb (fun x y H0 H hx hy e _ => (yl_I0 (g := fun i j => .bl (decide (i ≤ j))) (d := .bool (decide (i ≤ j))) (fun _ => rfl) hx hy e).pb) (fun _ => hc) (fun _ x y H0 H hx hy e _ => (yl_I0 (g := fun i j => .bl (decide (i ≤ j))) (d := .bool (decide (j ≤ v))) (fun _ => rfl) hx hy e).pb) hm).imp fun z H ⟨b, hb, hz⟩ => by
    have e : b = (decide (i ≤ j) && decide (j ≤ v)) := by
      rcases hb with ⟨h, rfl⟩ | ⟨h, h'⟩
      · show false = _
        rw [← h]
        rfl
      · show b = _
        rw [← h, Bool.true_and]
        exact h'
    rw [← e]
    exact hz
/-- and, or, not of tests whose answers are told -/
theorem xt_andB {u v : Bool} (h : XT M Γ Rs X a (Is u)) (h' : u = true → XT M Γ Rs X b (Is v)) : XT M Γ Rs X (.BoolOp .And [a, b] pos) (Is (u && v)) := (xt_and h fun z => h' z.symm).imp fun b hb => by
  rcases hb with ⟨h, rfl⟩ | ⟨h, h'⟩
  · show false = _
    rw [← h]
    rfl
  · show b = _
    rw [← h, Bool.true_and]
    exact h'
theorem xt_orB {u v : Bool} (h : XT M Γ Rs X a (Is u)) (h' : u = false → XT M Γ Rs X b (Is v)) : XT M Γ Rs X (.BoolOp .Or [a, b] pos) (Is (u || v)) := (xt_or h fun z => h' z.symm).imp fun b hb => by
  rcases hb with ⟨h, rfl⟩ | ⟨h, h'⟩
  · show true = _
    rw [← h]
    rfl
  · show b = _
    rw [← h, Bool.false_or]
    exact h'
theorem xt_notB {u : Bool} (h : XT M Γ Rs X a (Is u)) : XT M Γ Rs X (.UnaryOp .Not a pos) (Is (!u)) := (xt_not h).imp fun b hb => by
  have e : (!b) = u := hb
  show b = !u
  rw [← e, Bool.not_not]
theorem xe_andB {u v : Bool} (h : XE M Γ Rs X a (PD K (.bool u))) (h' : u = true → XE M Γ Rs X b (PD K (.bool v))) : XE M Γ Rs X (.BoolOp .And [a, b] pos) (PD K (.bool (u && v))) := (xe_and h.pb fun z => (h' z.symm).pb).imp fun z H ⟨b, hb, hz⟩ => by
  have e : b = (u && v) := by
    rcases hb with ⟨h, rfl⟩ | ⟨h, h'⟩
    · show false = _
      rw [← h]
      rfl
    · show b = _
      rw [← h, Bool.true_and]
      exact h'
  rw [← e]
  exact hz
/-- an answer that is known -/
theorem YT.eq {t : TT} {u v : Bool} (h : YT M Γ Rs t (Is u)) (e : u = v) : YT M Γ Rs t (Is v) := e ▸ h
theorem wk_enumT {a : Addr} {xs : List V} {ds : List PyData} {H0 : Hp} (h : SqT K H0 a xs) (hd : DdAll K H0 ds xs) : Wk (LhS.IteT K a) ((List.range ds.length).zipWith (fun i d => PT2 K (PD K (.int (i : Nat))) (PD K d)) ds) H0 := fun H0' H e e' i => by
  refine ⟨fun Q q => ?_, fun q => ⟨xs, ex_t (e.trans e') h, by rw [hd.len]; simpa using q⟩⟩
  have hlt : i < ds.length := by
    have := (List.getElem?_eq_some_iff.mp q).1
    simpa using this
  have e1 : PT2 K (PD K (.int (i : Nat))) (PD K ds[i]) = Q := by
    simpa [List.getElem?_zipWith, hlt] using q
  subst e1
  obtain ⟨v, h1, h2⟩ := hd.get (List.getElem?_eq_getElem hlt)
  refine ⟨⟨xs, v, ex_t (e.trans e') h, h1⟩, fun x H' ⟨T, y, y1, y2, y3, y4⟩ => ?_⟩
  have e2 : y = v := Option.some.inj ((y4 xs (ex_t (e.trans e') h)).symm.trans h1)
  subst e2 y1 y3
  exact ⟨upd H0' T (.tup [.int (i : Nat), y]), Step.new e' y2, T, _, _, rfl, SqT.of upd_same, rfl, Dd.ex (e.trans (Ex.new (fresh_back e' y2))) _ _ h2⟩
theorem xi_enumT {e : Expr} {p pos tpos : Pos} {elts : List Expr} {kk : Nat} {ds : List PyData} (hm : X.mg "enumerate" = none) (h : XE M Γ Rs X e (PD X.K (.tuple ds))) (hg : Gl X "enumerate" := by rfl) (hs : starEach [e] X.env = [(false, eval e X.env)] := by rfl) :
    XI M Γ Rs X (.Tuple elts kk tpos) (.Call (.Name "enumerate" p) [e] [] pos) ((List.range ds.length).zipWith (fun i d => PT2 X.K (PD X.K (.int (i : Nat))) (PD X.K d)) ds) := fun σ H0 H l ex k R r => PI.wp (LhS.pi_enumT hg hm pa_wp hs) ((xa_1 h (by exact hs)) σ H0 H l ex k _ fun vs H1 G1 s1 k1 a1 => by
  obtain ⟨v, e1, a, xs, e3, h3, h4⟩ := da1 a1
  subst e1 e3
  exact ⟨a, xs, rfl, ex_t s1.le h3, r _ H1 G1 s1 k1 (wk_enumT h3 h4)⟩)
/-- what an enumerate gives at turn t -/
theorem enum_at {ds : List PyData} {t : Nat} {Q : Pd} (h : ((List.range ds.length).zipWith (fun i d => PT2 K (PD K (.int (i : Nat))) (PD K d)) ds)[t]? = some Q) : ∃ d, ds[t]? = some d ∧ Q = PT2 K (PD K (.int (t : Nat))) (PD K d) := by
  have hlt : t < ds.length := by
    have := (List.getElem?_eq_some_iff.mp h).1
    simpa using this
  refine ⟨ds[t], List.getElem?_eq_getElem hlt, ?_⟩
  have : PT2 K (PD K (.int (t : Nat))) (PD K ds[t]) = Q := by simpa [List.getElem?_zipWith, hlt] using h
  exact this.symm
theorem zip_at {ds es : List PyData} {t : Nat} {Q : Pd} (h : (ds.zipWith (fun d e => PT2 K (PD K d) (PD K e)) es)[t]? = some Q) : ∃ d e, ds[t]? = some d ∧ es[t]? = some e ∧ Q = PT2 K (PD K d) (PD K e) := by
  have hlt : t < ds.length ∧ t < es.length := by
    have := (List.getElem?_eq_some_iff.mp h).1
    rw [List.length_zipWith] at this
    omega
  refine ⟨ds[t]'hlt.1, es[t]'hlt.2, List.getElem?_eq_getElem hlt.1, List.getElem?_eq_getElem hlt.2, ?_⟩
  have : PT2 K (PD K (ds[t]'hlt.1)) (PD K (es[t]'hlt.2)) = Q := by simpa [List.getElem?_zipWith, hlt.1, hlt.2] using h
  exact this.symm
theorem map_at {ds : List PyData} {t : Nat} {Q : Pd} (h : (ds.map (PD K))[t]? = some Q) : ∃ d, ds[t]? = some d ∧ Q = PD K d := by
  rw [List.getElem?_map] at h
  cases e : ds[t]? with
  | none =>
    rw [e] at h
    cases h
  | some d =>
    rw [e] at h
    exact ⟨d, rfl, (Option.some.inj h).symm⟩
theorem li_at {ns : List Int} {t : Nat} {d : PyData} (h : (li ns)[t]? = some d) : ∃ n, ns[t]? = some n ∧ d = .int n := by
  rw [List.getElem?_map] at h
  cases e : ns[t]? with
  | none =>
    rw [e] at h
    cases h
  | some n =>
    rw [e] at h
    exact ⟨n, rfl, (Option.some.inj h).symm⟩
theorem rgI_len {lo : Int} {n : Nat} : (rgI lo n).length = n := by simp [rgI]

/-! ### pure comprehensions -/
/-- [f x for x in xs] -/
theorem xe_map (j : Nat) {x : Str} {elt iter : Expr} {scope : Scope} {pos xp : Pos} {ds : List PyData} (f : PyData → PyData) (hi : XI M Γ Rs X (.Name x xp) iter (ds.map (PD X.K))) (ht : ∀ d, d ∈ ds → Blk X scope fun Y => XE M (blkG Γ j (PD X.K d)) Rs Y elt (PD X.K (f d)))
    (hN : X.N.Nodup) (ok : BlkOk X.N X.env.scope scope [(x, j)]) (hz : ds.length ≤ 100000) (cv : Cov M Rs) (hg : BlkG X scope x xp j) (hc : X.calm = true := by rfl) (hs : ∀ x, foldedSetIterable iter X.env x = pure x := by intro _; rfl) :
    XE M Γ Rs X (.ListComp elt [⟨.Name x xp, iter, [], 0⟩] scope pos) (PD X.K (.list (ds.map f))) :=
  (xe_lc (K := X.K) j hi (fun i es => es = (ds.take i).map f) rfl (fun i Q hq => by
    obtain ⟨d, hd, e⟩ := map_at hq
    subst e
    intro s0 H0 C cl fp
    refine YE.imp (ht d (List.mem_of_getElem? hd) s0 H0 C cl fp) fun v H h => ⟨f d, fun es _ he => ?_, h⟩
    dsimp only at he ⊢
    rw [he, List.take_add_one, hd]
    simp) hN ok (by rw [List.length_map]; exact hz) cv hg hc hs).imp fun v H ⟨es, ⟨h1, _⟩, h2⟩ => by
    rw [List.length_map, List.take_length] at h1
    subst h1
    exact h2
/-- [f x for x in xs if t x] -/
theorem xe_filt (j : Nat) {x : Str} {elt iter c : Expr} {scope : Scope} {pos xp : Pos} {ds : List PyData} (f : PyData → PyData) (t : PyData → Bool) (hi : XI M Γ Rs X (.Name x xp) iter (ds.map (PD X.K))) (hc' : ∀ d, d ∈ ds → Blk X scope fun Y => XT M (blkG Γ j (PD X.K d)) Rs Y c (Is (t d)))
    (ht : ∀ d, d ∈ ds → t d = true → Blk X scope fun Y => XE M (blkG Γ j (PD X.K d)) Rs Y elt (PD X.K (f d)))
    (hN : X.N.Nodup) (ok : BlkOk X.N X.env.scope scope [(x, j)]) (hz : ds.length ≤ 100000) (cv : Cov M Rs) (hg : BlkG X scope x xp j) (hc : X.calm = true := by rfl) (hs : ∀ x, foldedSetIterable iter X.env x = pure x := by intro _; rfl) :
    XE M Γ Rs X (.ListComp elt [⟨.Name x xp, iter, [c], 0⟩] scope pos) (PD X.K (.list ((ds.filter t).map f))) :=
  (xe_lcIf (K := X.K) j hi (fun i es => es = ((ds.take i).filter t).map f) rfl (fun i Q hq => by
    obtain ⟨d, hd, e⟩ := map_at hq
    subst e
    have hm := List.mem_of_getElem? hd
    refine ⟨Is (t d), hc' d hm, fun hb s0 H0 C cl fp => ?_, fun hb es he => ?_⟩
    · refine YE.imp (ht d hm hb.symm s0 H0 C cl fp) fun v H h => ⟨f d, fun es _ he => ?_, h⟩
      dsimp only at he ⊢
      rw [he, List.take_add_one, hd]
      simp [← hb]
    · dsimp only at he ⊢
      rw [he, List.take_add_one, hd]
      simp [← hb]) hN ok (by rw [List.length_map]; exact hz) cv hg hc hs).imp fun v H ⟨es, ⟨h1, _⟩, h2⟩ => by
    rw [List.length_map, List.take_length] at h1
    subst h1
    exact h2

/-! ### slices -/
theorem cut_dd {H : Hp} {ds : List PyData} {xs : List V} (h : DdAll K H ds xs) (lo hi : Option Int) : DdAll K H ((ds.drop (HT.sIx ds.length 0 lo)).take (HT.sIx ds.length ds.length hi - HT.sIx ds.length 0 lo)) (cutV xs lo hi) := by
  unfold cutV
  rw [h.len]
  exact (h.drop _).take _
def YO (M : Addr → Prop) (Γ : Ct) (Rs : List Res) (t : TO) (o : Option Int) : Prop := ∀ (σ : L2.St) (H0 H : Hp), Sl Γ σ H0 → Ex H0 H → Rok Rs H0 H → ∀ Q : Option Int → Hp → Prop, (∀ H0' H', Step M H0 H H0' H' → Rok Rs H0' H' → Q o H') → t σ H Q
theorem yo_none : YO M Γ Rs tNoPart none := fun σ H0 H l e k Q q => q H0 H (Step.rfl e) k
theorem yo_some {t : TE} (h : YE M Γ Rs t (PD K (.int i))) : YO M Γ Rs (tPart t) (some i) := fun σ H0 H l e k Q q => h σ H0 H l e k _ fun v H1 G1 s1 k1 hv => ⟨i, hv, q H1 G1 s1 k1⟩
theorem ye_slL {te : TE} {tl th : TO} {ds : List PyData} {lo hi : Option Int} (h : YE M Γ Rs te (PD K (.list ds))) (hl : YO M Γ Rs tl lo) (hh : YO M Γ Rs th hi) : YE M Γ Rs (tSl (rSlL K) te tl th) (PD K (.list ((ds.drop (HT.sIx ds.length 0 lo)).take (HT.sIx ds.length ds.length hi - HT.sIx ds.length 0 lo)))) := fun σ H0 H l e k Q q =>
  h σ H0 H l e k _ fun v H1 G1 s1 k1 ⟨a, xs, e1, h1, h2⟩ => hl σ H1 G1 (l.ex s1.ex) s1.le k1 _ fun H2 G2 s2 k2 => hh σ H2 G2 (l.ex (s1.ex.trans s2.ex)) s2.le k2 _ fun H3 G3 s3 k3 => ⟨a, xs, e1, SqL.of ((s2.trans s3).le _ _ ((s2.trans s3).ex _ _ h1)), fun p hp => by
    have s := (s1.trans s2).trans s3
    exact q _ _ _ (s.trans (Step.new s.le hp)) (k3.step0 (Step.new s.le hp)) ⟨p, _, rfl, upd_same, DdAll.ex ((s2.ex.trans s3.ex).trans (Ex.new (fresh_back s.le hp))) _ _ (cut_dd h2 lo hi)⟩⟩
theorem ye_slT {te : TE} {tl th : TO} {ds : List PyData} {lo hi : Option Int} (h : YE M Γ Rs te (PD K (.tuple ds))) (hl : YO M Γ Rs tl lo) (hh : YO M Γ Rs th hi) : YE M Γ Rs (tSl (rSlA K) te tl th) (PD K (.tuple ((ds.drop (HT.sIx ds.length 0 lo)).take (HT.sIx ds.length ds.length hi - HT.sIx ds.length 0 lo)))) := fun σ H0 H l e k Q q =>
  h σ H0 H l e k _ fun v H1 G1 s1 k1 ⟨a, xs, e1, h1, h2⟩ => hl σ H1 G1 (l.ex s1.ex) s1.le k1 _ fun H2 G2 s2 k2 => hh σ H2 G2 (l.ex (s1.ex.trans s2.ex)) s2.le k2 _ fun H3 G3 s3 k3 => by
    have s := (s1.trans s2).trans s3
    have h3 : SqT K H3 a xs := ex_t (s2.ex.trans s3.ex) h1
    have len := h2.len
    refine ⟨a, xs, e1, ex_t s.le h3, fun ⟨z1, z2⟩ => ?_, fun _ p hp => ?_⟩
    · refine q _ H3 G3 s k3 ⟨a, xs, rfl, h3, ?_⟩
      rw [len] at z1 z2
      rw [z1, z2, List.drop_zero, Nat.sub_zero, List.take_length]
      exact DdAll.ex (s2.ex.trans s3.ex) _ _ h2
    · exact q _ _ _ (s.trans (Step.new s.le hp)) (k3.step0 (Step.new s.le hp)) ⟨p, _, rfl, SqT.of upd_same, DdAll.ex ((s2.ex.trans s3.ex).trans (Ex.new (fresh_back s.le hp))) _ _ (cut_dd h2 lo hi)⟩
/-- xs[a:b], t[a:b] with 0 <= a <= b; t[a:], t[:b] -/
theorem sIx_int {n : Nat} {d : Nat} {i : Int} (h : 0 ≤ i) : HT.sIx n d (some i) = min i.toNat n := by
  unfold HT.sIx
  have e : ¬ i < 0 := by omega
  simp only [e, if_false]
theorem cut_eq {α : Type} (ds : List α) {x y : Int} (hx : 0 ≤ x) (hy : 0 ≤ y) : (ds.drop (HT.sIx ds.length 0 (some x))).take (HT.sIx ds.length ds.length (some y) - HT.sIx ds.length 0 (some x)) = (ds.drop x.toNat).take (y.toNat - x.toNat) := by
  rw [sIx_int hx, sIx_int hy]
  by_cases h : x.toNat ≤ ds.length
  · rw [Nat.min_eq_left h]
    by_cases h2 : y.toNat ≤ ds.length
    · rw [Nat.min_eq_left h2]
    · rw [Nat.min_eq_right (by omega), List.take_of_length_le (by simp), List.take_of_length_le (by simp; omega)]
  · rw [show min x.toNat ds.length = ds.length from Nat.min_eq_right (by omega), List.drop_length, List.drop_of_length_le (show ds.length ≤ x.toNat by omega)]
    simp
theorem cut_eq1 {α : Type} (ds : List α) {x : Int} (hx : 0 ≤ x) : (ds.drop (HT.sIx ds.length 0 (some x))).take (HT.sIx ds.length ds.length none - HT.sIx ds.length 0 (some x)) = ds.drop x.toNat := by
  rw [sIx_int hx, HT.sIx_none]
  by_cases h : x.toNat ≤ ds.length
  · rw [List.take_of_length_le (by simp), Nat.min_eq_left h]
  · rw [Nat.min_eq_right (by omega), List.drop_length, List.drop_of_length_le (by omega)]
    simp
theorem cut_eq2 {α : Type} (ds : List α) {y : Int} (hy : 0 ≤ y) : (ds.drop (HT.sIx ds.length 0 none)).take (HT.sIx ds.length ds.length (some y) - HT.sIx ds.length 0 none) = ds.take y.toNat := by
  rw [sIx_int hy, HT.sIx_none, List.drop_zero, Nat.sub_zero]
  by_cases h2 : y.toNat ≤ ds.length
  · rw [Nat.min_eq_left h2]
  · rw [Nat.min_eq_right (by omega), List.take_length, List.take_of_length_le (by omega)]
variable {p2 : Pos}
theorem xe_slT2 {ds : List PyData} (h : XE M Γ Rs X a (PD X.K (.tuple ds))) (hl : XE M Γ Rs X b (PD X.K (.int i))) (hh : XE M Γ Rs X c (PD X.K (.int j))) (h0 : 0 ≤ i) (h1 : 0 ≤ j) : XE M Γ Rs X (.Subscript a (.Slice (some b) (some c) none p2) pos) (PD X.K (.tuple ((ds.drop i.toNat).take (j.toNat - i.toNat)))) :=
  (YE.wp (pe_slice sl_tupA pe_wp (po_some pe_wp) (po_some pe_wp)) (ye_slT h (yo_some hl) (yo_some hh))).to (by rw [cut_eq ds h0 h1])
theorem xe_slTb {ds : List PyData} (h : XE M Γ Rs X a (PD X.K (.tuple ds))) (hl : XE M Γ Rs X b (PD X.K (.int i))) (h0 : 0 ≤ i) : XE M Γ Rs X (.Subscript a (.Slice none (some b) none p2) pos) (PD X.K (.tuple (ds.take i.toNat))) :=
  (YE.wp (pe_slice sl_tupA pe_wp po_none (po_some pe_wp)) (ye_slT h yo_none (yo_some hl))).to (by rw [cut_eq2 ds h0])
theorem xe_slLb {ds : List PyData} (h : XE M Γ Rs X a (PD X.K (.list ds))) (hl : XE M Γ Rs X b (PD X.K (.int i))) (h0 : 0 ≤ i) : XE M Γ Rs X (.Subscript a (.Slice none (some b) none p2) pos) (PD X.K (.list (ds.take i.toNat))) :=
  (YE.wp (pe_slice sl_list pe_wp po_none (po_some pe_wp)) (ye_slL h yo_none (yo_some hl))).to (by rw [cut_eq2 ds h0])
theorem xe_revL {ds : List PyData} {kq : Nat} {q1 q2 q3 : Pos} (h : XE M Γ Rs X a (PD X.K (.list ds))) : XE M Γ Rs X (.Subscript a (.Slice none none (some (.UnaryOp .USub (.Constant (.int 1) kq q1) q2)) q3) pos) (PD X.K (.list ds.reverse)) := YE.wp (pe_revL pe_wp) fun σ H0 H l e k Q q =>
  h σ H0 H l e k _ fun v H1 G1 s1 k1 ⟨a, xs, e1, h1, h2⟩ => ⟨a, xs, e1, SqL.of (s1.le _ _ h1), fun p hp => q _ _ _ (s1.trans (Step.new s1.le hp)) (k1.step0 (Step.new s1.le hp)) ⟨p, _, rfl, upd_same, DdAll.ex (Ex.new (fresh_back s1.le hp)) _ _ h2.rev⟩⟩

/-! ### lists at hand -/
/-- a list that was made here is a thing like any other from now on -/
theorem xs_frz (i : Nat) {q : Addr} {ds : List PyData} (hi : Γ[i]? = some (some (PV (.ref q)))) (h : XS M (Γ.set i (some (PD X.K (.list ds)))) Rs X Z0 Z Hl D rest) : XS M Γ (Res.lst Z q (ds.map (PD X.K)) :: Rs) X Z0 Z Hl D rest := fun σ H0 H l s b k => by
  obtain ⟨hz, h0, xs, hq, hd⟩ := k.2 _ List.mem_cons_self
  obtain ⟨v, h1, h2⟩ := l.2 i _ hi
  have e2 : v = .ref q := h2
  subst e2
  have nd := k.1
  rw [List.flatMap_cons, List.nodup_append] at nd
  have ne : ∀ r ∈ Rs, ∀ a ∈ r.ad, a ≠ q := fun r hr a ha e => nd.2.2 q (by simp [Res.lst]) a (List.mem_flatMap.mpr ⟨r, hr, ha⟩) e.symm
  have k2 : Rok Rs (upd H0 q (.lst xs)) H := Rok.updA ⟨nd.2.1, fun r hr => k.2 r (List.mem_cons_of_mem _ hr)⟩ h0 ne
  have x1 : Ex H0 (upd H0 q (.lst xs)) := Ex.new h0
  have l2 : Sl (Γ.set i (some (PD X.K (.list ds)))) (σ.set i (some (.ref q))) (upd H0 q (.lst xs)) := (l.ex x1).set ⟨q, xs, rfl, upd_same, DdAll.ex x1 _ _ hd.dd⟩
  have e3 : σ.set i (some (.ref q)) = σ := by
    have hlt := (List.getElem?_eq_some_iff.mp h1).1
    have := (List.getElem?_eq_some_iff.mp h1).2
    rw [← this]
    exact List.set_getElem_self hlt
  rw [e3] at l2
  refine h σ _ H l2 ⟨s.un, s.th, s.ex.trans x1, fun a o ha => ?_, fun a o ha => ?_⟩ (b.trans x1) k2
  · by_cases e : a = q
    · subst e
      rw [upd_same] at ha
      rw [hq]
      exact ha
    · rw [upd_ne e] at ha
      exact s.le a o ha
  · by_cases e : a = q
    · subst e
      exact .inr hz
    · rw [upd_ne e] at ha
      exact s.nw a o ha
/-- x = [..], a list that will grow -/
theorem xs_newL (i : Nat) {x : Str} {es : List Expr} {ds : List PyData} {pos pos' q : Pos} (h : XA M Γ Rs X es (ds.map (PD X.K))) (hz : ds.length ≤ 1000) (k : ∀ q, XS M (Γ.set i (some (PV (.ref q)))) (Res.lst Z q (ds.map (PD X.K)) :: Rs) X Z0 Z Hl D rest) (cv : Cov M Rs) (hN : X.N.Nodup)
    (hi : X.N[i]? = some x := by rfl) (hx : Loc X.env.scope x := by first | exact Or.inl rfl | exact Or.inr rfl) (hs : swapsWith (.List es q) (some (.Name x pos')) pos.line X.env = pure false := by rfl) (hf : X.fn x = true ∨ X.env.scope.names.lookup x = some .local := by first | exact .inl rfl | exact .inr rfl) :
    XS M Γ Rs X Z0 Z Hl D (.Assign [.Name x pos'] (.List es q) pos :: rest) :=
  xs_cons (ps_set hN hi hx (pe_lst pa_wp) hs hf) fun σ H0 H l s b r => h σ H0 H l s.le r _ fun vs H1 G1 s1 k1 a1 => ⟨by have := a1.1; rw [List.length_map] at this; rw [this]; exact Nat.le_trans hz (by decide), fun p hp => by
    have t := s.trans s1
    have ne : ∀ r ∈ Rs, ∀ a ∈ r.ad, a ≠ p := fun r hr a ha e => by
      obtain ⟨⟨o, h1⟩, _⟩ := r.tr (k1.2 r hr) a ha
      rw [e, hp] at h1
      cases h1
    have hZ : Z p = none := by
      cases e : Z p with
      | none => rfl
      | some o =>
        obtain ⟨o', h'⟩ := t.th p o e
        rw [hp] at h'
        cases h'
    refine k p _ H1 _ ((l.ex s1.ex).set (P := PV (.ref p)) rfl) ⟨fun a o hm ha => ?_, fun a o ha => ?_, t.ex, fun a o ha => ?_, t.nw⟩ (b.trans s1.ex) ⟨?_, fun r hr => ?_⟩
    · rw [upd_ne (ne_of_none ha hZ)]
      exact t.un a o hm ha
    · obtain ⟨o', h'⟩ := t.th a o ha
      exact ⟨o', by rw [upd_ne (ne_of_none h' hp)]; exact h'⟩
    · rw [upd_ne (ne_of_none (t.le a o ha) hp)]
      exact t.le a o ha
    · rw [List.flatMap_cons, List.nodup_append]
      refine ⟨by simp [Res.lst], k1.1, fun a ha c hc e => ?_⟩
      have e1 : a = p := by simpa [Res.lst] using ha
      obtain ⟨r, hr, hc⟩ := List.mem_flatMap.mp hc
      exact ne r hr c hc (e ▸ e1)
    · obtain e | hr := List.mem_cons.mp hr
      · subst e
        exact ⟨hZ, fresh_back s1.le hp, vs, upd_same, a1⟩
      · exact (k1.wr ne).2 r hr⟩
/-- x.append(e) -/
theorem xs_app {q : Addr} {o e : Expr} {Ps : List Pd} {P : Pd} {pos cpos apos : Pos} (ho : XE M Γ (Res.lst Z q Ps :: Rs) X o (PV (.ref q))) (he : XE M Γ (Res.lst Z q Ps :: Rs) X e P) (hz : Ps.length < 1000000) (k : XS M Γ (Res.lst Z q (Ps ++ [P]) :: Rs) X Z0 Z Hl D rest) 
    (hpe : PE X (.Call (.Attribute o "append" apos) [e] [] cpos) (tBM X.K "list" rAppend (wpE X o) (tCons (wpE X e) tNil))) (hs : swapsWith (.Call (.Attribute o "append" apos) [e] [] cpos) none pos.line X.env = pure false := by rfl) : XS M Γ (Res.lst Z q Ps :: Rs) X Z0 Z Hl D (.Expr (.Call (.Attribute o "append" apos) [e] [] cpos) pos :: rest) :=
  xs_cons (ps_expr hpe hs) fun σ H0 H l s b r => ho σ H0 H l s.le r _ fun v H1 G1 s1 k1 hv => by
    have hv' : v = .ref q := hv
    subst hv'
    obtain ⟨_, _, xs1, hq1, _⟩ := k1.2 _ List.mem_cons_self
    refine ⟨.inl ⟨rfl, xs1, SqL.of hq1⟩, ?_⟩
    refine he σ H1 G1 (l.ex s1.ex) s1.le k1 _ fun y H2 G2 s2 k2 hy => ?_
    obtain ⟨hz0, h0, xs, hq, hd⟩ := k2.2 _ List.mem_cons_self
    refine ⟨q, xs, y, rfl, rfl, hq, by rw [hd.1]; exact Nat.lt_of_lt_of_le hz (by decide), ?_⟩
    have t := (s.trans s1).trans s2
    have nd := k2.1
    rw [List.flatMap_cons, List.nodup_append] at nd
    have ne : ∀ r ∈ Rs, ∀ a ∈ r.ad, a ≠ q := fun r hr a ha e => nd.2.2 q (by simp [Res.lst]) a (List.mem_flatMap.mpr ⟨r, hr, ha⟩) e.symm
    have kr : Rok Rs H2 G2 := ⟨nd.2.1, fun r hr => k2.2 r (List.mem_cons_of_mem _ hr)⟩
    refine k _ H2 _ (l.ex (s1.ex.trans s2.ex)) ⟨fun a o hm ha => ?_, fun a o ha => ?_, t.ex, fun a o ha => ?_, t.nw⟩ (b.trans (s1.ex.trans s2.ex)) ⟨k2.1, fun r hr => ?_⟩
    · rw [upd_ne (ne_of_none ha hz0)]
      exact t.un a o hm ha
    · obtain ⟨o', h'⟩ := t.th a o ha
      exact ⟨o', by rw [upd_ne (ne_of_none ha hz0)]; exact h'⟩
    · have na : a ≠ q := fun e => by
        rw [e, h0] at ha
        cases ha
      rw [upd_ne na]
      exact t.le a o ha
    · obtain e | hr := List.mem_cons.mp hr
      · subst e
        exact ⟨hz0, h0, _, upd_same, hd.app (DAll.cons hy DAll.nil)⟩
      · exact (kr.wr ne).2 r hr
end
end Lh
/-! Own classes: objects by their fields, properties, methods, making. -/
namespace Lh
open PySem L2
open Evl (Ex ex_l ex_t ex_rd fresh_back)
/-- the fields fs of vs -/
def Flds (fs : List (Str × Pd)) (vs : List (Str × V)) (H : Hp) : Prop := ∀ f : Str, (∀ P, fs.lookup f = some P → ∃ u, vs.lookup f = some u ∧ P.p u H) ∧ (fs.lookup f = none → vs.lookup f = none)
theorem Flds.ex {fs : List (Str × Pd)} {vs : List (Str × V)} {H H' : Hp} (e : Ex H H') (h : Flds fs vs H) : Flds fs vs H' := fun f => ⟨fun P hP => by
  obtain ⟨u, h1, h2⟩ := (h f).1 P hP
  exact ⟨u, h1, P.m e h2⟩, (h f).2⟩
theorem Flds.put {fs : List (Str × Pd)} {vs : List (Str × V)} {H : Hp} {f : Str} {P : Pd} {v : V} (h : Flds fs vs H) (hv : P.p v H) : Flds ((f, P) :: fs) (putF f v vs) H := fun g => by
  rw [lookup_putF, List.lookup_cons]
  by_cases e : g = f
  · subst e
    simp only [if_true, beq_self_eq_true]
    exact ⟨fun Q hQ => by
      have e2 : P = Q := Option.some.inj hQ
      subst e2
      exact ⟨v, rfl, hv⟩, fun q => by cases q⟩
  · have eb : (g == f) = false := by simpa using e
    rw [eb, if_neg e]
    exact h g
theorem putF_length (f : Str) (v : V) : ∀ vs : List (Str × V), (putF f v vs).length ≤ vs.length + 1
  | [] => Nat.le_refl _
  | (g, x) :: r => by
    unfold putF
    split
    · simp
    · simp only [List.length_cons]
      have := putF_length f v r
      omega
/-- an object of the class at C with these fields -/
def PObj (C : Addr) (fs : List (Str × Pd)) : Pd := ⟨fun v H => ∃ a dx vs, v = .ref a ∧ H a = some (.ins C dx vs) ∧ Flds fs vs H, fun e ⟨a, dx, vs, h1, h2, h3⟩ => ⟨a, dx, vs, h1, e _ _ h2, h3.ex e⟩⟩
/-- .. that is being made -/
def Res.ob (C x dx : Addr) (fs : List (Str × Pd)) : Res where
  ad := [x]
  p := fun H0 H => H0 x = none ∧ ∃ vs, H x = some (.ins C dx vs) ∧ Flds fs vs H0 ∧ vs.length ≤ fs.length
  st := fun {H0 H H0' H'} e n q ⟨h1, vs, h2, h3, h4⟩ => ⟨n x (by simp), vs, by rw [q x (by simp)]; exact h2, h3.ex e, h4⟩
  tr := fun {H0 H} ⟨h1, vs, h2, h3, h4⟩ a ha => by
    have e : a = x := by simpa using ha
    subst e
    exact ⟨⟨_, h2⟩, h1⟩
abbrev MX (x : Addr) : Addr → Prop := fun a => a = x
/-- the promise of an __init__ -/
def SpI {α : Type} (C : Addr) (pre : α → List Pd) (fs : α → List (Str × Pd)) : Sp := fun vs H Q _ => ∃ (y : α) (x dx : Addr) (H0 : Hp) (ws : List V), vs = .ref x :: ws ∧ Ex H0 H ∧ Rok [Res.ob C x dx []] H0 H ∧ DAll (pre y) ws H0 ∧
  ∀ H0' H', Step (MX x) H0 H H0' H' → Rok [Res.ob C x dx (fs y)] H0' H' → Q .non H'
section
variable {M : Addr → Prop} {Γ Γ' : Ct} {Rs : List Res} {X : Cx} {Z0 Z Hl : Hp} {D : Ends} {K : PySem.W.Frag} {rest : List Stmt} {a b c o e : Expr} {es : List Expr} {pos p : Pos} {C : Addr} {fs : List (Str × Pd)}
theorem xe_fld {f : Str} {P : Pd} (h : XE M Γ Rs X o (PObj C fs)) (hl : fs.lookup f = some P) (hc : Cls X.K C) (hn : NoAttr X.K C f) (hb : attributeBase o f X.env (eval o X.env) = eval o X.env := by rfl) : XE M Γ Rs X (.Attribute o f pos) P :=
  YE.wp (pe_fld pe_wp hb) fun σ H0 H l ex k Q q => h σ H0 H l ex k _ fun v H1 G1 s1 k1 ⟨a, dx, vs, h1, h2, h3⟩ => by
    obtain ⟨u, hu, hp⟩ := (h3 f).1 P hl
    exact ⟨a, C, dx, vs, u, h1, s1.le _ _ h2, hc, hn, hu, q u H1 G1 s1 k1 hp⟩
/-- a property of an object -/
theorem xe_prop {P' : Program} {w' : World} {K' : PySem.W.Frag} {mg' : Str → Option Value} {base' : Heap} {α : Type} {pre : α → List Pd} {post : α → Pd} {f : Str} {pa g : Addr} {fd : FuncData} {ps : List Str} {n : Nat} (F : FnOk P' w' K' mg' base' CX0 n g fd ps (SpP pre post)) (y : α) (h : XE M Γ Rs X o (PObj C fs)) (hy : pre y = [PObj C fs]) (hc : Cls K' C) (hp : PropOf K' C f pa g) (hr : Room (n + 1) X.A)
    (hb : Binds K' fd ps []) (hab : attributeBase o f X.env (eval o X.env) = eval o X.env := by rfl) (eP : X.prog = P' := by rfl) (ew : X.w = w' := by rfl) (eK : X.K = K' := by rfl) (em : X.mg = mg' := by rfl) (eb : X.base = base' := by rfl) : XE M Γ Rs X (.Attribute o f pos) (post y) := by
  subst eP ew eK em eb
  exact YE.wp (pe_prop pe_wp hc hp F hr hb (dvs := []) .nil pass0 hab) fun σ H0 H l ex k Q q => h σ H0 H l ex k _ fun v H1 G1 s1 k1 hv => by
    obtain ⟨a, dx, vs, h1, h2, h3⟩ := id hv
    refine ⟨a, dx, vs, h1, s1.le _ _ h2, y, H1, s1.le, Rok.nil, ?_, fun v H2 G2 s2 _ p2 => q v H2 G2 (s1.trans (s2.imp fun _ z => z.elim)) (k1.step0 s2) p2⟩
    rw [hy, ← h1]
    exact DAll.cons hv DAll.nil
/-- a method of an object -/
theorem xe_meth {P' : Program} {w' : World} {K' : PySem.W.Frag} {mg' : Str → Option Value} {base' : Heap} {α : Type} {pre : α → List Pd} {post : α → Pd} {m : Str} {g : Addr} {fd : FuncData} {ps : List Str} {n : Nat} {apos : Pos} {pl : Sem Bool} {Ps : List Pd} (F : FnOk P' w' K' mg' base' CX0 n g fd ps (SpP pre post)) (y : α) (h : XE M Γ Rs X o (PObj C fs)) (ha : XA M Γ Rs X (e :: es) Ps) (hy : pre y = PObj C fs :: Ps) (hnf : fs.lookup m = none) (hc : Cls K' C) (hm : Meth K' C m g) (hr : Room n X.A) (hb : Binds K' fd ps [])
    (hst : starEach (e :: es) X.env = (false, eval e X.env) :: starEach es X.env := by rfl)
    (hpl : (backTo pos (starEach es X.env)).any (·.1) = false := by rfl)
    (ht :
      eval (.Call (.Attribute o m apos) (e :: es) [] pos) X.env = (do
      let obj ← eval o X.env
      standAt apos.atName
      let (meth, self0) ← holding [obj] (getMethod obj m pl)
      callWith pos meth self0 (backTo pos (starEach (e :: es) X.env)) (backToKw pos (keywordEach [] X.env))) := by rfl) (eP : X.prog = P' := by rfl) (ew : X.w = w' := by rfl) (eK : X.K = K' := by rfl) (em : X.mg = mg' := by rfl) (eb : X.base = base' := by rfl) : XE M Γ Rs X (.Call (.Attribute o m apos) (e :: es) [] pos) (post y) := by
  subst eP ew eK em eb
  exact YE.wp (pe_meth (pl := pl) pe_wp hc hm F hr hb (dvs := []) .nil pass0 pa_wp hst hpl ht) fun σ H0 H l ex k Q q => h σ H0 H l ex k _ fun v H1 G1 s1 k1 hv => by
    obtain ⟨a, dx, vs, h1, h2, h3⟩ := id hv
    refine ⟨a, dx, vs, h1, s1.le _ _ h2, (h3 m).2 hnf, ?_⟩
    refine ha σ H1 G1 (l.ex s1.ex) s1.le k1 _ fun ws H2 G2 s2 k2 hw => ?_
    refine ⟨y, H2, s2.le, Rok.nil, ?_, fun v H3 G3 s3 _ p3 => q v H3 G3 ((s1.trans s2).trans (s3.imp fun _ z => z.elim)) (k2.step0 s3) p3⟩
    rw [hy, List.append_nil]
    exact DAll.cons ((PObj C fs).m s2.ex hv) hw
/-- len of an object -/
theorem xe_lenO {P' : Program} {w' : World} {K' : PySem.W.Frag} {mg' : Str → Option Value} {base' : Heap} {α : Type} {pre : α → List Pd} {post : α → Pd} {g : Addr} {fd : FuncData} {ps : List Str} {n : Nat} {z : Int} (F : FnOk P' w' K' mg' base' CX0 n g fd ps (SpP pre post)) (y : α) (hm : X.mg "len" = none) (h : XE M Γ Rs X a (PObj C fs)) (hy : pre y = [PObj C fs]) (hz : post y = PD X.K (.int z)) (h0 : 0 ≤ z ∧ z < 2 ^ 63) (hf : PySem.W.findIn K' (.ref C) "__len__" = some (some (.ref g))) (hi : PySem.W.isFn K' (.ref g) = true) (hr : Room (n + 1) X.A) (hb : Binds K' fd ps []) (hg : Gl X "len" := by rfl) (he : starEach [a] X.env = (false, eval a X.env) :: starEach [] X.env := by rfl) (eP : X.prog = P' := by rfl) (ew : X.w = w' := by rfl) (eK : X.K = K' := by rfl) (em : X.mg = mg' := by rfl) (eb : X.base = base' := by rfl) : XE M Γ Rs X (.Call (.Name "len" p) [a] [] pos) (PD X.K (.int z)) := by
  subst eP ew eK em eb
  exact xe_callB (LhS.cr_lenO (C := C) (E := E0) hf hi F hr hb pass0) hm PySem.boot_len (xa_1 h he) (fun xs H0 H hx ex _ => by
    obtain ⟨v, e1, hv⟩ := da1 hx
    obtain ⟨a, dx, vs, h1, h2, h3⟩ := id hv
    subst e1
    exact fun Q q => ⟨a, dx, vs, by rw [h1], ex _ _ h2, y, H0, ex, Rok.nil, by rw [hy, ← h1]; exact DAll.cons hv DAll.nil, fun v H2 G2 s2 _ p2 => by
      rw [hz] at p2
      have p3 : v = .int z := p2
      exact ⟨z, p3, h0.1, h0.2, q _ H2 G2 (s2.imp fun _ z => z) rfl⟩⟩) hg (by decide) (by decide) he rfl
/-- self.f = e -/
theorem xs_fld {f : Str} {P : Pd} {x dx : Addr} {pos' : Pos} (ho : XE M Γ (Res.ob C x dx fs :: Rs) X o (PV (.ref x))) (hv : XE M Γ (Res.ob C x dx fs :: Rs) X e P) (hc : Cls X.K C) (hn : NoAttr X.K C f) (hz : fs.length < 100) (hM : M x) (hZ : ∀ H0 H, Step M Z0 Z H0 H → Rok (Res.ob C x dx fs :: Rs) H0 H → ∃ u, Z x = some u)
    (k : XS M Γ (Res.ob C x dx ((f, P) :: fs) :: Rs) X Z0 Z Hl D rest) (hs : swapsWith e (some (.Attribute o f pos')) pos.line X.env = pure false := by rfl) : XS M Γ (Res.ob C x dx fs :: Rs) X Z0 Z Hl D (.Assign [.Attribute o f pos'] e pos :: rest) :=
  xs_cons (ps_fld pe_wp pe_wp hs) fun σ H0 H l s b r => hv σ H0 H l s.le r _ fun y H1 G1 s1 k1 hy => ho σ H1 G1 (l.ex s1.ex) s1.le k1 _ fun v H2 G2 s2 k2 hv2 => by
    have hv' : v = .ref x := hv2
    subst hv'
    obtain ⟨h0, vs, hq, hd, hlen⟩ := k2.2 _ List.mem_cons_self
    have t := (s.trans s1).trans s2
    obtain ⟨uz, hZx⟩ := hZ H2 G2 t k2
    have nd := k2.1
    rw [List.flatMap_cons, List.nodup_append] at nd
    have ne : ∀ r ∈ Rs, ∀ a ∈ r.ad, a ≠ x := fun r hr a ha e => nd.2.2 x (by simp [Res.ob]) a (List.mem_flatMap.mpr ⟨r, hr, ha⟩) e.symm
    have kr : Rok Rs H2 G2 := ⟨nd.2.1, fun r hr => k2.2 r (List.mem_cons_of_mem _ hr)⟩
    refine ⟨x, C, dx, vs, rfl, hq, hc, hn, by omega, ?_⟩
    refine k _ H2 _ (l.ex (s1.ex.trans s2.ex)) ⟨fun a u hm ha => ?_, fun a u ha => ?_, t.ex, fun a u ha => ?_, t.nw⟩ (b.trans (s1.ex.trans s2.ex)) ⟨k2.1, fun r hr => ?_⟩
    · have na : a ≠ x := fun e => hm (e ▸ hM)
      rw [upd_ne na]
      exact t.un a u hm ha
    · by_cases e : a = x
      · subst e
        exact ⟨_, upd_same⟩
      · obtain ⟨o', h'⟩ := t.th a u ha
        exact ⟨o', by rw [upd_ne e]; exact h'⟩
    · have na : a ≠ x := fun e => by
        rw [e, h0] at ha
        cases ha
      rw [upd_ne na]
      exact t.le a u ha
    · obtain e | hr := List.mem_cons.mp hr
      · subst e
        exact ⟨h0, _, upd_same, hd.put (P.m s2.ex hy), Nat.le_trans (putF_length _ _ _) (by simp; omega)⟩
      · exact (kr.wr ne).2 r hr
/-- C(e, ..) -/
theorem xe_make {P' : Program} {w' : World} {K' : PySem.W.Frag} {mg' : Str → Option Value} {base' : Heap} {α : Type} {pre : α → List Pd} {fs : α → List (Str × Pd)} {x : Str} {f : Addr} {fd : FuncData} {ps : List Str} {n : Nat} {Ps : List Pd} {T : Pd} (MK : Mk K' C f) (F : FnOk P' w' K' mg' base' CX0 n f fd ps (SpI C pre fs)) (hr : Room (n + 1) X.A) (hm : mg' x = some (.ref C)) (hb : Binds K' fd ps [])
    (ha : XA M Γ Rs X (e :: es) Ps) (hx : ∀ vs H, DAll Ps vs H → ∃ y, DAll (pre y) vs H ∧ ∀ v H, (PObj C (fs y)).p v H → T.p v H) (cv : Cov M Rs) (hg : Gl X x := by rfl) (hdb : (x == ("__debug__" : Str)) = false := by decide)
    (he : starEach (e :: es) X.env = (false, eval e X.env) :: starEach es X.env := by rfl)
    (hpl : (backTo pos (starEach es X.env)).any (·.1) = false := by rfl) (eP : X.prog = P' := by rfl) (ew : X.w = w' := by rfl) (eK : X.K = K' := by rfl) (em : X.mg = mg' := by rfl) (eb : X.base = base' := by rfl) : XE M Γ Rs X (.Call (.Name x p) (e :: es) [] pos) T := by
  subst eP ew eK em eb
  exact YE.wp (pe_make MK F hr hg hm hb (dvs := []) .nil pass0 pa_wp hdb he hpl) fun σ H0 H l ex k Q q => ha σ H0 H l ex k _ fun vs H1 G1 s1 k1 a1 o dx ho hd hne => by
    obtain ⟨y, h1, h2⟩ := hx vs H1 a1
    have old : ∀ {a : Addr} {u : HO}, G1 a = some u → a ≠ o ∧ a ≠ dx := fun {a u} h => ⟨ne_of_none h ho, ne_of_none h hd⟩
    have ks : ∀ {a : Addr} {u : HO}, G1 a = some u → upd (upd G1 dx (.own o)) o (.ins C dx []) a = some u := fun {a u} h => by
      rw [upd_ne (old h).1, upd_ne (old h).2]
      exact h
    refine ⟨y, o, dx, H1, vs, by rw [List.append_nil], fun a u h => ks (s1.le a u h), ⟨by simp [Res.ob], fun r hr => ?_⟩, h1, fun H2 G2 s2 k2 => ⟨rfl, ?_⟩⟩
    · have e1 : r = Res.ob C o dx [] := by simpa using hr
      subst e1
      exact ⟨fresh_back s1.le ho, [], upd_same, fun f => ⟨fun P z => (by cases z), fun _ => rfl⟩, Nat.le_refl _⟩
    · obtain ⟨h0, ws, hq, hf, _⟩ := k2.2 _ List.mem_cons_self
      have ne : ∀ r ∈ Rs, ∀ a ∈ r.ad, a ≠ o := fun r hr a ha e => by
        obtain ⟨⟨u, h⟩, _⟩ := r.tr (k1.2 r hr) a ha
        exact (old h).1 e
      have nd : ∀ r ∈ Rs, ∀ a ∈ r.ad, a ≠ dx := fun r hr a ha e => by
        obtain ⟨⟨u, h⟩, _⟩ := r.tr (k1.2 r hr) a ha
        exact (old h).2 e
      have k1' : Rok Rs H1 (upd (upd G1 dx (.own o)) o (.ins C dx [])) := (k1.wr nd).wr ne
      have k2' : Rok Rs H2 G2 := k1'.step s2 fun r hr a ha hm => ne r hr a ha hm
      have nMo : ¬ M o := fun z => by
        obtain ⟨u, h⟩ := cv H1 G1 k1 o z
        rw [ho] at h
        cases h
      refine q _ (upd H2 o (.ins C dx ws)) G2 (s1.trans ⟨fun a u _ h => s2.un a u (fun z => (old h).1 z) (ks h), fun a u h => s2.th a u (ks h), s2.ex.trans (Ex.new h0), fun a u h => ?_, fun a u h => ?_⟩) (k2'.updA h0 ne) (h2 _ _ ⟨o, dx, ws, rfl, upd_same, hf.ex (Ex.new h0)⟩)
      · by_cases e : a = o
        · subst e
          rw [upd_same] at h
          rw [hq]
          exact h
        · rw [upd_ne e] at h
          exact s2.le a u h
      · by_cases e : a = o
        · subst e
          exact .inr ho
        · rw [upd_ne e] at h
          rcases s2.nw a u h with z | z
          · exact .inl z
          · refine .inr ?_
            cases e2 : G1 a with
            | none => rfl
            | some w =>
              rw [ks e2] at z
              cases z
end
section
variable {K : PySem.W.Frag} {mg : Str → Option Value} {base : Heap} {P : Program} {w : World}
/-- an __init__ by its body -/
theorem fn_I {α : Type} {C : Addr} {pre : α → List Pd} {fs : α → List (Str × Pd)} {x qual : Str} {st : Stmt} {f : Addr} {fd : FuncData} {N ps : List Str} {k : Nat} (F : Fun K x qual st f fd) (S : FnScope N ps (defScope st)) (len : ∀ y, (pre y).length + 1 = ps.length)
    (hb : ∀ (y : α) (o dx : Addr) (Z0 Z : Hp) (Q : VK) (X : Cx) (qX : ∃ (cdv : Value) (A : Around) (outer : List Env) (s : Shared) (E : XK), X = (cxOf CX0 P w K mg base N qual (defScope st) f cdv A outer s Z E).nox ∧ Room k X.A), (∃ u, Z o = some u) → (∀ H0' H', Step (MX o) Z0 Z H0' H' → Rok [Res.ob C o dx (fs y)] H0' H' → Q .non H') →
      XS (MX o) (ctOf N (PV (.ref o) :: pre y)) [Res.ob C o dx []] X Z0 Z Z0 { nx := fun _ H' => Q .non H', rt := Q } (defBody st)) : FnOk P w K mg base CX0 (k + 1) f fd ps (SpI C pre fs) := by
  refine F.ok S (fun vs H Q E h => ?_) (fun cdv A outer s H vs Q E hr h => ?_)
  · obtain ⟨y, o, dx, H0, ws, rfl, _, _, h, _⟩ := h
    rw [List.length_cons, h.1, len]
  · obtain ⟨y, o, dx, H0, ws, rfl, e, r, h, q⟩ := h
    refine ⟨_, pss_wp, ?_⟩
    obtain ⟨_, vs', hq, _⟩ := r.2 _ List.mem_cons_self
    exact hb y o dx H0 H Q _ ⟨cdv, A, outer, s, E, rfl, hr⟩ ⟨_, hq⟩ q _ H0 H (sl_start (DAll.cons (P := PV (.ref o)) rfl h)) (Step.rfl e) (Ex.refl _) r
end
end Lh
namespace Lh
open PySem L2
open Evl (Ex ex_l ex_t ex_rd fresh_back)
def onI (h : Int → PyData) : PyData → PyData
  | .int n => h n
  | _ => .none
def onB (t : Int → Bool) : PyData → Bool
  | .int n => t n
  | _ => false
theorem map_onI (h : Int → PyData) (ns : List Int) : (li ns).map (onI h) = ns.map h := by
  unfold li
  rw [List.map_map]
  rfl
theorem filt_onI (h : Int → PyData) (t : Int → Bool) (ns : List Int) : ((li ns).filter (onB t)).map (onI h) = (ns.filter t).map h := by
  induction ns with
  | nil => rfl
  | cons n ns ih =>
    have e1 : li (n :: ns) = .int n :: li ns := rfl
    have e2 : onB t (.int n) = t n := rfl
    rw [e1, List.filter_cons, List.filter_cons, e2]
    by_cases e : t n = true
    · rw [if_pos e, if_pos e, List.map_cons, List.map_cons, ih]
      rfl
    · rw [if_neg e, if_neg e, ih]
section
variable {M : Addr → Prop} {Γ Γ' : Ct} {Rs : List Res} {X : Cx} {K : PySem.W.Frag}
theorem xe_mapI (j : Nat) {x : Str} {elt iter : Expr} {scope : Scope} {pos xp : Pos} {ns : List Int} (h : Int → PyData) (hi : XI M Γ Rs X (.Name x xp) iter ((li ns).map (PD X.K))) (ht : ∀ n, n ∈ ns → Blk X scope fun Y => XE M (blkG Γ j (PD X.K (.int n))) Rs Y elt (PD X.K (h n)))
    (hN : X.N.Nodup) (ok : BlkOk X.N X.env.scope scope [(x, j)]) (hz : ns.length ≤ 100000) (cv : Cov M Rs) (hg : BlkG X scope x xp j) (hc : X.calm = true := by rfl) (hs : ∀ x, foldedSetIterable iter X.env x = pure x := by intro _; rfl) :
    XE M Γ Rs X (.ListComp elt [⟨.Name x xp, iter, [], 0⟩] scope pos) (PD X.K (.list (ns.map h))) := by
  have q := xe_map j (onI h) hi (fun d hd => by
    obtain ⟨n, hn, rfl⟩ := List.mem_map.mp hd
    exact ht n hn) hN ok (by simpa [li] using hz) cv hg hc hs (pos := pos)
  rw [map_onI] at q
  exact q
theorem xe_filtI (j : Nat) {x : Str} {elt iter c : Expr} {scope : Scope} {pos xp : Pos} {ns : List Int} (h : Int → PyData) (t : Int → Bool) (hi : XI M Γ Rs X (.Name x xp) iter ((li ns).map (PD X.K))) (hc' : ∀ n, n ∈ ns → Blk X scope fun Y => XT M (blkG Γ j (PD X.K (.int n))) Rs Y c (Is (t n)))
    (ht : ∀ n, n ∈ ns → t n = true → Blk X scope fun Y => XE M (blkG Γ j (PD X.K (.int n))) Rs Y elt (PD X.K (h n)))
    (hN : X.N.Nodup) (ok : BlkOk X.N X.env.scope scope [(x, j)]) (hz : ns.length ≤ 100000) (cv : Cov M Rs) (hg : BlkG X scope x xp j) (hc : X.calm = true := by rfl) (hs : ∀ x, foldedSetIterable iter X.env x = pure x := by intro _; rfl) :
    XE M Γ Rs X (.ListComp elt [⟨.Name x xp, iter, [c], 0⟩] scope pos) (PD X.K (.list ((ns.filter t).map h))) := by
  have q := xe_filt j (onI h) (onB t) hi (fun d hd => by
    obtain ⟨n, hn, rfl⟩ := List.mem_map.mp hd
    exact hc' n hn) (fun d hd => by
    obtain ⟨n, hn, rfl⟩ := List.mem_map.mp hd
    exact ht n hn) hN ok (by simpa [li] using hz) cv hg hc hs (pos := pos)
  rw [filt_onI] at q
  exact q
end
end Lh
namespace Lh
open PySem L2
open Evl (Ex ex_l ex_t ex_rd fresh_back)
section
variable {M : Addr → Prop} {Γ Γ' : Ct} {Rs : List Res} {X : Cx} {Z0 Z Hl : Hp} {D : Ends} {K : PySem.W.Frag} {rest : List Stmt} {a b c o e : Expr} {pos p : Pos} {i j k : Int}
theorem enc_at {τ : Type} {enc : τ → PyData} {xs : List τ} {t : Nat} {d : PyData} (h : (xs.map enc)[t]? = some d) : ∃ x, xs[t]? = some x ∧ d = enc x := by
  rw [List.getElem?_map] at h
  cases e : xs[t]? with
  | none =>
    rw [e] at h
    cases h
  | some n =>
    rw [e] at h
    exact ⟨n, rfl, (Option.some.inj h).symm⟩
theorem xe_mapG {τ : Type} (enc : τ → PyData) (xs : List τ) (j : Nat) {x : Str} {elt iter : Expr} {scope : Scope} {pos xp : Pos} (f : τ → PyData) (hi : XI M Γ Rs X (.Name x xp) iter ((xs.map enc).map (PD X.K))) (ht : ∀ d, d ∈ xs → Blk X scope fun Y => XE M (blkG Γ j (PD X.K (enc d))) Rs Y elt (PD X.K (f d)))
    (hN : X.N.Nodup) (ok : BlkOk X.N X.env.scope scope [(x, j)]) (hz : xs.length ≤ 100000) (cv : Cov M Rs) (hg : BlkG X scope x xp j) (hc : X.calm = true := by rfl) (hs : ∀ x, foldedSetIterable iter X.env x = pure x := by intro _; rfl) :
    XE M Γ Rs X (.ListComp elt [⟨.Name x xp, iter, [], 0⟩] scope pos) (PD X.K (.list (xs.map f))) :=
  (xe_lc (K := X.K) j hi (fun i es => es = (xs.take i).map f) rfl (fun i Q hq => by
    obtain ⟨d', hd', e⟩ := map_at hq
    obtain ⟨d, hd, e2⟩ := enc_at hd'
    subst e e2
    intro s0 H0 C cl fp
    refine YE.imp (ht d (List.mem_of_getElem? hd) s0 H0 C cl fp) fun v H h => ⟨f d, fun es _ he => ?_, h⟩
    dsimp only at he ⊢
    rw [he, List.take_add_one, hd]
    simp) hN ok (by rw [List.length_map, List.length_map]; exact hz) cv hg hc hs).imp fun v H ⟨es, ⟨h1, _⟩, h2⟩ => by
    rw [List.length_map, List.length_map, List.take_length] at h1
    subst h1
    exact h2
theorem xe_filtG {τ : Type} (enc : τ → PyData) (xs : List τ) (j : Nat) {x : Str} {elt iter c : Expr} {scope : Scope} {pos xp : Pos} (f : τ → PyData) (t : τ → Bool) (hi : XI M Γ Rs X (.Name x xp) iter ((xs.map enc).map (PD X.K))) (hc' : ∀ d, d ∈ xs → Blk X scope fun Y => XT M (blkG Γ j (PD X.K (enc d))) Rs Y c (Is (t d)))
    (ht : ∀ d, d ∈ xs → t d = true → Blk X scope fun Y => XE M (blkG Γ j (PD X.K (enc d))) Rs Y elt (PD X.K (f d)))
    (hN : X.N.Nodup) (ok : BlkOk X.N X.env.scope scope [(x, j)]) (hz : xs.length ≤ 100000) (cv : Cov M Rs) (hg : BlkG X scope x xp j) (hc : X.calm = true := by rfl) (hs : ∀ x, foldedSetIterable iter X.env x = pure x := by intro _; rfl) :
    XE M Γ Rs X (.ListComp elt [⟨.Name x xp, iter, [c], 0⟩] scope pos) (PD X.K (.list ((xs.filter t).map f))) :=
  (xe_lcIf (K := X.K) j hi (fun i es => es = ((xs.take i).filter t).map f) rfl (fun i Q hq => by
    obtain ⟨d', hd', e⟩ := map_at hq
    obtain ⟨d, hd, e2⟩ := enc_at hd'
    subst e e2
    have hm := List.mem_of_getElem? hd
    refine ⟨Is (t d), hc' d hm, fun hb s0 H0 C cl fp => ?_, fun hb es he => ?_⟩
    · refine YE.imp (ht d hm hb.symm s0 H0 C cl fp) fun v H h => ⟨f d, fun es _ he => ?_, h⟩
      dsimp only at he ⊢
      rw [he, List.take_add_one, hd]
      simp [← hb]
    · dsimp only at he ⊢
      rw [he, List.take_add_one, hd]
      simp [← hb]) hN ok (by rw [List.length_map, List.length_map]; exact hz) cv hg hc hs).imp fun v H ⟨es, ⟨h1, _⟩, h2⟩ => by
    rw [List.length_map, List.length_map, List.take_length] at h1
    subst h1
    exact h2
theorem xs_filtG {τ : Type} (enc : τ → PyData) (xs : List τ) (i j : Nat) {x y : Str} {elt iter c : Expr} {scope : Scope} {pos spos xp py : Pos} (f : τ → PyData) (t : τ → Bool) (hi : XI M Γ Rs X (.Name x xp) iter ((xs.map enc).map (PD X.K))) (hc' : ∀ d, d ∈ xs → Blk X scope fun Y => XT M (blkG Γ j (PD X.K (enc d))) Rs Y c (Is (t d)))
    (ht : ∀ d, d ∈ xs → t d = true → Blk X scope fun Y => XE M (blkG Γ j (PD X.K (enc d))) Rs Y elt (PD X.K (f d))) (k : XS M (Γ.set i (some (PD X.K (.list ((xs.filter t).map f))))) Rs X Z0 Z Hl D rest) (hN : X.N.Nodup) (ok : BlkOk X.N X.env.scope scope [(x, j)]) (hz : xs.length ≤ 100000) (cv : Cov M Rs) (hg : BlkG X scope x xp j)
    (hsw : swapsWith (.ListComp elt [⟨.Name x xp, iter, [c], 0⟩] scope pos) (some (.Name y py)) spos.line X.env = pure true) (hy : X.N[i]? = some y := by rfl) (hyl : X.env.scope.names.lookup y = some .local := by rfl) (hc : X.calm = true := by rfl) (hs : ∀ x, foldedSetIterable iter X.env x = pure x := by intro _; rfl) :
    XS M Γ Rs X Z0 Z Hl D (.Assign [.Name y py] (.ListComp elt [⟨.Name x xp, iter, [c], 0⟩] scope pos) spos :: rest) :=
  xs_lcIf (K := X.K) i j hi (fun i es => es = ((xs.take i).filter t).map f) rfl (fun i Q hq => by
    obtain ⟨d', hd', e⟩ := map_at hq
    obtain ⟨d, hd, e2⟩ := enc_at hd'
    subst e e2
    have hm := List.mem_of_getElem? hd
    refine ⟨Is (t d), hc' d hm, fun hb s0 H0 C cl fp => ?_, fun hb es he => ?_⟩
    · refine YE.imp (ht d hm hb.symm s0 H0 C cl fp) fun v H h => ⟨f d, fun es _ he => ?_, h⟩
      dsimp only at he ⊢
      rw [he, List.take_add_one, hd]
      simp [← hb]
    · dsimp only at he ⊢
      rw [he, List.take_add_one, hd]
      simp [← hb]) (fun ds ⟨h1, _⟩ => by
    rw [List.length_map, List.length_map, List.take_length] at h1
    subst h1
    exact k) hN ok (by rw [List.length_map, List.length_map]; exact hz) cv hg hsw hy hyl hc hs

/-! ### a list at hand is read -/
theorem xe_ixM {q : Addr} {Ps : List Pd} {P : Pd} (ha : XE M Γ (Res.lst Z q Ps :: Rs) X a (PV (.ref q))) (hb : XE M Γ (Res.lst Z q Ps :: Rs) X b (PD X.K (.int i))) (h : atI Ps i = some P) (hs : PlainIx b := by exact fun _ _ => rfl) : XE M Γ (Res.lst Z q Ps :: Rs) X (.Subscript a b pos) P :=
  YE.wp (pe_ix ix_list pe_wp pe_wp hs) (ye_op ha hb fun x y H0 H hx hy e r => by
    obtain ⟨_, _, xs, hq, hd⟩ := r.2 _ List.mem_cons_self
    unfold atI at h
    cases e1 : ixN Ps.length i with
    | none =>
      rw [e1] at h
      cases h
    | some t =>
      rw [e1] at h
      obtain ⟨v, h1, h2⟩ := hd.2 t P h
      refine Yld.val (z := v) e h2 fun Q k => ⟨q, xs, i, v, hx, hy, SqL.of hq, ?_, k⟩
      unfold atI
      rw [hd.1, e1]
      exact h1)
theorem xe_lenM {q : Addr} {Ps : List Pd} (hm : X.mg "len" = none) (ha : XE M Γ (Res.lst Z q Ps :: Rs) X a (PV (.ref q))) (hg : Gl X "len" := by rfl) (he : starEach [a] X.env = (false, eval a X.env) :: starEach [] X.env := by rfl) : XE M Γ (Res.lst Z q Ps :: Rs) X (.Call (.Name "len" p) [a] [] pos) (PD X.K (.int (Ps.length : Int))) :=
  xe_callB call_len_seq hm PySem.boot_len (xa_1 ha he) (fun xs H0 H hx e r => by
    obtain ⟨x, e1, h1⟩ := da1 hx
    obtain ⟨_, _, ys, hq, hd⟩ := r.2 _ List.mem_cons_self
    have h1' : x = .ref q := h1
    subst e1 h1'
    exact Yld.val (z := .int (ys.length : Int)) e (by rw [hd.1]; rfl) fun Q k => ⟨q, ys, rfl, .inl (SqL.of hq), k⟩) hg (by decide) (by decide) he rfl
/-- a list or a tuple -/
def PSeq (K : PySem.W.Frag) (ds : List PyData) : Pd := ⟨fun v H => Dd K H (.list ds) v ∨ Dd K H (.tuple ds) v, fun e h => h.imp (Dd.ex e _ _) (Dd.ex e _ _)⟩
/-! ### more statements -/
/-- x, y = e -/
theorem xs_unp (i j : Nat) {x y : Str} {e : Expr} {P Q : Pd} {px py pt : Pos} {kt : Nat} {pos : Pos} (he : XE M Γ Rs X e (PT2 X.K P Q)) (h : XS M ((Γ.set i (some P)).set j (some Q)) Rs X Z0 Z Hl D rest) (hN : X.N.Nodup) (hc : X.calm = true := by rfl) (hx : X.N[i]? = some x := by rfl) (hy : X.N[j]? = some y := by rfl)
    (hl : Loc X.env.scope x := by first | exact Or.inl rfl | exact Or.inr rfl) (hl2 : Loc X.env.scope y := by first | exact Or.inl rfl | exact Or.inr rfl)
    (hf : X.fn x = true ∨ X.env.scope.names.lookup x = some .local := by first | exact .inl rfl | exact .inr rfl) (hf2 : X.fn y = true ∨ X.env.scope.names.lookup y = some .local := by first | exact .inl rfl | exact .inr rfl)
    (hs : swapsWithSole [.Tuple [.Name x px, .Name y py] kt pt] e pos.line X.env = pure false := by rfl) (hw : swappedStores [.Tuple [.Name x px, .Name y py] kt pt] e X.env = pure none := by rfl)
    (h1 : (assignEach [.Tuple [.Name x px, .Name y py] kt pt] X.env).map (·.2) = [assign (.Tuple [.Name x px, .Name y py] kt pt) X.env] := by rfl) : XS M Γ Rs X Z0 Z Hl D (.Assign [.Tuple [.Name x px, .Name y py] kt pt] e pos :: rest) :=
  xs_cons (ps_asg pe_wp (pg_tup hc (pgs_cons (pg_name hN hx hl hf) (pgs_cons (pg_name hN hy hl2 hf2) pgs_nil))) hs hw h1) fun σ H0 H l s b r => he σ H0 H l s.le r _ fun v H1 G1 s1 k1 hv =>
    gv_pair v σ H1 G1 (l.ex s1.ex) s1.le hv _ fun σ' l' => h σ' H1 G1 l' (s.trans s1) (b.trans s1.ex) k1
theorem pt2_of {d1 d2 : PyData} {v : V} {H : Hp} (h : (PD K (.tuple [d1, d2])).p v H) : (PT2 K (PD K d1) (PD K d2)).p v H := by
  obtain ⟨a, xs, e, h1, x, r, e1, h2, y, r', e2, h3, e3⟩ := h
  have e3' : r' = [] := e3
  subst e1 e2 e3'
  exact ⟨a, x, y, e, h1, h2, h3⟩
theorem xe_pt2 {d1 d2 : PyData} (h : XE M Γ Rs X a (PD X.K (.tuple [d1, d2]))) : XE M Γ Rs X a (PT2 X.K (PD X.K d1) (PD X.K d2)) := h.imp fun v H p => pt2_of p
/-- x += e, x -= e, ints -/
theorem xs_augI (n : Nat) {x : Str} {e : Expr} {op : Operator} {f : Int → Int → Int} {pos pos' : Pos} (ho : PIp X op (rI0 fun i j => .int (f i j))) (hx : Γ[n]? = some (some (PD X.K (.int i)))) (he : XE M Γ Rs X e (PD X.K (.int j))) (h : XS M (Γ.set n (some (PD X.K (.int (f i j))))) Rs X Z0 Z Hl D rest) (hN : X.N.Nodup)
    (hi : X.N[n]? = some x := by rfl) (hl : Loc X.env.scope x := by first | exact Or.inl rfl | exact Or.inr rfl) (hf : X.fn x = true ∨ X.env.scope.names.lookup x = some .local := by first | exact .inl rfl | exact .inr rfl) : XS M Γ Rs X Z0 Z Hl D (.AugAssign (.Name x pos') op e pos :: rest) :=
  xs_cons (ps_aug hN hi hl pe_wp ho hf) fun σ H0 H l s b r => by
    obtain ⟨v, h1, h2⟩ := l.2 n _ hx
    have h2' : v = .int i := h2
    subst h2'
    refine ⟨_, h1, he σ H0 H l s.le r _ fun y H1 G1 s1 k1 hy => ?_⟩
    have hy' : y = .int j := hy
    subst hy'
    exact ⟨i, j, rfl, rfl, h _ H1 G1 ((l.ex s1.ex).set rfl) (s.trans s1) (b.trans s1.ex) k1⟩
theorem xs_addI (n : Nat) {x : Str} {e : Expr} {pos pos' : Pos} (hx : Γ[n]? = some (some (PD X.K (.int i)))) (he : XE M Γ Rs X e (PD X.K (.int j))) (h : XS M (Γ.set n (some (PD X.K (.int (i + j))))) Rs X Z0 Z Hl D rest) (hN : X.N.Nodup)
    (hi : X.N[n]? = some x := by rfl) (hl : Loc X.env.scope x := by first | exact Or.inl rfl | exact Or.inr rfl) (hf : X.fn x = true ∨ X.env.scope.names.lookup x = some .local := by first | exact .inl rfl | exact .inr rfl) : XS M Γ Rs X Z0 Z Hl D (.AugAssign (.Name x pos') .Add e pos :: rest) := xs_augI n (f := fun i j => i + j) iop_add hx he h hN hi hl hf
end
end Lh
namespace Lh
open PySem L2
open Evl (Ex ex_l ex_t ex_rd fresh_back)
section
variable {M : Addr → Prop} {Γ Γ' : Ct} {Rs : List Res} {X : Cx} {Z0 Z Hl : Hp} {D : Ends} {K : PySem.W.Frag} {rest : List Stmt} {a b c o e : Expr} {pos p : Pos} {i j k : Int}
theorem xs_frzK (i : Nat) {q : Addr} {ds : List PyData} {Ps : List Pd} (eP : Ps = ds.map (PD X.K)) (hi : Γ[i]? = some (some (PV (.ref q)))) (h : XS M (Γ.set i (some (PD X.K (.list ds)))) Rs X Z0 Z Hl D rest) : XS M Γ (Res.lst Z q Ps :: Rs) X Z0 Z Hl D rest := by
  subst eP
  exact xs_frz i hi h
end
end Lh
namespace Lh
open PySem L2
open Evl (Ex ex_l ex_t ex_rd fresh_back)
/-- the box of what is still to be drawn: a list of a list of ints and an int -/
def Res.boxC (b l : Addr) (ns : List Int) (z : Int) : Res where
  ad := [b, l]
  p := fun H0 H => H0 b = none ∧ H0 l = none ∧ H b = some (.lst [.ref l, .int z]) ∧ H l = some (.lst (ns.map V.int))
  st := fun {H0 H H0' H'} e n q ⟨_, _, h2, h3⟩ => ⟨n b (by simp), n l (by simp), by rw [q b (by simp)]; exact h2, by rw [q l (by simp)]; exact h3⟩
  tr := fun {H0 H} ⟨h0, h1, h2, h3⟩ a ha => by
    obtain e | ha := List.mem_cons.mp ha
    · subst e
      exact ⟨⟨_, h2⟩, h0⟩
    · have e : a = l := by simpa using ha
      subst e
      exact ⟨⟨_, h3⟩, h1⟩
def Res.box (b l : Addr) : Res where
  ad := [b, l]
  p := fun H0 H => ∃ ns z, (Res.boxC b l ns z).p H0 H
  st := fun {H0 H H0' H'} e n q ⟨ns, z, h⟩ => ⟨ns, z, (Res.boxC b l ns z).st e n q h⟩
  tr := fun {H0 H} ⟨ns, z, h⟩ a ha => (Res.boxC b l ns z).tr h a ha
def MB (b l : Addr) : Addr → Prop := fun a => a = b ∨ a = l
section
variable {M M' : Addr → Prop} {Γ Γ' : Ct} {Rs : List Res} {X : Cx} {Z0 Z Hl : Hp} {D : Ends} {K : PySem.W.Frag} {rest : List Stmt} {a o e : Expr} {pos p : Pos} {i j k : Int} {b l : Addr} {ns ns' : List Int} {z z' : Int}
theorem cov_box : Cov (MB b l) (Res.box b l :: Rs) := fun H0 H k a ha => by
  obtain ⟨ns, z, _, _, h2, h3⟩ := k.2 _ List.mem_cons_self
  rcases ha with e | e
  · subst e
    exact ⟨_, h2⟩
  · subst e
    exact ⟨_, h3⟩
theorem xs_weak (i : ∀ a, M a → M' a) (h : XS M' Γ Rs X Z0 Z Hl D rest) : XS M Γ Rs X Z0 Z Hl D rest := fun σ H0 H l s b k => h σ H0 H l (s.imp i) b k
theorem box_ne {H0 H : Hp} (k : Rok (Res.boxC b l ns z :: Rs) H0 H) : b ≠ l := fun e => by
  have nd := k.1
  rw [List.flatMap_cons, List.nodup_append] at nd
  have := nd.1
  simp [Res.boxC, e] at this
theorem box_wr {H0 H H' : Hp} (k : Rok (Res.boxC b l ns z :: Rs) H0 H) (s : Step M Z0 Z H0 H) (hb : H' b = some (.lst [.ref l, .int z'])) (hl : H' l = some (.lst (ns'.map V.int))) (ho : ∀ a, a ≠ b → a ≠ l → H' a = H a) (mb : M b ∨ Z b = none) (ml : M l ∨ Z l = none) :
    Rok (Res.boxC b l ns' z' :: Rs) H0 H' ∧ Step M Z0 Z H0 H' := by
  obtain ⟨h0, h1, h2, h3⟩ := k.2 _ List.mem_cons_self
  have nd := k.1
  rw [List.flatMap_cons, List.nodup_append] at nd
  have ne : ∀ r ∈ Rs, ∀ a ∈ r.ad, ∀ c ∈ [b, l], a ≠ c := fun r hr a ha c hc e => nd.2.2 c hc a (List.mem_flatMap.mpr ⟨r, hr, ha⟩) e.symm
  refine ⟨⟨k.1, fun r hr => ?_⟩, ⟨fun a u hm ha => ?_, fun a u ha => ?_, s.ex, fun a u ha => ?_, s.nw⟩⟩
  · obtain e | hr := List.mem_cons.mp hr
    · subst e
      exact ⟨h0, h1, hb, hl⟩
    · have hr' := k.2 r (List.mem_cons_of_mem _ hr)
      exact r.st (Ex.refl _) (fun a ha => (r.tr hr' a ha).2) (fun a ha => ho a (ne r hr a ha b (by simp)) (ne r hr a ha l (by simp))) hr'
  · by_cases e : a = b
    · subst e
      rcases mb with m | m
      · exact absurd m hm
      · rw [m] at ha
        cases ha
    · by_cases e2 : a = l
      · subst e2
        rcases ml with m | m
        · exact absurd m hm
        · rw [m] at ha
          cases ha
      · rw [ho a e e2]
        exact s.un a u hm ha
  · by_cases e : a = b
    · subst e
      exact ⟨_, hb⟩
    · by_cases e2 : a = l
      · subst e2
        exact ⟨_, hl⟩
      · rw [ho a e e2]
        exact s.th a u ha
  · have n1 : a ≠ b := fun e => by
      subst e
      rw [h0] at ha
      cases ha
    have n2 : a ≠ l := fun e => by
      subst e
      rw [h1] at ha
      cases ha
    rw [ho a n1 n2]
    exact s.le a u ha
/-! ### the box is read -/
theorem xe_bx0 (ho : XE M Γ (Res.boxC b l ns z :: Rs) X o (PV (.ref b))) {kc : Nat} {pc : Pos} : XE M Γ (Res.boxC b l ns z :: Rs) X (.Subscript o (.Constant (.int 0) kc pc) pos) (PV (.ref l)) :=
  YE.wp (pe_ix ix_list pe_wp pe_wp (fun _ _ => rfl)) (ye_op ho (xe_int (K := X.K)) fun x y H0 H hx hy e r => by
    obtain ⟨_, _, h2, h3⟩ := r.2 _ List.mem_cons_self
    refine Yld.val (z := .ref l) e rfl fun Q k => ⟨b, _, 0, _, hx, hy, SqL.of h2, rfl, k⟩)
theorem xe_bx1 (ho : XE M Γ (Res.boxC b l ns z :: Rs) X o (PV (.ref b))) {kc : Nat} {pc : Pos} : XE M Γ (Res.boxC b l ns z :: Rs) X (.Subscript o (.Constant (.int 1) kc pc) pos) (PD K (.int z)) :=
  YE.wp (pe_ix ix_list pe_wp pe_wp (fun _ _ => rfl)) (ye_op ho (xe_int (K := X.K)) fun x y H0 H hx hy e r => by
    obtain ⟨_, _, h2, h3⟩ := r.2 _ List.mem_cons_self
    refine Yld.val (z := .int z) e rfl fun Q k => ⟨b, _, 1, _, hx, hy, SqL.of h2, rfl, k⟩)
theorem xe_bxi {n : Int} (ho : XE M Γ (Res.boxC b l (n :: ns) z :: Rs) X o (PV (.ref l))) {kc : Nat} {pc : Pos} : XE M Γ (Res.boxC b l (n :: ns) z :: Rs) X (.Subscript o (.Constant (.int 0) kc pc) pos) (PD K (.int n)) :=
  YE.wp (pe_ix ix_list pe_wp pe_wp (fun _ _ => rfl)) (ye_op ho (xe_int (K := X.K)) fun x y H0 H hx hy e r => by
    obtain ⟨_, _, h2, h3⟩ := r.2 _ List.mem_cons_self
    refine Yld.val (z := .int n) e rfl fun Q k => ⟨l, _, 0, _, hx, hy, SqL.of h3, ?_, k⟩
    have : ((n :: ns).map V.int)[0]? = some (V.int n) := rfl
    exact atI_nat this)
theorem eqv_nil : ∀ ns : List Int, PyData.eqv (.list (li ns)) (.list []) = decide (ns = [])
  | [] => rfl
  | n :: ns => rfl
theorem shaped_li (ns : List Int) : SeqAt.shaped (.list (li ns)) = true := PySem.W.shaped_ints ns
theorem xt_bxe {n : Nat} (hr : Room n X.A) (ho : XE M Γ (Res.boxC b l ns z :: Rs) X o (PV (.ref l))) {pl : Pos} : XT M Γ (Res.boxC b l ns z :: Rs) X (.Compare o [.Eq] [.List [] pl] pos) (Is (decide (ns = []))) :=
  xt_cmp (K := X.K) (op_eqD (room_u hr)) ho (xe_lst (ds := []) xa_nil (by simp)) (fun x y H0 H hx hy e r => by
    obtain ⟨_, _, h2, h3⟩ := r.2 _ List.mem_cons_self
    have d1 : Dd X.K H (.list (li ns)) x := ⟨l, _, hx, h3, DdAll.of_ints ns⟩
    refine (Yld.val (z := .bl (decide (ns = []))) (C := PD X.K (.bool (decide (ns = [])))) e rfl fun Q q => ⟨_, _, Dd.dp _ x d1, Dd.dp _ y (Dd.ex e _ _ hy), shaped_li ns, rfl, ?_⟩).pb
    rw [eqv_nil]
    exact q) (nomark _)
/-! ### the box is written -/
theorem xs_bx1 {kc : Nat} {pc p2 : Pos} (he : XE M Γ (Res.boxC b l ns z :: Rs) X e (PD X.K (.int z'))) (ho : XE M Γ (Res.boxC b l ns z :: Rs) X o (PV (.ref b))) (mb : M b ∨ Z b = none) (ml : M l ∨ Z l = none) (h : XS M Γ (Res.boxC b l ns z' :: Rs) X Z0 Z Hl D rest)
    (hs : swapsWithSole [.Subscript o (.Constant (.int 1) kc pc) p2] e pos.line X.env = pure false := by rfl) (hw : swappedStores [.Subscript o (.Constant (.int 1) kc pc) p2] e X.env = pure none := by rfl)
    (h1 : (assignEach [.Subscript o (.Constant (.int 1) kc pc) p2] X.env).map (·.2) = [assign (.Subscript o (.Constant (.int 1) kc pc) p2) X.env] := by rfl) : XS M Γ (Res.boxC b l ns z :: Rs) X Z0 Z Hl D (.Assign [.Subscript o (.Constant (.int 1) kc pc) p2] e pos :: rest) :=
  xs_cons (ps_asg pe_wp (pg_sub pe_wp pe_wp set_list) hs hw h1) fun σ H0 H l' s b' r => he σ H0 H l' s.le r _ fun v H1 G1 s1 k1 hv => ho σ H1 G1 (l'.ex s1.ex) s1.le k1 _ fun v2 H2 G2 s2 k2 hv2 => (xe_int (K := X.K)) σ H2 G2 (l'.ex (s1.ex.trans s2.ex)) s2.le k2 _ fun v3 H3 G3 s3 k3 hv3 => by
    have t := ((s.trans s1).trans s2).trans s3
    have hne := box_ne k3
    obtain ⟨_, _, h2, h3⟩ := k3.2 _ List.mem_cons_self
    have hv' : v = .int z' := hv
    have hv2' : v2 = .ref b := hv2
    have hv3' : v3 = .int 1 := hv3
    subst hv' hv2' hv3'
    refine ⟨b, _, 1, 1, rfl, rfl, h2, rfl, ?_⟩
    obtain ⟨k4, s4⟩ := box_wr (H' := upd G3 b (.lst ([V.ref l, .int z].set 1 (.int z')))) k3 t upd_same (by rw [upd_ne hne.symm]; exact h3) (fun a n1 n2 => upd_ne n1) mb ml
    exact h _ H3 _ (l'.ex ((s1.ex.trans s2.ex).trans s3.ex)) s4 (b'.trans ((s1.ex.trans s2.ex).trans s3.ex)) k4
theorem xs_bx0 {n n' : Int} {kc : Nat} {pc p2 : Pos} (he : XE M Γ (Res.boxC b l (n :: ns) z :: Rs) X e (PD X.K (.int n'))) (ho : XE M Γ (Res.boxC b l (n :: ns) z :: Rs) X o (PV (.ref l))) (mb : M b ∨ Z b = none) (ml : M l ∨ Z l = none) (h : XS M Γ (Res.boxC b l (n' :: ns) z :: Rs) X Z0 Z Hl D rest)
    (hs : swapsWithSole [.Subscript o (.Constant (.int 0) kc pc) p2] e pos.line X.env = pure false := by rfl) (hw : swappedStores [.Subscript o (.Constant (.int 0) kc pc) p2] e X.env = pure none := by rfl)
    (h1 : (assignEach [.Subscript o (.Constant (.int 0) kc pc) p2] X.env).map (·.2) = [assign (.Subscript o (.Constant (.int 0) kc pc) p2) X.env] := by rfl) : XS M Γ (Res.boxC b l (n :: ns) z :: Rs) X Z0 Z Hl D (.Assign [.Subscript o (.Constant (.int 0) kc pc) p2] e pos :: rest) :=
  xs_cons (ps_asg pe_wp (pg_sub pe_wp pe_wp set_list) hs hw h1) fun σ H0 H l' s b' r => he σ H0 H l' s.le r _ fun v H1 G1 s1 k1 hv => ho σ H1 G1 (l'.ex s1.ex) s1.le k1 _ fun v2 H2 G2 s2 k2 hv2 => (xe_int (K := X.K)) σ H2 G2 (l'.ex (s1.ex.trans s2.ex)) s2.le k2 _ fun v3 H3 G3 s3 k3 hv3 => by
    have t := ((s.trans s1).trans s2).trans s3
    have hne := box_ne k3
    obtain ⟨_, _, h2, h3⟩ := k3.2 _ List.mem_cons_self
    have hv' : v = .int n' := hv
    have hv2' : v2 = .ref l := hv2
    have hv3' : v3 = .int 0 := hv3
    subst hv' hv2' hv3'
    refine ⟨l, _, 0, 0, rfl, rfl, h3, ?_, ?_⟩
    · unfold ixN
      rw [if_pos (by decide), if_pos (by simp)]
      rfl
    obtain ⟨k4, s4⟩ := box_wr (H' := upd G3 l (.lst ((((n :: ns).map V.int)).set 0 (.int n')))) (ns' := n' :: ns) k3 t (by rw [upd_ne hne]; exact h2) upd_same (fun a n1 n2 => upd_ne n2) mb ml
    exact h _ H3 _ (l'.ex ((s1.ex.trans s2.ex).trans s3.ex)) s4 (b'.trans ((s1.ex.trans s2.ex).trans s3.ex)) k4
/-- o.pop(0) -/
theorem xs_bxpop {n : Int} {kc : Nat} {pc apos cpos : Pos} (ho : XE M Γ (Res.boxC b l (n :: ns) z :: Rs) X o (PV (.ref l))) (mb : M b ∨ Z b = none) (ml : M l ∨ Z l = none) (h : XS M Γ (Res.boxC b l ns z :: Rs) X Z0 Z Hl D rest)
    (hpe : PE X (.Call (.Attribute o "pop" apos) [.Constant (.int 0) kc pc] [] cpos) (tBM X.K "list" rPopAt (wpE X o) (tCons (wpE X (.Constant (.int 0) kc pc)) tNil))) (hs : swapsWith (.Call (.Attribute o "pop" apos) [.Constant (.int 0) kc pc] [] cpos) none pos.line X.env = pure false := by rfl) :
    XS M Γ (Res.boxC b l (n :: ns) z :: Rs) X Z0 Z Hl D (.Expr (.Call (.Attribute o "pop" apos) [.Constant (.int 0) kc pc] [] cpos) pos :: rest) :=
  xs_cons (ps_expr hpe hs) fun σ H0 H l' s b' r => ho σ H0 H l' s.le r _ fun v H1 G1 s1 k1 hv => by
    have hv' : v = .ref l := hv
    subst hv'
    obtain ⟨_, _, _, h3⟩ := k1.2 _ List.mem_cons_self
    refine ⟨.inl ⟨rfl, _, SqL.of h3⟩, ?_⟩
    have h0 : XE M Γ (Res.boxC b l (n :: ns) z :: Rs) X (.Constant (.int 0) kc pc) (PD X.K (.int 0)) := xe_int
    refine h0 σ H1 G1 (l'.ex s1.ex) s1.le k1 _ fun y H2 G2 s2 k2 hy => ?_
    have hy' : y = .int 0 := hy
    subst hy'
    have t := (s.trans s1).trans s2
    have hne := box_ne k2
    obtain ⟨_, _, h2, h3⟩ := k2.2 _ List.mem_cons_self
    refine ⟨l, _, 0, 0, .int n, rfl, rfl, h3, by decide, by decide, ?_, rfl, ?_⟩
    · exact seqIndex_of (by decide) (by simp)
    obtain ⟨k4, s4⟩ := box_wr (H' := upd G2 l (.lst (((n :: ns).map V.int).eraseIdx 0))) (ns' := ns) k2 t (by rw [upd_ne hne]; exact h2) upd_same (fun a n1 n2 => upd_ne n2) mb ml
    exact h _ H2 _ (l'.ex (s1.ex.trans s2.ex)) s4 (b'.trans (s1.ex.trans s2.ex)) k4
/-- the box is opened, and closed -/
theorem xs_open (h : ∀ ns z, XS M Γ (Res.boxC b l ns z :: Rs) X Z0 Z Hl D rest) : XS M Γ (Res.box b l :: Rs) X Z0 Z Hl D rest := fun σ H0 H l' s b' k => by
  obtain ⟨ns, z, q⟩ := k.2 _ List.mem_cons_self
  exact h ns z σ H0 H l' s b' ⟨k.1, fun r hr => by
    obtain e | hr := List.mem_cons.mp hr
    · subst e
      exact q
    · exact k.2 r (List.mem_cons_of_mem _ hr)⟩
theorem Rok.close {H0 H : Hp} (k : Rok (Res.boxC b l ns z :: Rs) H0 H) : Rok (Res.box b l :: Rs) H0 H := ⟨k.1, fun r hr => by
  obtain e | hr := List.mem_cons.mp hr
  · subst e
    exact ⟨ns, z, k.2 _ List.mem_cons_self⟩
  · exact k.2 r (List.mem_cons_of_mem _ hr)⟩
open PySem.Spec PyProof.Rows in
theorem op_mulB : OpR X (binaryOp .Mult) (rI (fun _ j => Builtin.Int.intBits j ≤ 64) fun i j => .int (i * j)) := opI fun _ _ _ _ _ _ _ hc q => mul_int q (IntMulOk.of_right hc)
theorem xe_mulB {c d : Expr} (ha : XE M Γ Rs X c (PD K (.int i))) (hb : XE M Γ Rs X d (PD K (.int j))) (h : Builtin.Int.intBits j ≤ 64) : XE M Γ Rs X (.BinOp c .Mult d pos) (PD K (.int (i * j))) := xe_bin op_mulB ha hb fun x y H0 H hx hy e _ => yl_I h (fun _ => rfl) hx hy e
end
end Lh
namespace Lh
open PySem L2
open Evl (Ex ex_l ex_t ex_rd fresh_back)
/-- the script -/
def PSc (K : PySem.W.Frag) (ns : List Int) : Pd := ⟨fun v H => ∃ a, v = .ref a ∧ SqL K H a (ns.map V.int), fun e ⟨a, h1, h2⟩ => ⟨a, h1, ex_l e h2⟩⟩
/-- a promise that tells what the heap is behind it -/
def SpG {α : Type} (pre : α → List Pd) (post : α → V → Hp → Hp → Prop) : Sp := fun vs H Q _ => ∃ (x : α) (H0 : Hp), Ex H0 H ∧ DAll (pre x) vs H0 ∧ ∀ v H', post x v H H' → Q v H'
/-- a new box, all else as it was -/
def NewBox (v : V) (H H' : Hp) : Prop := ∃ (b l : Addr) (ns : List Int) (z : Int), v = .ref b ∧ b ≠ l ∧ H b = none ∧ H l = none ∧ Ex H H' ∧ H' b = some (.lst [.ref l, .int z]) ∧ H' l = some (.lst (ns.map V.int))
section
variable {K : PySem.W.Frag} {mg : Str → Option Value} {base : Heap} {P : Program} {w : World}
theorem fn_G {α : Type} {pre : α → List Pd} {post : α → V → Hp → Hp → Prop} {x qual : Str} {st : Stmt} {f : Addr} {fd : FuncData} {N ps : List Str} {k : Nat} (F : Fun K x qual st f fd) (S : FnScope N ps (defScope st)) (len : ∀ y, (pre y).length = ps.length)
    (hb : ∀ (y : α) (Z0 Z : Hp) (Q : VK) (X : Cx) (qX : ∃ (cdv : Value) (A : Around) (outer : List Env) (s : Shared) (E : XK), X = (cxOf CX0 P w K mg base N qual (defScope st) f cdv A outer s Z E).nox ∧ Room k X.A), (∀ v H', post y v Z H' → Q v H') →
      XS M0 (ctOf N (pre y)) [] X Z0 Z Z0 { nx := fun _ H' => Q .non H', rt := Q } (defBody st)) : FnOk P w K mg base CX0 (k + 1) f fd ps (SpG pre post) := by
  refine F.ok S (fun vs H Q E h => ?_) (fun cdv A outer s H vs Q E hr h => ?_)
  · obtain ⟨y, H0, _, h, _⟩ := h
    rw [h.1, len]
  · obtain ⟨y, H0, e, h, q⟩ := h
    exact ⟨_, pss_wp, hb y H0 H Q _ ⟨cdv, A, outer, s, E, rfl, hr⟩ q _ H0 H (sl_start h) (Step.rfl e) (Ex.refl _) Rok.nil⟩
end
section
variable {M M' : Addr → Prop} {Γ Γ' : Ct} {Rs : List Res} {X : Cx} {Z0 Z Hl : Hp} {D : Ends} {K : PySem.W.Frag} {rest : List Stmt} {a o e : Expr} {pos p : Pos} {i j k : Int} {b l : Addr} {ns ns' : List Int} {z z' : Int}
theorem xi_sc {tg e : Expr} (h : XE M Γ Rs X e (PSc X.K ns)) : XI M Γ Rs X tg e ((li ns).map (PD X.K)) := fun σ H0 H l ex k R r => PI.wp (pi_list pe_wp) (h σ H0 H l ex k _ fun v H1 G1 s1 k1 ⟨a, e1, h1⟩ =>
  ⟨a, e1, ⟨_, ex_l s1.le h1⟩, r _ H1 G1 s1 k1 (wk_list h1 (DdAll.of_ints ns))⟩)
theorem xe_lenSc (hm : X.mg "len" = none) (ha : XE M Γ Rs X a (PSc X.K ns)) (hg : Gl X "len" := by rfl) (he : starEach [a] X.env = (false, eval a X.env) :: starEach [] X.env := by rfl) : XE M Γ Rs X (.Call (.Name "len" p) [a] [] pos) (PD X.K (.int (ns.length : Int))) :=
  xe_callB call_len_seq hm PySem.boot_len (xa_1 ha he) (fun xs H0 H hx e r => by
    obtain ⟨x, e1, q, e2, h1⟩ := da1 hx
    subst e1 e2
    exact Yld.val (z := .int ((ns.map V.int).length : Int)) e (by rw [List.length_map]; rfl) fun Q k => ⟨q, _, rfl, .inl (ex_l e h1), k⟩) hg (by decide) (by decide) he rfl
/-- return [list(script), e] -/
theorem xs_retBox {f : Expr} {p1 p2 p3 : Pos} (hm : X.mg "list" = none) (ha : XE M0 Γ [] X a (PSc X.K ns)) (he : XE M0 Γ [] X f (PD X.K (.int z))) (h : ∀ v H, NewBox v Z H → D.rt v H) (hg : Gl X "list" := by rfl) (hs : starEach [a] X.env = (false, eval a X.env) :: starEach [] X.env := by rfl)
    (hs2 : starEach [.Call (.Name "list" p1) [a] [] p2, f] X.env = (false, eval (.Call (.Name "list" p1) [a] [] p2) X.env) :: starEach [f] X.env := by rfl) (hs3 : starEach [f] X.env = (false, eval f X.env) :: starEach [] X.env := by rfl) : XS M0 Γ [] X Z0 Z Hl D (.Return (some (.List [.Call (.Name "list" p1) [a] [] p2, f] p3)) pos :: rest) :=
  xs_cons (ps_ret (pe_lst (pa_cons (pe_callTy call_list_of hg hm (by decide +kernel) (pa_cons pe_wp pa_nil hs) (by decide) (by decide) hs rfl) (pa_cons pe_wp pa_nil hs3) hs2))) fun σ H0 H l s b k => by
    refine ha σ H0 H l s.le k _ fun v H1 G1 s1 k1 hv => ?_
    obtain ⟨q, e1, h1⟩ := hv
    subst e1
    refine ⟨q, _, rfl, .inl (ex_l s1.le h1), fun c hc => ?_⟩
    have t1 := s.trans s1
    have t2 := t1.trans (Step.new (M := M0) (o := HO.lst (ns.map V.int)) t1.le hc)
    refine he σ _ _ (l.ex (s1.ex.trans (Ex.new (fresh_back t1.le hc)))) t2.le (k1.step0 (Step.new t1.le hc)) _ fun v2 H2 G2 s2 k2 hv2 => ?_
    have hv2' : v2 = .int z := hv2
    subst hv2'
    refine ⟨by simp; decide, fun d hd => h _ _ ⟨d, c, ns, z, rfl, ?_, ?_, ?_, ?_, upd_same, ?_⟩⟩
    · intro e
      subst e
      obtain ⟨u, hu⟩ := s2.th d _ upd_same
      rw [hd] at hu
      cases hu
    · cases hz : Z d with
      | none => rfl
      | some u =>
        obtain ⟨u', hu⟩ := (t2.trans s2).th d u hz
        rw [hd] at hu
        cases hu
    · cases hz : Z c with
      | none => rfl
      | some u =>
        obtain ⟨u', hu⟩ := t1.th c u hz
        rw [hc] at hu
        cases hu
    · intro x u hx
      have := (t2.trans s2).un x u (fun z => z) hx
      rw [upd_ne (ne_of_none this hd)]
      exact this
    · have := s2.un c _ (fun z => z) upd_same
      rw [upd_ne (ne_of_none this hd)]
      exact this
end
end Lh
namespace Lh
open PySem L2
open Evl (Ex ex_l ex_t ex_rd fresh_back)
/-! ### over one of many -/
def XIE (M : Addr → Prop) (Γ : Ct) (Rs : List Res) (X : Cx) (tg iter : Expr) (AN : Int → Prop) (Qf : Int → List Pd) : Prop :=
  ∀ (σ : L2.St) (H0 H : Hp), Sl Γ σ H0 → Ex H0 H → Rok Rs H0 H → ∀ R : It → Hp → Prop, (∀ J H0' H', Step M H0 H H0' H' → Rok Rs H0' H' → (∃ n, AN n ∧ Wk J (Qf n) H0') → R J H') → wpI X tg iter σ H R
section
variable {M : Addr → Prop} {Γ Γ' : Ct} {Rs : List Res} {X : Cx} {Z0 Z Hl : Hp} {D : Ends} {K : PySem.W.Frag} {rest : List Stmt}
theorem xi_rangeE {AN : Int → Prop} {tg a : Expr} {p pos : Pos} (hm : X.mg "range" = none) (h : XE M Γ Rs X a (PEx AN fun n => PD K (.int n))) (hn : ∀ n, AN n → -(2 ^ 62) ≤ n ∧ n < 2 ^ 62) (hg : Gl X "range" := by rfl) (hs : starEach [a] X.env = [(false, eval a X.env)] := by rfl) :
    XIE M Γ Rs X tg (.Call (.Name "range" p) [a] [] pos) AN (fun n => (li (rgI 0 n.toNat)).map (PD K)) := fun σ H0 H l ex k R r => PI.wp (pi_range1 hg hm pa_wp hs) ((xa_1 (by exact h) (by exact hs)) σ H0 H l ex k _ fun vs H1 G1 s1 k1 a1 => by
  obtain ⟨v, w, e1, h1, h2⟩ := a1.inv
  have e2 := h2.nil_inv
  subst e1 e2
  obtain ⟨n, h3, h4⟩ := h1
  have e3 : v = .int n := h4
  subst e3
  exact ⟨n, rfl, (hn n h3).1, (hn n h3).2, r _ H1 G1 s1 k1 ⟨n, h3, wk_range⟩⟩)
theorem xs_forE {tg iter : Expr} {body : List Stmt} {AN : Int → Prop} {Qf : Int → List Pd} {pos : Pos} (hp : PassesOwn (model X.prog X.w) X.A X.env X.xe) (hi : XIE M Γ Rs X tg iter AN Qf) (J : Nat → Ct → List Res → Prop) (h0 : J 0 Γ Rs)
    (hg : ∃ g, PG X tg g ∧ ∀ n, AN n → ∀ (i : Nat) (Q : Pd) (Γ1 : Ct) (Rs1 : List Res), (Qf n)[i]? = some Q → J i Γ1 Rs1 → ∃ Γ2, (∀ (v : V) (σ : L2.St) (H0 H : Hp), Sl Γ1 σ H0 → Ex H0 H → Q.p v H0 → ∀ R : L2.St → Hp → Prop, (∀ σ', Sl Γ2 σ' H0 → R σ' H) → g v σ H R) ∧
      ∀ Hs, XS M Γ2 Rs1 X Z0 Z Hs { D with nx := KJ M Z0 Z Hs J (i + 1), ct := KJ M Z0 Z Hs J (i + 1), bk := wpB X rest D } body)
    (hd : ∀ n, AN n → ∀ Γ1 Rs1, J (Qf n).length Γ1 Rs1 → XS M Γ1 Rs1 X Z0 Z Hl D rest) (hc : X.calm = true := by rfl) (hs : ∀ x, foldedSetIterable iter X.env x = pure x := by intro _; rfl) : XS M Γ Rs X Z0 Z Hl D (.For tg iter body [] pos :: rest) := by
  obtain ⟨g, hg, hb⟩ := hg
  refine xs_cons (ps_for hp hc pi_wp hg pss_wp hs) fun σ H0 H l s b k => hi σ H0 H l s.le k _ fun I H1 G1 s1 k1 ⟨n, hn, wk⟩ => ?_
  have hb := hb n hn
  have hd := hd n hn
  refine ⟨fun i m σ' G => m = (Qf n).length - i ∧ i ≤ (Qf n).length ∧ KJ M Z0 Z H1 J i σ' G, ⟨_, rfl, Nat.zero_le _, Γ, Rs, H1, h0, Ex.refl _, l.ex s1.ex, s.trans s1, k1⟩, ?_⟩
  rintro i m σ' G ⟨rfl, hi', Γ1, Rs1, H2, j, e2, l2, s2, k2⟩
  have w := wk H2 G e2 s2.le i
  by_cases hlt : i < (Qf n).length
  · obtain ⟨go, yl⟩ := w.1 _ (List.getElem?_eq_getElem hlt)
    refine .inr ⟨go, KJ M Z0 Z H1 J (i + 1), fun σ3 G3 h3 => ⟨(Qf n).length - (i + 1), by omega, rfl, hlt, h3⟩, fun x G3 y => ?_⟩
    obtain ⟨H3, s3, hx⟩ := yl x G3 y
    obtain ⟨Γ2, hv, hbody⟩ := hb i _ Γ1 Rs1 (List.getElem?_eq_getElem hlt) j
    refine hv x σ' H3 G3 (l2.ex s3.ex) s3.le hx _ fun σ4 l4 => ?_
    have hb2 := hbody H1 σ4 H3 G3 l4 (s2.trans s3.of0) (e2.trans s3.ex) (k2.step0 s3)
    exact hb2
  · have e : i = (Qf n).length := by omega
    subst e
    exact .inl ⟨w.2 rfl, hd Γ1 Rs1 j σ' H2 G l2 s2 ((b.trans s1.ex).trans e2) k2⟩
theorem xs_forNE (i : Nat) {x : Str} {iter : Expr} {body : List Stmt} {AN : Int → Prop} {Qf : Int → List Pd} {pos xp : Pos} (hi : XIE M Γ Rs X (.Name x xp) iter AN Qf) (J : Nat → Ct → List Res → Prop) (h0 : J 0 Γ Rs)
    (hb : ∀ n, AN n → ∀ (t : Nat) (Q : Pd) (Γ1 : Ct) (Rs1 : List Res), (Qf n)[t]? = some Q → J t Γ1 Rs1 → ∀ Hs, XS M (Γ1.set i (some Q)) Rs1 X Z0 Z Hs { D with nx := KJ M Z0 Z Hs J (t + 1), ct := KJ M Z0 Z Hs J (t + 1), bk := wpB X rest D } body)
    (hd : ∀ n, AN n → ∀ Γ1 Rs1, J (Qf n).length Γ1 Rs1 → XS M Γ1 Rs1 X Z0 Z Hl D rest) (hN : X.N.Nodup) (hp : PassesOwn (model X.prog X.w) X.A X.env X.xe := by exact PassesOwn.never) (hx : X.N[i]? = some x := by rfl) (hl : Loc X.env.scope x := by first | exact Or.inl rfl | exact Or.inr rfl)
    (hf : X.fn x = true ∨ X.env.scope.names.lookup x = some .local := by first | exact .inl rfl | exact .inr rfl) (hc : X.calm = true := by rfl) (hs : ∀ x, foldedSetIterable iter X.env x = pure x := by intro _; rfl) : XS M Γ Rs X Z0 Z Hl D (.For (.Name x xp) iter body [] pos :: rest) :=
  xs_forE hp hi J h0 ⟨gName i, pg_name hN hx hl hf, fun n hn t Q Γ1 Rs1 hq j => ⟨_, gv_name, hb n hn t Q Γ1 Rs1 hq j⟩⟩ hd hc hs
theorem ye_lcE {tg iter : Expr} {j : Nat} {tt : TT} {te : TE} {AN : Int → Prop} {Qf : Int → List Pd} (hi : XIE M Γ Rs X tg iter AN Qf) (cv : Cov M Rs) (hz : ∀ n, AN n → (Qf n).length ≤ 100000) (R : Nat → List PyData → Prop) (r0 : R 0 [])
    (ht : ∀ n, AN n → ∀ (i : Nat) (Q : Pd), (Qf n)[i]? = some Q → ∃ B, YT M ((wipeC Γ [j]).set j (some Q)) Rs tt B ∧ (B true → YE M ((wipeC Γ [j]).set j (some Q)) Rs te (PEx (fun d => ∀ ds, ds.length ≤ i → R i ds → R (i + 1) (ds ++ [d])) (PD K))) ∧ (B false → ∀ ds, R i ds → R (i + 1) ds)) :
    YE M Γ Rs (tLc (wpI X tg iter) (gName j) tt te [j]) (PEx (fun ds => ∃ n, AN n ∧ R (Qf n).length ds ∧ ds.length ≤ (Qf n).length) fun ds => PD K (.list ds)) := fun σ H0 H l ex k Q q => hi σ H0 H l ex k _ fun J A0 G1 s1 k1 ⟨n, hn, wk⟩ D hD => by
  have hz := hz n hn
  have ht := ht n hn
  have nr : ∀ r ∈ Rs, ∀ a ∈ r.ad, a ≠ D := fun r hr a ha e => by
    obtain ⟨⟨o, h1⟩, _⟩ := r.tr (k1.2 r hr) a ha
    rw [e, hD] at h1
    cases h1
  have nM : ¬ M D := fun z => by
    obtain ⟨o, h⟩ := cv A0 G1 k1 D z
    rw [hD] at h
    cases h
  refine ⟨fun i m G => m = (Qf n).length - i ∧ i ≤ (Qf n).length ∧ ∃ A acc ds, R i ds ∧ ds.length ≤ i ∧ Step M A0 G1 A G ∧ A D = none ∧ Rok Rs A G ∧ G D = some (.lst acc) ∧ DdAll K A ds acc, ⟨_, rfl, Nat.zero_le _, A0, [], [], r0, Nat.le_refl _, ?_, fresh_back s1.le hD, k1.wr nr, upd_same, rfl⟩, ?_⟩
  · exact ⟨fun a o _ h => by rw [upd_ne (ne_of_none h hD)]; exact h, fun a o h => ⟨o, by rw [upd_ne (ne_of_none h hD)]; exact h⟩, Ex.refl _, fun a o h => by rw [upd_ne (ne_of_none (s1.le a o h) hD)]; exact s1.le a o h, fun a o h => .inl h⟩
  · rintro i m G ⟨rfl, hi', A, acc, ds, hR, hlen, s2, aD, k2, gD, hdd⟩
    have w := wk A G s2.ex s2.le i
    by_cases hlt : i < (Qf n).length
    · have hq := List.getElem?_eq_getElem hlt
      obtain ⟨go, yl⟩ := w.1 _ hq
      obtain ⟨B, hB, hY, hN⟩ := ht i _ hq
      refine .inr ⟨go, fun G' => i + 1 ≤ (Qf n).length ∧ ∃ A acc ds, R (i + 1) ds ∧ ds.length ≤ i + 1 ∧ Step M A0 G1 A G' ∧ A D = none ∧ Rok Rs A G' ∧ G' D = some (.lst acc) ∧ DdAll K A ds acc, fun G' h => ⟨(Qf n).length - (i + 1), by omega, rfl, h⟩, fun x G2 y => ?_⟩
      obtain ⟨A2, s3, hx⟩ := yl x G2 y
      refine ⟨by simp [L2.wipe, List.set_set], ?_⟩
      have s12 := s2.trans s3.of0
      have nw : ∀ {A' G' : Hp}, Step M A G A' G' → A' D = none := fun {A' G'} s => by
        cases e : A' D with
        | none => rfl
        | some o =>
          rcases s.nw D o e with z | z
          · rw [aD] at z
            cases z
          · rw [gD] at z
            cases z
      have lΓ : Sl ((wipeC Γ [j]).set j (some (Qf n)[i])) ((L2.wipe σ [j]).set j (some x)) A2 := (((l.ex s1.ex).ex (s2.ex.trans s3.ex)).wipe [j]).set hx
      refine hB _ A2 G2 lΓ s3.le (k2.step0 s3) _ fun b A3 G3 s4 k4 hb => ?_
      cases b with
      | true =>
        refine hY hb _ A3 G3 (lΓ.ex s4.ex) s4.le k4 _ fun v A4 G4 s5 k5 ⟨d, hd, hv⟩ => ?_
        have s35 : Step M A G A4 G4 := (s3.of0.trans s4).trans s5
        have g4 : G4 D = some (.lst acc) := s35.un D _ nM gD
        refine ⟨acc, g4, ?_, hlt, A4, acc ++ [v], ds ++ [d], hd ds hlen hR, by simp; omega, ?_, nw s35, k5.wr nr, upd_same, DdAll.app (DdAll.ex s35.ex _ _ hdd) (DdAll.one hv)⟩
        · rw [hdd.len]
          have : (100000 : Nat) < sizeLine := by decide
          omega
        · have t := s2.trans s35
          refine ⟨fun a o hm h => ?_, fun a o h => ?_, t.ex, fun a o h => ?_, t.nw⟩
          · rw [upd_ne (ne_of_none h hD)]
            exact t.un a o hm h
          · obtain ⟨o', h'⟩ := t.th a o h
            exact ⟨o', by rw [upd_ne (ne_of_none h hD)]; exact h'⟩
          · have na : a ≠ D := fun e => by
              rw [e, nw s35] at h
              cases h
            rw [upd_ne na]
            exact t.le a o h
      | false =>
        have s34 : Step M A G A3 G3 := s3.of0.trans s4
        exact ⟨hlt, A3, acc, ds, hN hb ds hR, by omega, s2.trans s34, nw s34, k4, s34.un D _ nM gD, DdAll.ex s34.ex _ _ hdd⟩
    · have e : i = (Qf n).length := by omega
      subst e
      refine .inl ⟨w.2 rfl, q (.ref D) (upd A D (.lst acc)) G ?_ (k2.updA aD nr) ⟨ds, ⟨n, hn, hR, hlen⟩, D, acc, rfl, upd_same, DdAll.ex (Ex.new aD) _ _ hdd⟩⟩
      have t := s1.trans s2
      refine ⟨t.un, t.th, t.ex.trans (Ex.new aD), fun a o h => ?_, fun a o h => ?_⟩
      · by_cases ha : a = D
        · subst ha
          rw [upd_same] at h
          rw [gD]
          exact h
        · rw [upd_ne ha] at h
          exact t.le a o h
      · by_cases ha : a = D
        · subst ha
          refine .inr ?_
          cases e : H a with
          | none => rfl
          | some u =>
            obtain ⟨u', h'⟩ := s1.th a u e
            rw [hD] at h'
            cases h'
        · rw [upd_ne ha] at h
          exact t.nw a o h
theorem xe_lcE (j : Nat) {x : Str} {elt iter : Expr} {scope : Scope} {pos xp : Pos} {AN : Int → Prop} {Qf : Int → List Pd} (hi : XIE M Γ Rs X (.Name x xp) iter AN Qf) (R : Nat → List PyData → Prop) (r0 : R 0 []) (ht : ∀ n, AN n → LcAll M Γ Rs X K scope j elt (Qf n) R) (hN : X.N.Nodup)
    (ok : BlkOk X.N X.env.scope scope [(x, j)]) (hz : ∀ n, AN n → (Qf n).length ≤ 100000) (cv : Cov M Rs) (hg : BlkG X scope x xp j) (hc : X.calm = true := by rfl) (hs : ∀ x, foldedSetIterable iter X.env x = pure x := by intro _; rfl) :
    XE M Γ Rs X (.ListComp elt [⟨.Name x xp, iter, [], 0⟩] scope pos) (PEx (fun ds => ∃ n, AN n ∧ R (Qf n).length ds ∧ ds.length ≤ (Qf n).length) fun ds => PD K (.list ds)) := YE.wp (pe_lc (own := [(x, j)]) hc hN pi_wp ok hg (fun s H C cl fp => pts_nil) blk_ok hs) (ye_lcE hi cv hz R r0 fun n hn i Q hq => ⟨Is true, yt_yes, fun _ => ye_blk (ht n hn i Q hq), fun z => Bool.noConfusion z⟩)
end
section
variable {M : Addr → Prop} {Γ : Ct} {Rs : List Res} {X : Cx} {K : PySem.W.Frag} {a b : Expr} {pos p : Pos} {i j lo hi : Int}
/-! ### an int of many -/
theorem xe_addIn (ha : XE M Γ Rs X a (PD K (.int i))) (hb : XE M Γ Rs X b (PIn K lo hi)) : XE M Γ Rs X (.BinOp a .Add b pos) (PIn K (i + lo) (i + hi)) := xe_bin op_add ha hb fun x y H0 H hx ⟨n, hn, hy⟩ e _ => fun Q q =>
  (yl_I0 (g := fun i j => .int (i + j)) (d := .int (i + n)) (fun _ => rfl) hx hy e) Q fun v H0' H' s p => q v H0' H' s ⟨i + n, ⟨by omega, by omega⟩, p⟩
theorem xt_eqIn (ha : XE M Γ Rs X a (PIn K lo hi)) (hb : XE M Γ Rs X b (PD K (.int j))) : XT M Γ Rs X (.Compare a [.Eq] [b] pos) (fun _ => True) := xt_cmp (K := K) op_eq ha hb (fun x y H0 H ⟨n, hn, hx⟩ hy e _ => fun Q q => (yl_eqI hx hy e) Q fun v H0' H' s p => q v H0' H' s ⟨_, True.intro, p⟩) (nomark _)
end
end Lh
namespace Lh
open PySem L2
open Evl (Ex ex_l ex_t ex_rd fresh_back)
/-- a list, a tuple of things -/
def PLs (Ps : List Pd) : Pd := ⟨fun v H => ∃ a xs, v = .ref a ∧ H a = some (.lst xs) ∧ DAll Ps xs H, fun e ⟨a, xs, h1, h2, h3⟩ => ⟨a, xs, h1, e _ _ h2, h3.ex e⟩⟩
def PTs (K : PySem.W.Frag) (Ps : List Pd) : Pd := ⟨fun v H => ∃ a xs, v = .ref a ∧ SqT K H a xs ∧ DAll Ps xs H, fun e ⟨a, xs, h1, h2, h3⟩ => ⟨a, xs, h1, ex_t e h2, h3.ex e⟩⟩
section
variable {M : Addr → Prop} {Γ Γ' : Ct} {Rs : List Res} {X : Cx} {Z0 Z Hl : Hp} {D : Ends} {K : PySem.W.Frag} {rest : List Stmt} {a b e : Expr} {es : List Expr} {pos p : Pos} {i j k : Int}
theorem xe_tupP {Ps : List Pd} {x1} (h : XA M Γ Rs X es Ps) (hz : Ps.length ≤ 1000) : XE M Γ Rs X (.Tuple es x1 pos) (PTs K Ps) :=
  YE.wp (pe_tup pa_wp) fun σ H0 H l ex k Q q => h σ H0 H l ex k _ fun xs H1 G1 s1 k1 a1 => ⟨by have := a1.1; rw [this]; exact Nat.le_trans hz (by decide), fun p hp =>
    q _ (upd H1 p (.tup xs)) _ (s1.trans (Step.new s1.le hp)) (k1.step0 (Step.new s1.le hp)) ⟨p, xs, rfl, SqT.of upd_same, a1.ex (Ex.new (fresh_back s1.le hp))⟩⟩
/-- tuple(..) of a list of many -/
theorem xe_tupLE {α : Type} {A : α → Prop} {f : α → List PyData} (hm : X.mg "tuple" = none) (h : XE M Γ Rs X a (PEx A fun x => PD X.K (.list (f x)))) (hg : Gl X "tuple" := by rfl) (he : starEach [a] X.env = (false, eval a X.env) :: starEach [] X.env := by rfl) : XE M Γ Rs X (.Call (.Name "tuple" p) [a] [] pos) (PEx A fun x => PD X.K (.tuple (f x))) :=
  xe_callTy call_tuple_of hm (by decide +kernel) (xa_1 h he) (fun xs H0 H hx e _ => by
    obtain ⟨x, e1, y, hy, q, ys, e2, h1, h2⟩ := da1 hx
    subst e1 e2
    intro Q k
    have y0 : Yld H0 H (PD X.K (.tuple (f y))) (fun Q => ∃ p ys', [V.ref q] = [V.ref p] ∧ ((SqL X.K H p ys' ∧ ∀ l, H l = none → Q (.ref l) (upd H l (.tup ys'))) ∨ SqT X.K H p ys' ∧ Q (.ref p) H)) := Yld.newT e h2 fun Q k => ⟨q, ys, rfl, .inl ⟨SqL.of (e _ _ h1), k⟩⟩
    exact y0 Q fun v H0' H' s p => k v H0' H' s ⟨y, hy, p⟩) hg (by decide) (by decide) he rfl
/-- what stands in a slot is one of many -/
theorem xs_slot (i : Nat) {α : Type} {A : α → Prop} {P : α → Pd} (hi : Γ[i]? = some (some (PEx A P))) (h : ∀ a, A a → XS M (Γ.set i (some (P a))) Rs X Z0 Z Hl D rest) : XS M Γ Rs X Z0 Z Hl D rest := fun σ H0 H l s b k => by
  obtain ⟨v, h1, a, ha, h2⟩ := l.2 i _ hi
  have e3 : σ.set i (some v) = σ := by
    have hlt := (List.getElem?_eq_some_iff.mp h1).1
    have := (List.getElem?_eq_some_iff.mp h1).2
    rw [← this]
    exact List.set_getElem_self hlt
  have l2 : Sl (Γ.set i (some (P a))) (σ.set i (some v)) H0 := l.set h2
  rw [e3] at l2
  exact h a ha σ H0 H l2 s b k
open PySem.Spec PyProof.Rows in
end
end Lh
namespace Lh
open PySem L2
open Evl (Ex ex_l ex_t ex_rd fresh_back)
/-- what class a datum is of -/
def tyS : PyData → String
  | .none => "NoneType"
  | .bool _ => "bool"
  | .int _ => "int"
  | .str _ => "str"
  | .list _ => "list"
  | .tuple _ => "tuple"
  | .dict _ => "dict"
section
variable {M : Addr → Prop} {Γ Γ' : Ct} {Rs : List Res} {X : Cx} {Z0 Z Hl : Hp} {D : Ends} {K : PySem.W.Frag} {rest : List Stmt} {a b e : Expr} {es : List Expr} {pos p : Pos} {i j k : Int}
end
end Lh
namespace Lh
open PySem L2
open Evl (Ex ex_l ex_t ex_rd fresh_back)
/-- the first place where two rows of ints differ: the first one's is greater -/
def LexGt (p q : List Int) : Prop := ∃ j, j < p.length ∧ j < q.length ∧ (∀ i, i < j → p.getD i 0 = q.getD i 0) ∧ q.getD j 0 < p.getD j 0
open PySem.Spec PyProof.Rows in
def rGtT (K : PySem.W.Frag) : R2 := fun u w H Q => ∃ (c d : Addr) (p q : List Int), u = .ref c ∧ w = .ref d ∧ SqT K H c (p.map V.int) ∧ SqT K H d (q.map V.int) ∧ LexGt p q ∧ Q (.bl true) H
open PySem.Spec PyProof.Rows in
open PySem.Spec PyProof.Rows in
section
variable {M : Addr → Prop} {Γ : Ct} {Rs : List Res} {X : Cx} {K : PySem.W.Frag} {a b : Expr} {pos : Pos}
end
end Lh
namespace Lh
open PySem L2
open Evl (Ex ex_l ex_t ex_rd fresh_back)
theorem wipe_pair {σ : L2.St} {i j : Nat} (hij : i ≠ j) {a b : Option V} : L2.wipe (((L2.wipe σ [i, j]).set i a).set j b) [i, j] = L2.wipe σ [i, j] := by
  show (((((σ.set j none).set i none).set i a).set j b).set j none).set i none = (σ.set j none).set i none
  rw [List.set_set, List.set_set, List.set_comm _ _ hij.symm, List.set_set, List.set_comm _ _ hij, List.set_set]
section
variable {M : Addr → Prop} {Γ Γ' : Ct} {Rs : List Res} {X : Cx} {Z0 Z Hl : Hp} {D : Ends} {K : PySem.W.Frag} {rest : List Stmt}
theorem ye_lcP {tg iter : Expr} {i0 j : Nat} (hij : i0 ≠ j) {tt : TT} {te : TE} {Qs : List Pd} (hi : XI M Γ Rs X tg iter Qs) (cv : Cov M Rs) (hz : Qs.length ≤ 100000) (R : Nat → List PyData → Prop) (r0 : R 0 [])
    (ht : ∀ (i : Nat) (Q : Pd), Qs[i]? = some Q → ∃ P1 P2, Q = PT2 X.K P1 P2 ∧ ∃ B, YT M (((wipeC Γ [i0, j]).set i0 (some P1)).set j (some P2)) Rs tt B ∧ (B true → YE M (((wipeC Γ [i0, j]).set i0 (some P1)).set j (some P2)) Rs te (PEx (fun d => ∀ ds, ds.length ≤ i → R i ds → R (i + 1) (ds ++ [d])) (PD K))) ∧ (B false → ∀ ds, R i ds → R (i + 1) ds)) :
    YE M Γ Rs (tLc (wpI X tg iter) (gTup X.K 2 (gCons (gName i0) (gCons (gName j) gNil))) tt te [i0, j]) (PEx (fun ds => R Qs.length ds ∧ ds.length ≤ Qs.length) fun ds => PD K (.list ds)) := fun σ H0 H l ex k Q q => hi σ H0 H l ex k _ fun J A0 G1 s1 k1 wk D hD => by
  have nr : ∀ r ∈ Rs, ∀ a ∈ r.ad, a ≠ D := fun r hr a ha e => by
    obtain ⟨⟨o, h1⟩, _⟩ := r.tr (k1.2 r hr) a ha
    rw [e, hD] at h1
    cases h1
  have nM : ¬ M D := fun z => by
    obtain ⟨o, h⟩ := cv A0 G1 k1 D z
    rw [hD] at h
    cases h
  refine ⟨fun i m G => m = Qs.length - i ∧ i ≤ Qs.length ∧ ∃ A acc ds, R i ds ∧ ds.length ≤ i ∧ Step M A0 G1 A G ∧ A D = none ∧ Rok Rs A G ∧ G D = some (.lst acc) ∧ DdAll K A ds acc, ⟨_, rfl, Nat.zero_le _, A0, [], [], r0, Nat.le_refl _, ?_, fresh_back s1.le hD, k1.wr nr, upd_same, rfl⟩, ?_⟩
  · exact ⟨fun a o _ h => by rw [upd_ne (ne_of_none h hD)]; exact h, fun a o h => ⟨o, by rw [upd_ne (ne_of_none h hD)]; exact h⟩, Ex.refl _, fun a o h => by rw [upd_ne (ne_of_none (s1.le a o h) hD)]; exact s1.le a o h, fun a o h => .inl h⟩
  · rintro i m G ⟨rfl, hi', A, acc, ds, hR, hlen, s2, aD, k2, gD, hdd⟩
    have w := wk A G s2.ex s2.le i
    by_cases hlt : i < Qs.length
    · have hq := List.getElem?_eq_getElem hlt
      obtain ⟨go, yl⟩ := w.1 _ hq
      obtain ⟨P1, P2, eQ, B, hB, hY, hN⟩ := ht i _ hq
      refine .inr ⟨go, fun G' => i + 1 ≤ Qs.length ∧ ∃ A acc ds, R (i + 1) ds ∧ ds.length ≤ i + 1 ∧ Step M A0 G1 A G' ∧ A D = none ∧ Rok Rs A G' ∧ G' D = some (.lst acc) ∧ DdAll K A ds acc, fun G' h => ⟨Qs.length - (i + 1), by omega, rfl, h⟩, fun x G2 y => ?_⟩
      obtain ⟨A2, s3, hx⟩ := yl x G2 y
      rw [eQ] at hx
      obtain ⟨pa, u1, u2, ex1, hsq, hu1, hu2⟩ := hx
      subst ex1
      refine ⟨pa, [u1, u2], rfl, ex_t s3.le hsq, rfl, u1, [u2], rfl, u2, [], rfl, rfl, wipe_pair hij, ?_⟩
      have s12 := s2.trans s3.of0
      have nw : ∀ {A' G' : Hp}, Step M A G A' G' → A' D = none := fun {A' G'} s => by
        cases e : A' D with
        | none => rfl
        | some o =>
          rcases s.nw D o e with z | z
          · rw [aD] at z
            cases z
          · rw [gD] at z
            cases z
      have lΓ : Sl (((wipeC Γ [i0, j]).set i0 (some P1)).set j (some P2)) (((L2.wipe σ [i0, j]).set i0 (some u1)).set j (some u2)) A2 := ((((l.ex s1.ex).ex (s2.ex.trans s3.ex)).wipe [i0, j]).set hu1).set hu2
      refine hB _ A2 G2 lΓ s3.le (k2.step0 s3) _ fun b A3 G3 s4 k4 hb => ?_
      cases b with
      | true =>
        refine hY hb _ A3 G3 (lΓ.ex s4.ex) s4.le k4 _ fun v A4 G4 s5 k5 ⟨d, hd, hv⟩ => ?_
        have s35 : Step M A G A4 G4 := (s3.of0.trans s4).trans s5
        have g4 : G4 D = some (.lst acc) := s35.un D _ nM gD
        refine ⟨acc, g4, ?_, hlt, A4, acc ++ [v], ds ++ [d], hd ds hlen hR, by simp; omega, ?_, nw s35, k5.wr nr, upd_same, DdAll.app (DdAll.ex s35.ex _ _ hdd) (DdAll.one hv)⟩
        · rw [hdd.len]
          have : (100000 : Nat) < sizeLine := by decide
          omega
        · have t := s2.trans s35
          refine ⟨fun a o hm h => ?_, fun a o h => ?_, t.ex, fun a o h => ?_, t.nw⟩
          · rw [upd_ne (ne_of_none h hD)]
            exact t.un a o hm h
          · obtain ⟨o', h'⟩ := t.th a o h
            exact ⟨o', by rw [upd_ne (ne_of_none h hD)]; exact h'⟩
          · have na : a ≠ D := fun e => by
              rw [e, nw s35] at h
              cases h
            rw [upd_ne na]
            exact t.le a o h
      | false =>
        have s34 : Step M A G A3 G3 := s3.of0.trans s4
        exact ⟨hlt, A3, acc, ds, hN hb ds hR, by omega, s2.trans s34, nw s34, k4, s34.un D _ nM gD, DdAll.ex s34.ex _ _ hdd⟩
    · have e : i = Qs.length := by omega
      subst e
      refine .inl ⟨w.2 rfl, q (.ref D) (upd A D (.lst acc)) G ?_ (k2.updA aD nr) ⟨ds, ⟨hR, hlen⟩, D, acc, rfl, upd_same, DdAll.ex (Ex.new aD) _ _ hdd⟩⟩
      have t := s1.trans s2
      refine ⟨t.un, t.th, t.ex.trans (Ex.new aD), fun a o h => ?_, fun a o h => ?_⟩
      · by_cases ha : a = D
        · subst ha
          rw [upd_same] at h
          rw [gD]
          exact h
        · rw [upd_ne ha] at h
          exact t.le a o h
      · by_cases ha : a = D
        · subst ha
          refine .inr ?_
          cases e : H a with
          | none => rfl
          | some u =>
            obtain ⟨u', h'⟩ := s1.th a u e
            rw [hD] at h'
            cases h'
        · rw [upd_ne ha] at h
          exact t.nw a o h
abbrev blkP (Γ : Ct) (i j : Nat) (P Q : Pd) : Ct := ((wipeC Γ [i, j]).set i (some P)).set j (some Q)
/-- [elt for x, y in iter], each elt as f tells -/
theorem xe_lcP (i0 j : Nat) (hij : i0 ≠ j) {x y : Str} {elt iter : Expr} {scope : Scope} {pos xp yp tp : Pos} {kt : Nat} {Qs : List Pd} (hi : XI M Γ Rs X (.Tuple [.Name x xp, .Name y yp] kt tp) iter Qs) (R : Nat → List PyData → Prop) (r0 : R 0 [])
    (ht : ∀ (i : Nat) (Q : Pd), Qs[i]? = some Q → ∃ P1 P2, Q = PT2 X.K P1 P2 ∧ Blk X scope fun Y => XE M (blkP Γ i0 j P1 P2) Rs Y elt (PEx (fun d => ∀ ds, ds.length ≤ i → R i ds → R (i + 1) (ds ++ [d])) (PD K))) (hN : X.N.Nodup)
    (ok : BlkOk X.N X.env.scope scope [(x, i0), (y, j)]) (hz : Qs.length ≤ 100000) (cv : Cov M Rs) (hg : ∀ (s : Shared) (H : Hp) (C : Addr) (cl : List (Str × Addr)) (fp : List Addr), PG (X.blk s H scope (compEnvC scope cl C X.env) fp) (.Tuple [.Name x xp, .Name y yp] kt tp) (gTup X.K 2 (gCons (gName i0) (gCons (gName j) gNil))))
    (hc : X.calm = true := by rfl) (hs : ∀ x, foldedSetIterable iter X.env x = pure x := by intro _; rfl) : XE M Γ Rs X (.ListComp elt [⟨.Tuple [.Name x xp, .Name y yp] kt tp, iter, [], 0⟩] scope pos) (LcP K Qs R) :=
  YE.wp (pe_lc (own := [(x, i0), (y, j)]) hc hN pi_wp ok hg (fun s H C cl fp => pts_nil) blk_ok hs) (ye_lcP hij hi cv hz R r0 fun i Q hq => by
    obtain ⟨P1, P2, e, h⟩ := ht i Q hq
    exact ⟨P1, P2, e, Is true, yt_yes, fun _ => ye_blk h, fun z => Bool.noConfusion z⟩)
end
end Lh
/-! Sets made by a comprehension of two clauses, without tests. -/
namespace Lh
open PySem L2 PySem.Spec PyProof.Rows
/-- `{b for t0 in i0 for t1 in i1}` -/
abbrev sx (b t0 i0 t1 i1 : Expr) (sco : Scope) (p : Pos) : Expr := .SetComp b [⟨t0, i0, [], 0⟩, ⟨t1, i1, [], 0⟩] sco p
theorem sx_turn0 (b t0 i0 t1 i1 : Expr) (sco : Scope) (p : Pos) (it D : Value) (env : Env) : compTurn (sx b t0 i0 t1 i1 sco p) 0 it D env = (do
    standAt i0.pos
    match ← pyNext it with
    | none => pure (.done .next)
    | some u =>
      letOwnedTupleGo t0 it u
      assign t0 env u
      let y ← eval i1 env
      standAt i1.pos
      let y ← foldedSetIterable i1 env y
      let _ ← runOwn (.compStart (sx b t0 i0 t1 i1 sco p) 1 (← holding [y] (pyIter y)) D env) env
      again (.compLoop (sx b t0 i0 t1 i1 sco p) 0 it D env)) := by rfl
theorem sx_turn1 (b t0 i0 t1 i1 : Expr) (sco : Scope) (p : Pos) (it D : Value) (env : Env) : compTurn (sx b t0 i0 t1 i1 sco p) 1 it D env = (do
    standAt i1.pos
    match ← pyNext it with
    | none => pure (.done .next)
    | some u =>
      letOwnedTupleGo t1 it u
      assign t1 env u
      (do let y ← eval b env; standAt b.pos; let _ ← call (.builtin "set.add") [D, y])
      again (.compLoop (sx b t0 i0 t1 i1 sco p) 1 it D env)) := by rfl
section
variable {prog : Program} {w : World} {A : Around} {R : Result → Shared → Prop} {s : Shared} {b t0 i0 t1 i1 : Expr} {sco : Scope} {p : Pos} {it D : Value} {env : Env}
/-- an error of a turn is noted and goes on -/
abbrev noted (prog : Program) (w : World) (A : Around) (env : Env) (R : Result → Shared → Prop) : Value → Shared → Prop := notedBy (model prog w) A env fun e s' => R (.error e) s'
theorem sx_loop0 (hf : ∀ y, foldedSetIterable i1 env y = pure y) (J : Nat → Shared → Prop)
    (step : ∀ m z, J m z → wpAny (model prog w) A (pyNext it) (fun r z1 => match r with
      | none => R (.ok .next) z1
      | some u => wpAny (model prog w) A (letOwnedTupleGo t0 it u) (fun _ z2 => wpAny (model prog w) A (assign t0 env u) (fun _ z3 =>
          wpAny (model prog w) A (eval i1 env) (fun y z4 => wpAny (model prog w) A (pyIter y) (fun it1 z5 =>
            codeAny (model prog w) A (.compStart (sx b t0 i0 t1 i1 sco p) 1 it1 D env) (fun r z6 => match r with
              | .ok _ => ∃ l, l < m ∧ J l z6
              | .error _ => False) z5) (noted prog w A env R) z4) (noted prog w A env R) z3) (noted prog w A env R) z2) (noted prog w A env R) z1) (noted prog w A env R) z)
    (m : Nat) (h : J m s) : codeAny (model prog w) A (.compLoop (sx b t0 i0 t1 i1 sco p) 0 it D env) R s := by
  refine codeAny_loop rfl J (fun m z hJ => ?_) m h
  show wpAny _ A ((compTurn (sx b t0 i0 t1 i1 sco p) 0 it D env).onRaise (fun x => do noteFrame x env; theTreesLotGoes x)) _ _ z
  refine wpAny_noted ?_
  rw [sx_turn0]
  refine wpAny_bind (wpAny_standAt (wpAny_bind (wpAny_mono (step m z hJ) (fun r z1 q1 => ?_) fun _ _ q => q)))
  cases r with
  | none => exact wpAny_pure q1
  | some u =>
    refine wpAny_bind (wpAny_mono q1 (fun _ z2 q2 => wpAny_bind (wpAny_mono q2 (fun _ z3 q3 => wpAny_bind (wpAny_mono q3 (fun y z4 q4 => ?_) fun _ _ q => q)) fun _ _ q => q)) fun _ _ q => q)
    refine wpAny_bind (wpAny_standAt (wpAny_bind (wpAny_of_eq (hf y) (wpAny_bind (wpAny_holding (wpAny_mono q4 (fun it1 z5 q5 => ?_) fun _ _ q => q))))))
    (refine wpAny_bind (wpAny_runOwn ?_); rw [Around.mark_none])
    refine codeAny_mono q5 fun r z6 q6 => ?_
    cases r with
    | error e => exact q6.elim
    | ok f =>
      first
        | exact wpAny_pure (And.intro rfl q6)
        | exact wpAny_bind (wpAny_pure (wpAny_pure (And.intro rfl q6)))
theorem sx_loop1 (J : Nat → Shared → Prop)
    (step : ∀ m z, J m z → wpAny (model prog w) A (pyNext it) (fun r z1 => match r with
      | none => R (.ok .next) z1
      | some u => wpAny (model prog w) A (letOwnedTupleGo t1 it u) (fun _ z2 => wpAny (model prog w) A (assign t1 env u) (fun _ z3 =>
          wpAny (model prog w) A (eval b env) (fun y z4 => wpAny (model prog w) A (call (.builtin "set.add") [D, y]) (fun _ z5 => ∃ l, l < m ∧ J l z5) (noted prog w A env R) z4)
            (noted prog w A env R) z3) (noted prog w A env R) z2) (noted prog w A env R) z1) (noted prog w A env R) z)
    (m : Nat) (h : J m s) : codeAny (model prog w) A (.compLoop (sx b t0 i0 t1 i1 sco p) 1 it D env) R s := by
  refine codeAny_loop rfl J (fun m z hJ => ?_) m h
  show wpAny _ A ((compTurn (sx b t0 i0 t1 i1 sco p) 1 it D env).onRaise (fun x => do noteFrame x env; theTreesLotGoes x)) _ _ z
  refine wpAny_noted ?_
  rw [sx_turn1]
  refine wpAny_bind (wpAny_standAt (wpAny_bind (wpAny_mono (step m z hJ) (fun r z1 q1 => ?_) fun _ _ q => q)))
  cases r with
  | none => exact wpAny_pure q1
  | some u =>
    refine wpAny_bind (wpAny_mono q1 (fun _ z2 q2 => wpAny_bind (wpAny_mono q2 (fun _ z3 q3 => wpAny_bind (wpAny_bind (wpAny_mono q3 (fun y z4 q4 => ?_) fun _ _ q => q))) fun _ _ q => q)) fun _ _ q => q)
    exact wpAny_bind (wpAny_standAt (wpAny_bind (wpAny_mono q4 (fun _ z5 q5 => wpAny_pure (wpAny_pure (And.intro rfl q5))) fun _ _ q => q)))
theorem sx_start1 (k0 : codeAny (model prog w) A (.compLoop (sx b t0 i0 t1 i1 sco p) 1 it D env) R s)
    (h : wpAny (model prog w) A (pyIter it) (fun it' z => codeAny (model prog w) A (.compLoop (sx b t0 i0 t1 i1 sco p) 1 it' D env) R z) (noted prog w A env R) s) :
    codeAny (model prog w) A (.compStart (sx b t0 i0 t1 i1 sco p) 1 it D env) R s := by
  refine codeAny_of_tree ?_
  show wpAny _ _ ((compStart (sx b t0 i0 t1 i1 sco p) 1 it D env).onRaise (fun x => do noteFrame x env; standAt theWindowsPlace)) _ _ s
  refine wpAny_notedAt ?_
  unfold compStart
  change wpAny _ _ (ask >>= _) _ _ s
  (refine wpAny_bind (wpAny_askSetting ?_); refine wpAny_ite ?_)
  split
  · first
      | exact wpAny_pure (And.intro rfl k0)
      | exact wpAny_bind (wpAny_pure (wpAny_pure (And.intro rfl k0)))
  · first
      | exact wpAny_bind (wpAny_rule (wpAny_bind (wpAny_standAt (wpAny_bind (wpAny_mono h (fun _ _ q => wpAny_pure (And.intro rfl q)) fun _ _ q => q)))))
      | (refine wpAny_bind (wpAny_rule ?_); show wpAny _ _ (standAt i1.pos >>= _) _ _ s; exact wpAny_bind (wpAny_standAt (wpAny_bind (wpAny_mono h (fun _ _ q => wpAny_pure (And.intro rfl q)) fun _ _ q => q))))
end
/-- a kind of set: what a new one is, and what adding makes of it -/
structure SK (P : Program) (w : World) where
  T : Type
  F : Addr → T → HO
  t0 : T
  nw : ∀ (H : Hp) (h : Heap), ObjOk P w H (h.push { cls := .type "set", dict := none, data := .set #[] 0 (.fresh 0 0 (!w.params.followText "set-order")) }) h.objs.size (F h.objs.size t0)
  ad : Hp → V → T → T → Prop
  add : ∀ (X : Cx), X.prog = P → X.w = w → ∀ (pins : List (Addr × Obj)) (σ : L2.St) (H : Hp) (s : Shared) (E : Value → Shared → Prop) (D : Addr) (t t' : T) (y : V) (v : Value) (Q : Value → Shared → Prop),
    Inv X pins σ H s → H D = some (F D t) → ad H y t t' → RelV y v → (∀ s', Inv X pins σ (upd H D (F D t')) s' → Q .none s') → wpAny (model P w) X.A (call (.builtin "set.add") [.ref D, v]) Q E s
/-- sets of ints, as the list of what was put in -/
def skI (P : Program) (w : World) : SK P w where
  T := List Int
  F := fun D ks => SetO w D (fun j => decide (j ∈ ks)) ks.length
  t0 := []
  nw := fun H h => setO_new ((setR_fresh w).congr fun k => by simp)
  ad := fun _ y ks ks' => ∃ k : Int, y = .int k ∧ ks.length + 1 < scanBound ∧ ks' = if k ∈ ks then ks else k :: ks
  add := by
    intro X eP ew pins σ H s E D ks ks' y v Q I hD ⟨k, ey, room, e'⟩ rv hQ
    subst eP ew ey
    obtain ⟨tk, rfl⟩ := rv
    refine setR_add (setO_get I hD) room fun h' sb new => ?_
    have new' : SetR X.w h' D (fun j => decide (j ∈ ks')) ks'.length := by
      have e1 : (if decide (k ∈ ks) = true then ks.length else ks.length + 1) = ks'.length := by
        rw [e']
        by_cases hk : k ∈ ks <;> simp [hk]
      rw [e1] at new
      refine new.congr fun j => ?_
      rw [e']
      by_cases hk : k ∈ ks
      · rw [if_pos hk]
        by_cases hj : j = k
        · subst hj
          simp [hk]
        · simp [hj]
      · rw [if_neg hk]
        by_cases hj : j = k <;> simp [hj]
    have there : ∃ u, h'.get? D = some u := by
      obtain ⟨u, _, _, _, hu, _⟩ := id new
      exact ⟨u, hu⟩
    exact hQ _ (I.write (e := D) (t' := s.toks + 1) (by rw [hD]; trivial) (.inl rfl) (fun c u hc hu => (sb.2 c hc).trans hu) there (setO_new new'))
section
variable {X : Cx}
/-- what the walk of the two clauses asks: W by the first one's turns, U by the second one's -/
def tS2 (S : SK X.prog X.w) (wi : TI) (g : TG) (wi1 : TI) (g1 : TG) (te : TE) (vs vs1 : List Nat) : TE := fun σ H Q =>
  wi σ H fun J H1 => ∀ D, H1 D = none → ∃ W : Nat → Nat → Hp → Prop, (∃ m, W 0 m (upd H1 D (S.F D S.t0))) ∧ ∀ i m G, W i m G →
    (J.stop i G ∧ Q (.ref D) G) ∨ (J.go i G ∧ ∀ x G', J.yld i G x G' → g x (L2.wipe σ vs) G' fun σ2 G2 => L2.wipe σ2 vs = L2.wipe σ vs ∧ wi1 σ2 G2 fun J1 G3 =>
      ∃ U : Nat → Nat → Hp → Prop, (∃ k, U 0 k G3) ∧ ∀ j k G, U j k G →
        (J1.stop j G ∧ ∃ m', m' < m ∧ W (i + 1) m' G) ∨ (J1.go j G ∧ ∀ y G', J1.yld j G y G' → g1 y (L2.wipe σ2 vs1) G' fun σ3 G4 => L2.wipe σ3 vs1 = L2.wipe σ2 vs1 ∧ te σ3 G4 fun z G5 =>
          ∃ t t', G5 D = some (S.F D t) ∧ S.ad G5 z t t' ∧ ∃ k', k' < k ∧ U (j + 1) k' (upd G5 D (S.F D t'))))
/-- for every block of the scope -/
abbrev OnBlk (X : Cx) (sco : Scope) (Y : Cx → Prop) : Prop := ∀ (z : Shared) (G : Hp) (C : Addr) (cl : List (PySem.Str × Addr)) (fp : List Addr), Y (X.blk z G sco (compEnvC sco cl C X.env) fp)
theorem pe_sx {S : SK X.prog X.w} {b t0 i0 t1 i1 : Expr} {sco : Scope} {own : List (PySem.Str × Nat)} {vs1 : List Nat} {p : Pos} {wi wi1 : TI} {g g1 : TG} {te : TE} (hc : X.calm = true) (hN : X.N.Nodup) (hi : PI X t0 i0 wi) (ok : BlkOk X.N X.env.scope sco own)
    (hv : ∀ i ∈ vs1, i ∈ own.map (·.2)) (hg : OnBlk X sco fun Y => PG Y t0 g) (hi1 : OnBlk X sco fun Y => PI Y t1 i1 wi1) (hg1 : OnBlk X sco fun Y => PG Y t1 g1) (he : OnBlk X sco fun Y => PE Y b te)
    (hs : ∀ y, foldedSetIterable i0 X.env y = pure y := by intro _; rfl) (hs1 : ∀ env y, foldedSetIterable i1 env y = pure y := by intro _ _; rfl) : PE X (sx b t0 i0 t1 i1 sco p) (tS2 S wi g wi1 g1 te (own.map (·.2)) vs1) := by
  refine ⟨fun pins z0 σ H Q I h => ?_⟩
  rw [PpSet.eval_SetComp]
  have free : ∀ y ∈ sco.names, y.2 = .free → ∃ c, X.env.cells.lookup y.1 = some c := fun y hy e => (ok.free y hy e).elim (fun k => I.ok.has _ (.inl k)) fun k => I.ok.has _ (.inr k)
  refine wpAny_comprehension_free (use := none) rfl hs (closure_ok free) ok.kind (fun y hy e => by rw [ok.uniq y hy, e]) (thn (hi.run pins z0 σ H _ I h) fun _ z1 hx => thn hx fun _ z2 h2 => ?_)
  obtain ⟨it, fp, tn, J, Y2, e, v2, T, st2, f2, q⟩ := h2
  subst e
  refine PpSet.newSet_ok (newEnv_comp ?_)
  generalize eD : z2.heap.objs.size = D
  obtain ⟨W, ⟨m0, w0⟩, turn⟩ := q D (v2.hok.fresh (Nat.le_of_eq eD))
  -- the set has come
  generalize hs3 : ({ z2 with heap := z2.heap.push { cls := .type "set", dict := none, data := .set #[] 0 (.fresh 0 0 (!X.w.params.followText "set-order")) } } : Shared) = z3
  have h3 : z3.heap = z2.heap.push { cls := .type "set", dict := none, data := .set #[] 0 (.fresh 0 0 (!X.w.params.followText "set-order")) } := by rw [← hs3]
  have v3 : Inv X pins σ (upd Y2 D (S.F D S.t0)) z3 := by
    rw [← hs3]
    have n := S.nw (upd Y2 D (S.F D S.t0)) z2.heap
    rw [eD] at n
    exact v2.laid (t' := z2.toks) (fun c o k => Heap.get?_push_of_some _ k) (Nat.le_of_eq eD) n
  have f3 : ∀ c ∈ fp, FpOk X pins (upd Y2 D (S.F D S.t0)) c ∧ c < z3.heap.objs.size := fun c hb => by
    obtain ⟨o, k, _⟩ := T.obj _ _ st2 c hb
    have lt := Heap.lt_size k
    refine ⟨⟨?_, (f2 c hb).2⟩, by rw [h3, Heap.size_push]; exact Nat.lt_succ_of_lt lt⟩
    rw [upd_ne (by rw [← eD]; exact Nat.ne_of_lt lt)]
    exact (f2 c hb).1
  have st3 : tn 0 z3.heap := T.keep _ _ _ st2 fun c _ o k => by rw [h3]; exact Heap.get?_push_of_some _ k
  have v4 := block_start v3 ok hN f3
  generalize hH3 : upd Y2 D (S.F D S.t0) = Y3 at v3 v4 w0 f3
  generalize hcl : cellsFrom (z3.heap.objs.size + 1) sco.names (cloFrom X.env.cells sco.names []) = cl at v4
  have pg := hg z3 Y3 z3.heap.objs.size cl fp
  have pi1 := hi1 z3 Y3 z3.heap.objs.size cl fp
  have pg1 := hg1 z3 Y3 z3.heap.objs.size cl fp
  have pe := he z3 Y3 z3.heap.objs.size cl fp
  show codeAny _ _ (.compStart (sx b t0 i0 t1 i1 sco p) 0 (.ref it) (.ref D) (compEnvC sco cl z3.heap.objs.size X.env)) (compPost (model X.prog X.w) X.A X.xe none _ (.ref D) z3.heap.objs.size) { z3 with heap := pushCells (z3.heap.push { cls := .type "dict", data := .dict #[] }) sco.names }
  generalize hce : compEnvC sco cl z3.heap.objs.size X.env = ce at v4 pg pi1 pg1 pe ⊢
  have eL0 : ce.locals = z3.heap.objs.size := by subst hce; rfl
  generalize hs4 : ({ z3 with heap := pushCells (z3.heap.push { cls := .type "dict", data := .dict #[] }) sco.names } : Shared) = z4 at v4 ⊢
  have st4 : tn 0 z4.heap := T.keep _ _ _ st3 fun c _ o k => by rw [← hs4]; exact pushCells_keeps _ _ _ _ (Heap.get?_push_of_some _ k)
  have stat : ∀ {σ' : L2.St} {H' : Hp} {z : Shared}, Inv (X.blk z3 Y3 sco ce fp) [] σ' H' z → (∀ c ∈ fp, H' c = none) → ∀ c ∈ fp, FpOk (X.blk z3 Y3 sco ce fp) [] H' c := fun {σ' H' z} I' hn c hb =>
    ⟨hn c hb, (I'.ok.exf c hb).1, I'.ok.exfs c hb, .inl hb, fun x d k => (I'.ok.exf c hb).2 x d k, fun a ha => absurd (show a ∈ ([] : List (Addr × Obj)) ++ [] from ha) (by simp)⟩
  -- between the turns of the first clause
  let At : Nat → Shared → Prop := fun n z => ∃ i G, Inv (X.blk z3 Y3 sco ce fp) [] (L2.wipe σ (own.map (·.2))) G z ∧ tn i z.heap ∧ (∀ c ∈ fp, G c = none) ∧ W i n G
  have loop : codeAny (model X.prog X.w) X.A (.compLoop (sx b t0 i0 t1 i1 sco p) 0 (.ref it) (.ref D) ce) (compPost (model X.prog X.w) X.A X.xe none (EP X pins σ Q) (.ref D) z3.heap.objs.size) z4 := by
    refine sx_loop0 (hs1 ce) At ?_ m0 ⟨0, Y3, v4, st4, fun c hb => (f3 c hb).1.1, w0⟩
    rintro n z5 ⟨i, Y5, v5, st5, n5, w5⟩
    rcases turn i n Y5 w5 with ⟨stop, qq⟩ | ⟨go, step⟩
    · refine thnF (T.done (X.blk z3 Y3 sco ce fp) rfl rfl rfl hc i [] z5 _ Y5 (fun _ _ => False) v5 (stat v5 n5) st5 stop) fun r z6 ⟨hr, v6⟩ => ?_
      subst hr
      -- the def goes on
      have v7 : Inv X pins σ Y5 z6 := v3.call' (ch := fp) v6.os v6.base v6.hok v6.bare fun c hb => ⟨(f3 c hb).1.2.2.2.1, (f3 c hb).1.2.1, (f3 c hb).1.2.2.2.2.1, (f3 c hb).1.2.2.2.2.2⟩
      have nC : Y5 z3.heap.objs.size = none := by
        rw [← eL0]
        exact v6.free
      obtain ⟨m, hn, _⟩ := v6.loc
      have hn' : z6.heap.Ns z3.heap.objs.size m := by
        rw [← eL0]
        exact hn
      obtain ⟨f0, f1, _, g3, f4, f5⟩ := v3.fpOk (Nat.le_refl _) nC
      exact ⟨m, hn', fun h'' sb => ⟨.ref D, Y5, v7.turned (t' := z6.toks) (fun c o hb k => (sb.2 c hb).trans k) f0 f1 g3 f4 f5, rfl, qq⟩⟩
    · refine thnF (T.item (X.blk z3 Y3 sco ce fp) rfl rfl rfl hc i [] z5 _ Y5 (fun _ _ => False) v5 (stat v5 n5) st5 go) fun r z6 ⟨u, hr, h6⟩ => ?_
      subst hr
      refine thnF h6 fun _ z7 ⟨x, Y7, v7, r7, y7, st7, n7⟩ => ?_
      have v7' := v7.pinned (stat v7 n7) (T.obj _ _ st7)
      refine thnF (pg.run _ z7 _ Y7 x u _ v7' r7 (step x Y7 y7)) fun _ z8 ⟨σ8, Y8, v8, hw8, q8⟩ => ?_
      refine thnF (pi1.run _ z8 σ8 Y8 _ v8 q8) fun _ z9 hx => thnF hx fun _ z10 h10 => ?_
      obtain ⟨it1, fp1, tn1, J1, Y10, e1, v10, T1, st10, f10, U, ⟨k0, u0⟩, turn1⟩ := h10
      subst e1
      have back : ∀ (j : Nat) v, (L2.wipe σ (own.map (·.2)))[j]? = some (some v) → (L2.wipe σ8 vs1)[j]? = some (some v) := fun j v k => by
        rw [← hw8] at k
        obtain ⟨k1, k2⟩ := wipe_some k
        rw [wipe_out fun z => k2 (hv j z)]
        exact k1
      have stat1 : ∀ {G : Hp}, (∀ c ∈ fp1, G c = none) → ∀ c ∈ fp1, FpOk (X.blk z3 Y3 sco ce fp) ([] ++ pinsAt fp z7.heap) G c := fun hn c hb => ⟨hn c hb, (f10 c hb).2⟩
      have loop1 : codeAny (model X.prog X.w) X.A (.compLoop (sx b t0 i0 t1 i1 sco p) 1 (.ref it1) (.ref D) ce)
          (fun r z => match r with
            | .ok _ => ∃ l, l < n ∧ At l z
            | .error _ => False) z10 := by
        refine sx_loop1 (fun k z => ∃ j G, Inv (X.blk z3 Y3 sco ce fp) ([] ++ pinsAt fp z7.heap) (L2.wipe σ8 vs1) G z ∧ tn1 j z.heap ∧ (∀ c ∈ fp1, G c = none) ∧ U j k G) ?_ k0
          ⟨0, Y10, v10.weak (wipe_length _ _) (fun j v k => (wipe_some k).1), st10, fun c hb => (f10 c hb).1, u0⟩
        rintro k z12 ⟨j, Y12, v12, st12, n12, w12⟩
        rcases turn1 j k Y12 w12 with ⟨stop1, m', hm, w'⟩ | ⟨go1, step1⟩
        · refine thnF (T1.done (X.blk z3 Y3 sco ce fp) rfl rfl rfl hc j _ z12 (L2.wipe σ8 vs1) Y12 (fun _ _ => False) v12 (stat1 n12) st12 stop1) fun r z13 ⟨hr, v13⟩ => ?_
          subst hr
          have pin : ∀ c ∈ fp, ∀ o, z7.heap.get? c = some o → z13.heap.get? c = some o ∧ Y12 c = none := fun c hb o k =>
            let z := v13.pin (c, o) (List.mem_append_right _ (List.mem_append_right _ (mem_pinsAt hb k)))
            ⟨z.1, z.2.1⟩
          refine ⟨m', hm, i + 1, Y12, (v13.unpinned (pins := [])).weak (by rw [wipe_length, wipe_length, ← wipe_length σ8 (own.map (·.2)), hw8, wipe_length]) back, T.keep _ _ _ st7 fun c hb o k => (pin c hb o k).1, fun c hb => ?_, w'⟩
          obtain ⟨o, k, _⟩ := T.obj _ _ st7 c hb
          exact (pin c hb o k).2
        · refine thnF (T1.item (X.blk z3 Y3 sco ce fp) rfl rfl rfl hc j _ z12 (L2.wipe σ8 vs1) Y12 (fun _ _ => False) v12 (stat1 n12) st12 go1) fun r z13 ⟨u1, hr, h13⟩ => ?_
          subst hr
          refine thnF h13 fun _ z14 ⟨x1, Y14, v14, r14, y14, st14, n14⟩ => ?_
          have v14' := v14.pinned (stat1 n14) (T1.obj _ _ st14)
          refine thnF (pg1.run _ z14 (L2.wipe σ8 vs1) Y14 x1 u1 _ v14' r14 (step1 x1 Y14 y14)) fun _ z15 ⟨σ15, Y15, v15, hw15, q15⟩ => ?_
          refine thnF (pe.run _ z15 σ15 Y15 _ v15 q15) fun v z16 ⟨y, Y16, v16, r16, t, t', d16, ad16, k', hk', u'⟩ => ?_
          refine S.add (X.blk z3 Y3 sco ce fp) rfl rfl _ σ15 Y16 z16 _ D t t' y v _ v16 d16 ad16 r16 fun z17 v17 => ?_
          have pin : ∀ c ∈ fp1, ∀ o, z14.heap.get? c = some o → z17.heap.get? c = some o ∧ (upd Y16 D (S.F D t')) c = none := fun c hb o k =>
            let z := v17.pin (c, o) (List.mem_append_right _ (List.mem_append_right _ (mem_pinsAt hb k)))
            ⟨z.1, z.2.1⟩
          refine ⟨k', hk', j + 1, _, v17.unpinned.weak (by rw [← hw15, wipe_length]) (fun j v k => by rw [← hw15] at k; exact (wipe_some k).1), T1.keep _ _ _ st14 fun c hb o k => (pin c hb o k).1, fun c hb => ?_, u'⟩
          obtain ⟨o, k, _⟩ := T1.obj _ _ st14 c hb
          exact (pin c hb o k).2
      exact sx_start1 loop1 (T1.self X.A 0 _ _ _ st10 loop1)
  exact PpSet.codeAny_compStart_set loop (T.self X.A 0 _ _ _ st4 loop)
end
end Lh
namespace Lh
open PySem L2
open Evl (Ex ex_l ex_t ex_rd fresh_back)
theorem asc_ext : ∀ {a b : List Int}, a.Pairwise (· < ·) → b.Pairwise (· < ·) → (∀ z, z ∈ a ↔ z ∈ b) → a = b
  | [], [], _, _, _ => rfl
  | [], y :: ys, _, _, h => absurd ((h y).2 List.mem_cons_self) (by simp)
  | x :: xs, [], _, _, h => absurd ((h x).1 List.mem_cons_self) (by simp)
  | x :: xs, y :: ys, ha, hb, h => by
    obtain ⟨a1, a2⟩ := List.pairwise_cons.mp ha
    obtain ⟨b1, b2⟩ := List.pairwise_cons.mp hb
    have e : x = y := by
      rcases List.mem_cons.mp ((h x).1 List.mem_cons_self) with k | k
      · exact k
      rcases List.mem_cons.mp ((h y).2 List.mem_cons_self) with q | q
      · exact q.symm
      have := b1 x k
      have := a1 y q
      omega
    subst e
    rw [asc_ext a2 b2 fun z => ⟨fun hz => ?_, fun hz => ?_⟩]
    · rcases List.mem_cons.mp ((h z).1 (List.mem_cons_of_mem _ hz)) with k | k
      · have := a1 z hz
        omega
      · exact k
    · rcases List.mem_cons.mp ((h z).2 (List.mem_cons_of_mem _ hz)) with k | k
      · have := b1 z hz
        omega
      · exact k
theorem nodup_le : ∀ {a b : List Int}, a.Nodup → (∀ z ∈ a, z ∈ b) → a.length ≤ b.length
  | [], b, _, _ => Nat.zero_le b.length
  | x :: xs, b, h, hs => by
    obtain ⟨hxs, h2⟩ := List.nodup_cons.mp h
    have hx := hs x List.mem_cons_self
    have := nodup_le (a := xs) (b := b.erase x) h2 fun z hz => (List.mem_erase_of_ne fun e => hxs (by rw [← e]; exact hz)).2 (hs z (List.mem_cons_of_mem _ hz))
    rw [List.length_erase_of_mem hx] at this
    have : 0 < b.length := List.length_pos_of_mem hx
    simp only [List.length_cons]
    omega
section
variable {M : Addr → Prop} {Γ Γ' : Ct} {Rs : List Res} {X : Cx} {Z0 Z Hl : Hp} {D : Ends} {K : PySem.W.Frag} {rest : List Stmt}
/-- the second clause's iterator, in each block -/
def wpIb (X : Cx) (sco : Scope) (tg iter : Expr) : TI := fun σ H R => ∀ (z : Shared) (G : Hp) (C : Addr) (cl : List (PySem.Str × Addr)) (fp : List Addr), wpI (X.blk z G sco (compEnvC sco cl C X.env) fp) tg iter σ H R
theorem onblk_pi {sco : Scope} {tg iter : Expr} : OnBlk X sco fun Y => PI Y tg iter (wpIb X sco tg iter) := fun z G C cl fp => ⟨fun pins s σ H R I h => h z G C cl fp pins s I⟩
theorem wipe_one {σ : L2.St} {i j : Nat} (hij : i ≠ j) {a : Option V} : L2.wipe ((L2.wipe σ [i, j]).set i a) [i, j] = L2.wipe σ [i, j] := by
  show ((((σ.set j none).set i none).set i a).set j none).set i none = (σ.set j none).set i none
  rw [List.set_set, List.set_comm _ _ hij, List.set_set, List.set_set]
abbrev blk1 (Γ : Ct) (i j : Nat) (Q : Pd) : Ct := (wipeC Γ [i, j]).set i (some Q)
/-- a thing has been laid that nothing here knows of -/
theorem Step.side {M : Addr → Prop} {A0 G1 A G : Hp} {D : Addr} {o : HO} (t : Step M A0 G1 A G) (hD : G1 D = none) (aD : A D = none) : Step M A0 G1 A (upd G D o) := by
  refine ⟨fun a u hm h => ?_, fun a u h => ?_, t.ex, fun a u h => ?_, t.nw⟩
  · rw [upd_ne (ne_of_none h hD)]
    exact t.un a u hm h
  · obtain ⟨u', h'⟩ := t.th a u h
    exact ⟨u', by rw [upd_ne (ne_of_none h hD)]; exact h'⟩
  · have na : a ≠ D := fun e => by
      rw [e, aD] at h
      cases h
    rw [upd_ne na]
    exact t.le a u h
theorem Step.none {M : Addr → Prop} {A G A' G' : Hp} {D : Addr} {o : HO} (s : Step M A G A' G') (aD : A D = none) (gD : G D = some o) : A' D = none := by
  cases e : A' D with
  | none => rfl
  | some o' =>
    rcases s.nw D o' e with z | z
    · rw [aD] at z
      cases z
    · rw [gD] at z
      cases z
/-- what has been put in so far -/
def InSet (ks : List Int) (R : List Int) (In : Int → Prop) : Prop := ks.Nodup ∧ (∀ z ∈ ks, z ∈ R) ∧ ∀ z, z ∈ ks ↔ In z
theorem InSet.put {ks R : List Int} {In In' : Int → Prop} {k : Int} (h : InSet ks R In) (hk : k ∈ R) (e : ∀ z, In' z ↔ In z ∨ z = k) : InSet (if k ∈ ks then ks else k :: ks) R In' := by
  obtain ⟨h1, h2, h3⟩ := h
  by_cases m : k ∈ ks
  · rw [if_pos m]
    refine ⟨h1, h2, fun z => ⟨fun hz => (e z).2 (.inl ((h3 z).1 hz)), fun hz => ?_⟩⟩
    rcases (e z).1 hz with q | q
    · exact (h3 z).2 q
    · rw [q]
      exact m
  · rw [if_neg m]
    refine ⟨List.nodup_cons.mpr ⟨m, h1⟩, fun z hz => ?_, fun z => ?_⟩
    · rcases List.mem_cons.mp hz with q | q
      · rw [q]
        exact hk
      · exact h2 z q
    · rw [List.mem_cons, e z, h3 z]
      exact Or.comm
theorem ye_sortSx {t0 i0 t1 i1 b : Expr} {sco : Scope} {i j : Nat} (hij : i ≠ j) {Qs : List Pd} (hi : XI M Γ Rs X t0 i0 Qs) (cv : Cov M Rs) (L : Nat → List Int) (R : List Int) (hR : R.Pairwise (· < ·)) (h64 : R.length < 64) (hm : ∀ z, z ∈ R ↔ ∃ n, n < Qs.length ∧ z ∈ L n)
    (h1 : ∀ (n : Nat) (Q : Pd), Qs[n]? = some Q → OnBlk X sco fun Y => XI M (blk1 Γ i j Q) Rs Y t1 i1 ((L n).map fun z => PD K (.int z)))
    (hb : ∀ (n : Nat) (Q : Pd), Qs[n]? = some Q → ∀ z ∈ L n, OnBlk X sco fun Y => XE M (blkG (blk1 Γ i j Q) j (PD K (.int z))) Rs Y b (PD K (.int z))) :
    YE M Γ Rs (tCB (rSortedSet X.w) (tCons (tS2 (skI X.prog X.w) (wpI X t0 i0) (gName i) (wpIb X sco t1 i1) (gName j) (wpEb X sco b) [i, j] [j]) tNil)) (PD K (.list (li R))) := fun σ H0 H l ex k Qf q => hi σ H0 H l ex k _ fun J A0 G1 s1 k1 wk D hD => by
  have nr : ∀ r ∈ Rs, ∀ a ∈ r.ad, a ≠ D := fun r hr a ha e => by
    obtain ⟨⟨o, h1⟩, _⟩ := r.tr (k1.2 r hr) a ha
    rw [e, hD] at h1
    cases h1
  have nM : ¬ M D := fun z => by
    obtain ⟨o, h⟩ := cv A0 G1 k1 D z
    rw [hD] at h
    cases h
  -- what stands in the set, and what the heap is
  let Cd : (Int → Prop) → Hp → Prop := fun In G => ∃ A ks, InSet ks R In ∧ Step M A0 G1 A G ∧ A D = none ∧ Rok Rs A G ∧ G D = some ((skI X.prog X.w).F D ks)
  refine ⟨fun n m G => m = Qs.length - n ∧ n ≤ Qs.length ∧ Cd (fun z => ∃ n', n' < n ∧ z ∈ L n') G, ⟨_, rfl, Nat.zero_le _, A0, [], ⟨List.nodup_nil, by simp, fun z => ⟨fun h => absurd h (by simp), fun ⟨n', h, _⟩ => absurd h (by omega)⟩⟩, (Step.rfl s1.le).side hD (fresh_back s1.le hD), fresh_back s1.le hD, k1.wr nr, upd_same⟩, ?_⟩
  rintro n m G ⟨rfl, hn, A, ks, hks, s2, aD, k2, gD⟩
  have w := wk A G s2.ex s2.le n
  by_cases hlt : n < Qs.length
  · have hq := List.getElem?_eq_getElem hlt
    obtain ⟨go, yl⟩ := w.1 _ hq
    refine .inr ⟨go, fun x G2 y => ?_⟩
    obtain ⟨A2, s3, hx⟩ := yl x G2 y
    have a2 := s3.none aD gD
    have g2 : G2 D = some ((skI X.prog X.w).F D ks) := s3.un D _ (fun z => z) gD
    refine ⟨wipe_one hij, ?_⟩
    have lΓ : Sl (blk1 Γ i j Qs[n]) ((L2.wipe σ [i, j]).set i (some x)) A2 := (((l.ex s1.ex).ex (s2.ex.trans s3.ex)).wipe [i, j]).set hx
    intro z0 G0 C cl fp
    refine h1 n _ hq z0 G0 C cl fp _ A2 G2 lΓ s3.le (k2.step0 s3) _ fun J1 A3 G3 s4 k4 wk1 => ?_
    have a3 := s4.none a2 g2
    have g3 : G3 D = some ((skI X.prog X.w).F D ks) := s4.un D _ nM g2
    have st3 : Step M A0 G1 A3 G3 := s2.trans (s3.of0.trans s4)
    refine ⟨fun c m G => m = (L n).length - c ∧ c ≤ (L n).length ∧ ∃ A ks, InSet ks R (fun z => (∃ n', n' < n ∧ z ∈ L n') ∨ z ∈ (L n).take c) ∧ Step M A0 G1 A G ∧ A D = none ∧ Rok Rs A G ∧ G D = some ((skI X.prog X.w).F D ks) ∧ Ex A3 A, ⟨_, rfl, Nat.zero_le _, A3, ks, ?_, st3, a3, k4, g3, Ex.refl _⟩, ?_⟩
    · exact ⟨hks.1, hks.2.1, fun z => by rw [hks.2.2 z]; simp⟩
    · rintro c m G4 ⟨rfl, hc, A4, ks4, hks4, s5, a4, k5, g4, ex4⟩
      have w1 := wk1 A4 G4 ex4 s5.le c
      by_cases hlt1 : c < (L n).length
      · have hz : (L n)[c]? = some (L n)[c] := List.getElem?_eq_getElem hlt1
        obtain ⟨go1, yl1⟩ := w1.1 (PD K (.int (L n)[c])) (by rw [List.getElem?_map, hz]; rfl)
        refine .inr ⟨go1, fun y1 G5 hy => ?_⟩
        obtain ⟨A5, s6, hx5⟩ := yl1 y1 G5 hy
        have a5 := s6.none a4 g4
        have g5 : G5 D = some ((skI X.prog X.w).F D ks4) := s6.un D _ (fun z => z) g4
        refine ⟨by
          show ((((L2.wipe σ [i, j]).set i (some x)).set j none).set j (some y1)).set j none = ((L2.wipe σ [i, j]).set i (some x)).set j none
          rw [List.set_set, List.set_set], ?_⟩
        have l5 : Sl (blkG (blk1 Γ i j Qs[n]) j (PD K (.int (L n)[c]))) ((L2.wipe ((L2.wipe σ [i, j]).set i (some x)) [j]).set j (some y1)) A5 := (((lΓ.ex s4.ex).ex (ex4.trans s6.ex)).wipe [j]).set hx5
        have hzm : (L n)[c] ∈ L n := List.getElem_mem hlt1
        intro z0 G0 C cl fp
        refine hb n _ hq _ hzm z0 G0 C cl fp _ A5 G5 l5 s6.le (k5.step0 s6) _ fun v A6 G6 s7 k7 hv => ?_
        obtain rfl : v = .int (L n)[c] := hv
        have a6 := s7.none a5 g5
        have g6 : G6 D = some ((skI X.prog X.w).F D ks4) := s7.un D _ nM g5
        have hzR : (L n)[c] ∈ R := (hm _).2 ⟨n, hlt, hzm⟩
        have hle : ks4.length ≤ R.length := nodup_le hks4.1 hks4.2.1
        have t6 : Step M A0 G1 A6 G6 := s5.trans (s6.of0.trans s7)
        refine ⟨ks4, _, g6, ⟨_, rfl, by unfold scanBound; omega, rfl⟩, (L n).length - (c + 1), by omega, rfl, hlt1, A6, _, hks4.put hzR fun z => ?_, t6.side hD a6, a6, k7.wr nr, upd_same, ex4.trans (s6.ex.trans s7.ex)⟩
        rw [List.take_add_one, hz, List.mem_append, ← or_assoc]
        simp
      · have e : c = (L n).length := by omega
        subst e
        refine .inl ⟨w1.2 (by simp), Qs.length - (n + 1), by omega, rfl, hlt, A4, ks4, ⟨hks4.1, hks4.2.1, fun z => ?_⟩, s5, a4, k5, g4⟩
        rw [hks4.2.2 z, List.take_length]
        constructor
        · rintro (⟨n', h, h'⟩ | h)
          · exact ⟨n', by omega, h'⟩
          · exact ⟨n, by omega, h⟩
        · rintro ⟨n', h, h'⟩
          by_cases en : n' = n
          · subst en
            exact .inr h'
          · exact .inl ⟨n', by omega, h'⟩
  · have e : n = Qs.length := by omega
    subst e
    have hle : ks.length ≤ R.length := nodup_le hks.1 hks.2.1
    refine .inl ⟨w.2 rfl, D, _, _, rfl, gD, by omega, fun ns p hp hn _ hfr => ?_⟩
    have en : ns = R := asc_ext hp hR fun z => by
      rw [hn z, hm z, decide_eq_true_eq, hks.2.2 z]
    subst en
    have t : Step M H0 H A G := s1.trans s2
    exact q (.ref p) (upd A p (.lst (ns.map V.int))) _ (t.trans (Step.new t.le hfr)) (k2.step0 (Step.new t.le hfr)) ⟨p, _, rfl, upd_same, DdAll.of_ints _⟩
/-- sorted({b for x in i0 for y in i1}), of ints -/
theorem xe_sortSx (i j : Nat) (hij : i ≠ j) {x y : Str} {i0 i1 b : Expr} {sco : Scope} {xp yp p pos sp : Pos} {Qs : List Pd} (hm : X.mg "sorted" = none) (hi : XI M Γ Rs X (.Name x xp) i0 Qs) (L : Nat → List Int) (R : List Int) (hR : R.Pairwise (· < ·)) (h64 : R.length < 64) (hmem : ∀ z, z ∈ R ↔ ∃ n, n < Qs.length ∧ z ∈ L n)
    (h1 : ∀ (n : Nat) (Q : Pd), Qs[n]? = some Q → OnBlk X sco fun Y => XI M (blk1 Γ i j Q) Rs Y (.Name y yp) i1 ((L n).map fun z => PD X.K (.int z)))
    (hb : ∀ (n : Nat) (Q : Pd), Qs[n]? = some Q → ∀ z ∈ L n, OnBlk X sco fun Y => XE M (blkG (blk1 Γ i j Q) j (PD X.K (.int z))) Rs Y b (PD X.K (.int z))) (hN : X.N.Nodup) (ok : BlkOk X.N X.env.scope sco [(x, i), (y, j)]) (cv : Cov M Rs) (hg : BlkG X sco x xp i) (hg1 : BlkG X sco y yp j)
    (hc : X.calm = true := by rfl) (hgl : Gl X "sorted" := by rfl) (hs : ∀ y, foldedSetIterable i0 X.env y = pure y := by intro _; rfl) (hs1 : ∀ env y, foldedSetIterable i1 env y = pure y := by intro _ _; rfl) :
    XE M Γ Rs X (.Call (.Name "sorted" p) [sx b (.Name x xp) i0 (.Name y yp) i1 sco sp] [] pos) (PD X.K (.list (li R))) :=
  YE.wp (pe_callB (cr_sortedSet hc) hgl hm (by decide +kernel) (pa_cons (pe_sx (own := [(x, i), (y, j)]) (vs1 := [j]) hc hN pi_wp ok (by simp) hg onblk_pi hg1 blk_ok hs hs1) pa_nil)) (ye_sortSx hij hi cv L R hR h64 hmem h1 hb)
end
end Lh
namespace Lh
open PySem L2
open Evl (Ex ex_l ex_t ex_rd fresh_back)
theorem eqvAll_li : ∀ a b : List Int, PyData.eqvAll (li a) (li b) = decide (a = b)
  | [], [] => rfl
  | [], _ :: _ => rfl
  | _ :: _, [] => rfl
  | x :: xs, y :: ys => by
    show ((x == y) && PyData.eqvAll (li xs) (li ys)) = _
    rw [eqvAll_li xs ys]
    by_cases h : x = y
    · subst h
      simp
    · simp [h]
theorem eqv_li (a b : List Int) : PyData.eqv (.list (li a)) (.list (li b)) = decide (a = b) := eqvAll_li a b
theorem eqv_tli (a b : List Int) : PyData.eqv (.tuple (li a)) (.tuple (li b)) = decide (a = b) := eqvAll_li a b
def isNone : PyData → Bool
  | .none => true
  | _ => false
theorem Dd.isNone {K : PySem.W.Frag} {H : Hp} {d : PyData} {x : V} (h : Dd K H d x) : decide (x = .non) = isNone d := by
  cases d with
  | none =>
    have e : x = .non := h
    subst e
    rfl
  | bool _ =>
    have e : x = .bl _ := h
    subst e
    rfl
  | int _ =>
    have e : x = .int _ := h
    subst e
    rfl
  | str _ =>
    have e : x = .str _ := h
    subst e
    rfl
  | list _ =>
    obtain ⟨_, _, e, _⟩ := h
    subst e
    rfl
  | tuple _ =>
    obtain ⟨_, _, e, _⟩ := h
    subst e
    rfl
  | dict _ => exact h.elim
section
variable {M : Addr → Prop} {Γ Γ' : Ct} {Rs : List Res} {X : Cx} {Z0 Z Hl : Hp} {D : Ends} {K : PySem.W.Frag} {rest : List Stmt} {a b c e : Expr} {es : List Expr} {pos p : Pos} {i j k : Int}
theorem xt_neLi {ns ms : List Int} {n : Nat} (hr : Room n X.A) (ha : XE M Γ Rs X a (PD X.K (.list (li ns)))) (hb : XE M Γ Rs X b (PD X.K (.list (li ms)))) : XT M Γ Rs X (.Compare a [.NotEq] [b] pos) (Is (!decide (ns = ms))) :=
  YT.eq (xt_neD hr ha hb (shaped_li ns) (shaped_li ms)) (by rw [eqv_li])
theorem xt_notV {d : PyData} (h : XE M Γ Rs X a (PD X.K d)) {kc : Nat} {pc : Pos} : XT M Γ Rs X (.Compare a [.IsNot] [.Constant .none kc pc] pos) (Is (!isNone d)) :=
  xt_cmp (K := X.K) op_notN h (xe_non (K := X.K)) (fun x y H0 H hx hy e _ => by
    have hy' : y = .non := hy
    refine (Yld.val (z := .bl (!decide (x = .non))) (C := PD X.K (.bool (!isNone d))) e ?_ fun Q q => ⟨hy', q⟩).pb
    rw [Dd.isNone hx]
    rfl) (by rfl)
end
/-! ### the law's own def -/
section
variable {K : PySem.W.Frag} {mg : Str → Option Value} {base : Heap} {P : Program} {w : World}
abbrev spLaw (K : PySem.W.Frag) : Sp := fun vs H Q _ => ∃ (a : Addr) (ns : List Int), vs = [.ref a] ∧ SqL K H a (ns.map V.int) ∧ ns.length ≤ 63 ∧ (∀ z ∈ ns, Builtin.Int.intBits z ≤ 1048576) ∧ ∀ H', Q (.bl true) H'
end
theorem mb_ad {b l a : Addr} (h : MB b l a) : a ∈ (Res.box b l).ad := by
  have h' : a = b ∨ a = l := h
  simpa [Res.box] using h'
end Lh
/-! Lists that an expression makes anew and that still change; an item of such a list added to. -/
namespace Lh
open PySem L2
open Evl (Ex ex_l ex_t ex_rd fresh_back)
section
variable {M : Addr → Prop} {Γ Γ' : Ct} {Rs : List Res} {X : Cx} {Z0 Z Hl : Hp} {D : Ends} {K : PySem.W.Frag} {rest : List Stmt} {a b e o : Expr} {pos : Pos}
/-- t makes a new list of these things -/
def FE (M : Addr → Prop) (Γ : Ct) (Rs : List Res) (t : TE) (Ps : List Pd) : Prop := ∀ (σ : L2.St) (H0 H : Hp), Sl Γ σ H0 → Ex H0 H → Rok Rs H0 H → ∀ Q : VK,
  (∀ (p : Addr) (vs : List V) (H1 G1 : Hp), Step M H0 H H1 G1 → Rok Rs H1 G1 → G1 p = none → DAll Ps vs H1 → Q (.ref p) (upd G1 p (.lst vs))) → t σ H Q
theorem FE.wp {t : TE} {Ps : List Pd} (h : PE X e t) (y : FE M Γ Rs t Ps) : FE M Γ Rs (wpE X e) Ps := fun σ H0 H l ex r Q q => PE.wp h (y σ H0 H l ex r Q q)
/-- [..] * k -/
theorem fe_rep {ds : List PyData} {k : Int} (ha : XE M Γ Rs X a (PD X.K (.list ds))) (hb : XE M Γ Rs X b (PD X.K (.int k))) (hk : -(2 ^ 63) ≤ k ∧ k < 2 ^ 63) (hz : ds.length * k.toNat ≤ 1000000) :
    FE M Γ Rs (wpE X (.BinOp a .Mult b pos)) ((List.replicate k.toNat ds).flatten.map (PD X.K)) :=
  FE.wp (pe_op op_rep pe_wp pe_wp) fun σ H0 H l ex r Q q => ha σ H0 H l ex r _ fun x H1 G1 s1 k1 hx => hb σ H1 G1 (l.ex s1.ex) s1.le k1 _ fun y H2 G2 s2 k2 hy => by
    obtain ⟨c, xs, e1, h1, h2⟩ := hx
    have e2 : y = .int k := hy
    subst e1 e2
    refine ⟨c, k, xs, rfl, rfl, s2.le _ _ (s2.ex _ _ h1), hk.1, hk.2, by rw [h2.len]; exact sl_big hz, fun p hp => ?_⟩
    exact q p _ H2 G2 (s1.trans s2) k2 hp (dd_rep (DdAll.ex s2.ex _ _ h2) _).da
/-- y = e, a new list that may still change -/
theorem xs_newF (i : Nat) {x : Str} {Ps : List Pd} {pos' : Pos} (h : FE M Γ Rs (wpE X e) Ps) (k : ∀ q, XS M (Γ.set i (some (PV (.ref q)))) (Res.lst Z q Ps :: Rs) X Z0 Z Hl D rest) (cv : Cov M Rs) (hN : X.N.Nodup)
    (hi : X.N[i]? = some x := by rfl) (hx : Loc X.env.scope x := by first | exact Or.inl rfl | exact Or.inr rfl) (hs : swapsWith e (some (.Name x pos')) pos.line X.env = pure false := by rfl) (hf : X.fn x = true ∨ X.env.scope.names.lookup x = some .local := by first | exact .inl rfl | exact .inr rfl) :
    XS M Γ Rs X Z0 Z Hl D (.Assign [.Name x pos'] e pos :: rest) :=
  xs_cons (ps_set hN hi hx pe_wp hs hf) fun σ H0 H l s b r => h σ H0 H l s.le r _ fun p vs H1 G1 s1 k1 hp a1 => by
    have t := s.trans s1
    have ne : ∀ r ∈ Rs, ∀ a ∈ r.ad, a ≠ p := fun r hr a ha e => by
      obtain ⟨⟨o, h1⟩, _⟩ := r.tr (k1.2 r hr) a ha
      rw [e, hp] at h1
      cases h1
    have hZ : Z p = none := by
      cases e : Z p with
      | none => rfl
      | some o =>
        obtain ⟨o', h'⟩ := t.th p o e
        rw [hp] at h'
        cases h'
    have aN := fresh_back s1.le hp
    refine k p _ H1 _ ((l.ex s1.ex).set (P := PV (.ref p)) rfl) ⟨fun a o hm ha => ?_, fun a o ha => ?_, t.ex, fun a o ha => ?_, t.nw⟩ (b.trans s1.ex) ⟨?_, fun r hr => ?_⟩
    · rw [upd_ne (ne_of_none ha hZ)]
      exact t.un a o hm ha
    · obtain ⟨o', h'⟩ := t.th a o ha
      exact ⟨o', by rw [upd_ne (ne_of_none h' hp)]; exact h'⟩
    · rw [upd_ne (ne_of_none (t.le a o ha) hp)]
      exact t.le a o ha
    · rw [List.flatMap_cons, List.nodup_append]
      refine ⟨by simp [Res.lst], k1.1, fun a ha c hc e => ?_⟩
      have e1 : a = p := by simpa [Res.lst] using ha
      obtain ⟨r, hr, hc⟩ := List.mem_flatMap.mp hc
      exact ne r hr c hc (e ▸ e1)
    · obtain e | hr := List.mem_cons.mp hr
      · subst e
        exact ⟨hZ, aN, vs, upd_same, a1⟩
      · exact (k1.wr ne).2 r hr
/-- an item, by values -/
theorem get_lst : PGet X (rIxL X.K) := by
  intro pins z σ G o k vo vk Q J ro rk h
  obtain ⟨c, us, n, y, rfl, rfl, hc, hy, done⟩ := h
  cases ro
  obtain ⟨tk, rfl⟩ := rk
  obtain ⟨es, rel, plain, _⟩ := J.list hc
  obtain ⟨m, g1, g2, _, g4, g5⟩ := atI_get hy
  obtain ⟨val, hval, rval⟩ := rel.get g2
  have len := rel.length
  have big := line63
  have fin : EP X pins σ Q val z := ⟨y, G, J, rval, done⟩
  by_cases neg : n < 0
  · have place : (n + (es.toArray.size : Int)).toNat = m := by
      rw [seqIndex_neg neg g4] at g1
      rw [List.size_toArray, ← len]
      exact Option.some.inj g1
    refine wpAny_getItem_list_neg plain.isList neg ?_ (by omega) ?_ fin
    · rw [List.size_toArray]
      omega
    · rw [place]
      simpa using hval
  · have place : n.toNat = m := by
      rw [seqIndex_of (by omega) g5] at g1
      exact Option.some.inj g1
    refine wpAny_getItem_list plain.isList (by omega) (by omega) ?_ fin
    rw [place]
    simpa using hval
/-- o[i] += e, ints -/
theorem xs_addS {q : Addr} {i : Expr} {ns : List Int} {k n : Int} {tpos : Pos} {Ps : List Pd} (eP : Ps = (li ns).map (PD X.K)) (ho : XE M Γ (Res.lst Z q Ps :: Rs) X o (PV (.ref q))) (hi : XE M Γ (Res.lst Z q Ps :: Rs) X i (PD X.K (.int k))) (he : XE M Γ (Res.lst Z q Ps :: Rs) X e (PD X.K (.int n))) (hk : 0 ≤ k ∧ k < ns.length)
    (h : XS M Γ (Res.lst Z q ((li (ns.set k.toNat (ns.getD k.toNat 0 + n))).map (PD X.K)) :: Rs) X Z0 Z Hl D rest)
    (ha : ∀ ov iv new, augStore i ov iv new = (do holding [new, ov, iv] (setItem ov iv new); release [new, ov, iv] []; pure .next) := by intros; rfl) : XS M Γ (Res.lst Z q Ps :: Rs) X Z0 Z Hl D (.AugAssign (.Subscript o i tpos) .Add e pos :: rest) := by
  subst eP
  refine xs_cons (ps_augS pe_wp pe_wp get_lst pe_wp ip_add set_list ha) fun σ H0 H l s b r => ho σ H0 H l s.le r _ fun v1 H1 G1 s1 k1 hv1 => hi σ H1 G1 (l.ex s1.ex) s1.le k1 _ fun v2 H2 G2 s2 k2 hv2 => ?_
  have e1 : v1 = .ref q := hv1
  have e2 : v2 = .int k := hv2
  subst e1 e2
  obtain ⟨_, _, xs, hq, hd⟩ := k2.2 _ List.mem_cons_self
  have ex1 := hd.dd.ints
  subst ex1
  have hlt : k.toNat < ns.length := by omega
  have ek : k = (k.toNat : Int) := by omega
  have hn : (ns.map V.int)[k.toNat]? = some (V.int (ns.getD k.toNat 0)) := by
    rw [List.getElem?_map, List.getD_eq_getElem?_getD, List.getElem?_eq_getElem hlt]
    rfl
  have hat : atI (ns.map V.int) k = some (V.int (ns.getD k.toNat 0)) := by
    rw [ek]
    exact atI_nat hn
  refine ⟨q, _, k, _, rfl, rfl, SqL.of hq, hat, he σ H2 G2 (l.ex (s1.ex.trans s2.ex)) s2.le k2 _ fun v3 H3 G3 s3 k3 hv3 => ?_⟩
  have e3 : v3 = .int n := hv3
  subst e3
  obtain ⟨hz0, h0, xs3, hq3, hd3⟩ := k3.2 _ List.mem_cons_self
  have ex3 := hd3.dd.ints
  subst ex3
  refine ⟨_, _, rfl, rfl, q, _, k, k.toNat, rfl, rfl, hq3, ?_, ?_⟩
  · rw [ek]
    exact Evl.ixN_nat (by rw [List.length_map]; omega)
  have eset : (ns.map V.int).set k.toNat (V.int (ns.getD k.toNat 0 + n)) = (ns.set k.toNat (ns.getD k.toNat 0 + n)).map V.int := (List.map_set ..).symm
  rw [eset]
  have t := ((s.trans s1).trans s2).trans s3
  have nd := k3.1
  rw [List.flatMap_cons, List.nodup_append] at nd
  have ne : ∀ r ∈ Rs, ∀ a ∈ r.ad, a ≠ q := fun r hr a ha e => nd.2.2 q (by simp [Res.lst]) a (List.mem_flatMap.mpr ⟨r, hr, ha⟩) e.symm
  have kr : Rok Rs H3 G3 := ⟨nd.2.1, fun r hr => k3.2 r (List.mem_cons_of_mem _ hr)⟩
  refine h _ H3 _ (l.ex ((s1.ex.trans s2.ex).trans s3.ex)) ⟨fun a o hm ha => ?_, fun a o ha => ?_, t.ex, fun a o ha => ?_, t.nw⟩ (b.trans ((s1.ex.trans s2.ex).trans s3.ex)) ⟨k3.1, fun r hr => ?_⟩
  · rw [upd_ne (ne_of_none ha hz0)]
    exact t.un a o hm ha
  · obtain ⟨o', h'⟩ := t.th a o ha
    by_cases c : a = q
    · rw [c]
      exact ⟨_, upd_same⟩
    · exact ⟨o', by rw [upd_ne c]; exact h'⟩
  · have na : a ≠ q := fun e => by
      rw [e, h0] at ha
      cases ha
    rw [upd_ne na]
    exact t.le a o ha
  · obtain e | hr := List.mem_cons.mp hr
    · subst e
      exact ⟨hz0, h0, _, upd_same, (DdAll.of_ints _).da⟩
    · exact (kr.wr ne).2 r hr
/-! ### tuples of ints side by side -/
end
end Lh
/-! List comprehensions of two clauses, over data. -/
namespace Lh
open PySem L2
open Evl (Ex ex_l ex_t ex_rd fresh_back)
/-- what two clauses make -/
def lc2M (f : PyData → List PyData) (c : PyData → PyData → Bool) (e : PyData → PyData → PyData) (ds : List PyData) : List PyData := ds.flatMap fun d => ((f d).filter (c d)).map (e d)
section
variable {M : Addr → Prop} {Γ Γ' : Ct} {Rs : List Res} {X : Cx} {Z0 Z Hl : Hp} {D : Ends} {K : PySem.W.Frag} {rest : List Stmt}
end
end Lh
/-! Lists and tuples of things that are no data; tuples with a star; membership in lists of data. -/
namespace Lh
open PySem L2
open Evl (Ex ex_l ex_t ex_rd fresh_back)
section
variable {M : Addr → Prop} {Γ Γ' : Ct} {Rs : List Res} {X : Cx} {Z0 Z Hl : Hp} {D : Ends} {K : PySem.W.Frag} {rest : List Stmt} {a b c e : Expr} {es : List Expr} {pos p : Pos} {i j k : Int}
/-- [elt for x, y in iter if q] -/
theorem xe_lcPIf (i0 j : Nat) (hij : i0 ≠ j) {x y : Str} {elt iter q : Expr} {scope : Scope} {pos xp yp tp : Pos} {kt : Nat} {Qs : List Pd} (hi : XI M Γ Rs X (.Tuple [.Name x xp, .Name y yp] kt tp) iter Qs) (R : Nat → List PyData → Prop) (r0 : R 0 [])
    (ht : ∀ (i : Nat) (Q : Pd), Qs[i]? = some Q → ∃ P1 P2, Q = PT2 X.K P1 P2 ∧ ∃ B, (Blk X scope fun Y => XT M (blkP Γ i0 j P1 P2) Rs Y q B) ∧ (B true → Blk X scope fun Y => XE M (blkP Γ i0 j P1 P2) Rs Y elt (PEx (fun d => ∀ ds, ds.length ≤ i → R i ds → R (i + 1) (ds ++ [d])) (PD K))) ∧ (B false → ∀ ds, R i ds → R (i + 1) ds)) (hN : X.N.Nodup)
    (ok : BlkOk X.N X.env.scope scope [(x, i0), (y, j)]) (hz : Qs.length ≤ 100000) (cv : Cov M Rs) (hg : ∀ (s : Shared) (H : Hp) (C : Addr) (cl : List (Str × Addr)) (fp : List Addr), PG (X.blk s H scope (compEnvC scope cl C X.env) fp) (.Tuple [.Name x xp, .Name y yp] kt tp) (gTup X.K 2 (gCons (gName i0) (gCons (gName j) gNil))))
    (hc : X.calm = true := by rfl) (hs : ∀ x, foldedSetIterable iter X.env x = pure x := by intro _; rfl) : XE M Γ Rs X (.ListComp elt [⟨.Tuple [.Name x xp, .Name y yp] kt tp, iter, [q], 0⟩] scope pos) (LcP K Qs R) :=
  YE.wp (pe_lc (own := [(x, i0), (y, j)]) hc hN pi_wp ok hg (fun s H C cl fp => pts_one (blk_okT s H C cl fp)) blk_ok hs) (ye_lcP hij hi cv hz R r0 fun i Q hq => by
    obtain ⟨P1, P2, e, B, h1, h2, h3⟩ := ht i Q hq
    exact ⟨P1, P2, e, B, yt_blk h1, fun hb => ye_blk (h2 hb), h3⟩)
/-- (*t, e) -/
theorem xe_tupS {ds : List PyData} {d : PyData} {kk : Nat} {sp : Pos} (h : XE M Γ Rs X a (PD X.K (.tuple ds))) (h2 : XE M Γ Rs X b (PD X.K d)) (hz : ds.length ≤ 1000) (hs : starEach (.Starred a sp :: [b]) X.env = (true, eval a X.env) :: starEach [b] X.env := by rfl) (hs2 : starEach [b] X.env = (false, eval b X.env) :: starEach [] X.env := by rfl) :
    XE M Γ Rs X (.Tuple [.Starred a sp, b] kk pos) (PD X.K (.tuple (ds ++ [d]))) :=
  YE.wp (pe_tup (StX.pa_star pe_wp (pa_cons pe_wp pa_nil hs2) hs)) fun σ H0 H l e k Q q => h σ H0 H l e k _ fun v H1 G1 s1 k1 ⟨t, xs, e1, g1, g2⟩ => by
    refine ⟨t, xs, e1, .inl (ex_t s1.le g1), h2 σ H1 G1 (l.ex s1.ex) s1.le k1 _ fun y H2 G2 s2 k2 hy => ?_⟩
    refine ⟨by rw [List.length_append, g2.len]; exact Nat.le_trans (show ds.length + 1 ≤ 1001 by omega) (by decide), fun p hp => ?_⟩
    have s := s1.trans s2
    exact q _ (upd H2 p (.tup (xs ++ [y]))) _ (s.trans (Step.new s.le hp)) (k2.step0 (Step.new s.le hp)) ⟨p, _, rfl, SqT.of upd_same, DdAll.ex (Ex.new (fresh_back s.le hp)) _ _ (DdAll.app (DdAll.ex s2.ex _ _ g2) (DdAll.one hy))⟩
end
end Lh
namespace Lh
open PySem L2
open Evl (Ex ex_l ex_t ex_rd fresh_back)
/-! ### max of a tuple of ints -/
section
variable {X : Cx}
def rMaxT (K : PySem.W.Frag) : List V → Hp → VK → Prop := fun vs H Q => ∃ (a : Addr) (ns : List Int), vs = [V.ref a] ∧ SqT K H a (ns.map V.int) ∧ 0 < ns.length ∧ ∀ m, m ∈ ns → (∀ y ∈ ns, y ≤ m) → Q (.int m) H
end
/-! ### lists of tuples of ints side by side -/
theorem canLay_tups : ∀ a : List (List Int), PyData.canLayAll0 (a.map fun g => .tuple (li g)) = true ∧ PyData.depthAll (a.map fun g => .tuple (li g)) ≤ 10
  | [] => by simp [PyData.canLayAll0, PyData.depthAll]
  | x :: xs => by
    obtain ⟨h1, h2⟩ := canLay_tups xs
    have hx := shaped_li x
    have hx1 : PyData.canLay0 (.tuple (li x)) = true := SeqAt.canLay_of_shaped (d := .tuple (li x)) hx
    have hx2 : PyData.depth (.tuple (li x)) ≤ 10 := by
      have := PySem.W.depthAll_ints x
      simp only [PyData.depth]
      show _ ≤ 10
      have e : PyData.depthAll (li x) ≤ 1 := this
      omega
    refine ⟨?_, ?_⟩
    · simp only [List.map_cons, PyData.canLayAll0, hx1, h1]
      rfl
    · simp only [List.map_cons, PyData.depthAll]
      omega
theorem shaped_tups (a : List (List Int)) : SeqAt.shaped (.list (a.map fun g => .tuple (li g))) = true := by
  obtain ⟨h1, h2⟩ := canLay_tups a
  have h3 : PyData.depth (.list (a.map fun g => PyData.tuple (li g))) ≤ 64 := by simp only [PyData.depth]; omega
  show (PyData.canLay0 (.list (a.map fun g => PyData.tuple (li g))) && decide (PyData.depth (.list (a.map fun g => PyData.tuple (li g))) ≤ 64)) = true
  rw [Bool.and_eq_true]
  exact ⟨by simp only [PyData.canLay0]; exact h1, decide_eq_true h3⟩
section
variable {M : Addr → Prop} {Γ Γ' : Ct} {Rs : List Res} {X : Cx} {Z0 Z Hl : Hp} {D : Ends} {K : PySem.W.Frag} {rest : List Stmt} {a b c e : Expr} {es : List Expr} {pos p : Pos} {i j k : Int}
/-! ### lists whose things are each one of many -/
end
end Lh
namespace Lh
open PySem L2
open Evl (Ex ex_l ex_t ex_rd fresh_back)
section
variable {M : Addr → Prop} {Γ Γ' : Ct} {Rs : List Res} {X : Cx} {Z0 Z Hl : Hp} {D : Ends} {K : PySem.W.Frag} {rest : List Stmt} {a b c e : Expr} {es : List Expr} {pos p : Pos} {i j k : Int}
end
end Lh
namespace Lh
open PySem L2
open Evl (Ex ex_l ex_t ex_rd fresh_back)
/-! ### the other box of drawings: its state, its cells, how many were drawn -/
def Res.mixC (b l : Addr) (u : Int) (ns : List Int) (n : Int) : Res where
  ad := [b, l]
  p := fun H0 H => H0 b = none ∧ H0 l = none ∧ H b = some (.lst [.int u, .ref l, .int n]) ∧ H l = some (.lst (ns.map V.int))
  st := fun {H0 H H0' H'} e f q ⟨_, _, h2, h3⟩ => ⟨f b (by simp), f l (by simp), by rw [q b (by simp)]; exact h2, by rw [q l (by simp)]; exact h3⟩
  tr := fun {H0 H} ⟨h0, h1, h2, h3⟩ a ha => by
    obtain e | ha := List.mem_cons.mp ha
    · subst e
      exact ⟨⟨_, h2⟩, h0⟩
    · have e : a = l := by simpa using ha
      subst e
      exact ⟨⟨_, h3⟩, h1⟩
def Res.mix (b l : Addr) : Res where
  ad := [b, l]
  p := fun H0 H => ∃ u ns n, ns.length ≤ 63 ∧ (Res.mixC b l u ns n).p H0 H
  st := fun {H0 H H0' H'} e f q ⟨u, ns, n, hl, h⟩ => ⟨u, ns, n, hl, (Res.mixC b l u ns n).st e f q h⟩
  tr := fun {H0 H} ⟨u, ns, n, hl, h⟩ a ha => (Res.mixC b l u ns n).tr h a ha
/-- a new one, all else as it was -/
def NewMix (v : V) (H H' : Hp) : Prop := ∃ (b l : Addr) (u : Int) (ns : List Int) (n : Int), v = .ref b ∧ b ≠ l ∧ ns.length ≤ 63 ∧ H b = none ∧ H l = none ∧ Ex H H' ∧ H' b = some (.lst [.int u, .ref l, .int n]) ∧ H' l = some (.lst (ns.map V.int))
section
variable {M M' : Addr → Prop} {Γ Γ' : Ct} {Rs : List Res} {X : Cx} {Z0 Z Hl : Hp} {D : Ends} {K : PySem.W.Frag} {rest : List Stmt} {a o c e f i : Expr} {es : List Expr} {pos p : Pos} {k : Int} {b l : Addr} {ns ns' : List Int} {u u' n n' : Int}
/-! reading -/
/-! writing -/
end
section
variable {K : PySem.W.Frag} {mg : Str → Option Value} {base : Heap} {P : Program} {w : World}
end
end Lh
namespace Lh
open PySem L2
open Evl (Ex ex_l ex_t ex_rd fresh_back)
/-- the tuple of two classes that was just laid -/
def PTys (n m : String) : Pd := ⟨fun v H => ∃ a, v = .ref a ∧ H a = some (.tup [.ty n, .ty m]), fun e ⟨a, h1, h2⟩ => ⟨a, h1, e _ _ h2⟩⟩
section
variable {M : Addr → Prop} {Γ Γ' : Ct} {Rs : List Res} {X : Cx} {Z0 Z Hl : Hp} {D : Ends} {K : PySem.W.Frag} {rest : List Stmt} {a b e : Expr} {es : List Expr} {pos p : Pos} {i j k : Int}
end
end Lh
namespace Lh
open PySem L2 PySem.Spec PyProof.Rows
abbrev set0 (w : World) : Obj := { cls := .type "set", dict := none, data := .set #[] 0 (.fresh 0 0 (!w.params.followText "set-order")) }
section
variable {s : Shared} {A : Around} {P : Program} {w : World} {E : Value → Shared → Prop}
end
section
variable {X : Cx}
theorem vals_ints : ∀ {ns : List Int} {us : List Value}, Vals (ns.map V.int) us → IntsAre us ns
  | [], _, .nil => .nil
  | n :: _, _, .cons ⟨t, e⟩ r => e ▸ .cons n t (vals_ints r)
/-- set(l), l a list of ints: its number is that of any list of the same ones, each once -/
def rSetL (K : PySem.W.Frag) (w : World) : List V → Hp → VK → Prop := fun vs H Q => ∃ (l : Addr) (ns : List Int), vs = [.ref l] ∧ SqL K H l (ns.map V.int) ∧ ns.length + 1 < scanBound ∧
  ∀ (D : Addr) (c : Nat), H D = none → (∀ R : List Int, R.Nodup → (∀ z, z ∈ R ↔ z ∈ ns) → c = R.length) → Q (.ref D) (upd H D (SetO w D (fun j => decide (j ∈ ns)) c))
/-- sorted(t), t a tuple of ints -/
def rSortTup (K : PySem.W.Frag) : List V → Hp → VK → Prop := fun vs H Q => ∃ (a : Addr) (ns : List Int), vs = [.ref a] ∧ SqT K H a (ns.map V.int) ∧
  ∀ (ms : List Int) (p : Addr), ms.Perm ns → ms.Pairwise (· ≤ ·) → H p = none → Q (.ref p) (upd H p (.lst (ms.map V.int)))
end
section
open Evl (Ex ex_l ex_t ex_rd fresh_back)
variable {M : Addr → Prop} {Γ Γ' : Ct} {Rs : List Res} {X : Cx} {a : Expr} {p pos p2 pos2 : Pos}
end
end Lh
namespace Lh
open PySem L2
open Evl (Ex ex_l ex_t ex_rd fresh_back)
section
variable {M : Addr → Prop} {Γ Γ' : Ct} {Rs : List Res} {X : Cx} {Z0 Z Hl : Hp} {D : Ends} {K : PySem.W.Frag} {rest : List Stmt} {a b c e : Expr} {es : List Expr} {pos p : Pos}
end
end Lh
namespace Lh
open PySem L2
open Evl (Ex ex_l ex_t ex_rd fresh_back)
/-! ### over one of many, of any kind -/
def XIG {α : Type} (M : Addr → Prop) (Γ : Ct) (Rs : List Res) (X : Cx) (tg iter : Expr) (A : α → Prop) (Qf : α → List Pd) : Prop :=
  ∀ (σ : L2.St) (H0 H : Hp), Sl Γ σ H0 → Ex H0 H → Rok Rs H0 H → ∀ R : It → Hp → Prop, (∀ a, A a → ∀ J H0' H', Step M H0 H H0' H' → Rok Rs H0' H' → Wk J (Qf a) H0' → R J H') → wpI X tg iter σ H R
section
variable {M : Addr → Prop} {Γ Γ' : Ct} {Rs : List Res} {X : Cx} {Z0 Z Hl : Hp} {D : Ends} {K : PySem.W.Frag} {rest : List Stmt} {α : Type} {A : α → Prop} {a b c e : Expr} {pos p : Pos} {i j lo hi : Int}
/-! ### drawn numbers -/
/-! ### a list at hand: what has come is opened -/
end
end Lh
/-! A lambda of one parameter, called amid a built-in's own code. -/
namespace LhL
open PySem L2 LamX PySem.W
structure LamP (sc scope : Scope) (p : Str) : Prop where
  kind : scope.kind = .function
  co : scope.isCoroutine = false
  gen : scope.isGenerator = false
  par : scope.names.lookup p = some .local
  cel : ∀ y ∈ scope.names, y.2 ≠ .cell
  loc : ∀ y ∈ scope.names, y.2 = .local → y.1 = p
  free : ∀ y ∈ scope.names, y.2 = .free → sc.names.lookup y.1 = some .cell ∨ sc.names.lookup y.1 = some .free
def lamPB (sc scope : Scope) (p : Str) : Bool :=
  decide (scope.kind = .function) && (!scope.isCoroutine && (!scope.isGenerator && (decide (scope.names.lookup p = some .local) && scope.names.all fun y => !decide (y.2 = .cell) && ((!decide (y.2 = .local) || decide (y.1 = p)) && (!decide (y.2 = .free) || (decide (sc.names.lookup y.1 = some .cell) || decide (sc.names.lookup y.1 = some .free)))))))
theorem lamP_by {sc scope : Scope} {p : Str} (h : lamPB sc scope p = true) : LamP sc scope p := by
  unfold lamPB at h
  rw [Bool.and_eq_true, Bool.and_eq_true, Bool.and_eq_true, Bool.and_eq_true] at h
  obtain ⟨h1, h2, h3, h4, h5⟩ := h
  have h6 := List.all_eq_true.mp h5
  refine ⟨of_decide_eq_true h1, by simpa using h2, by simpa using h3, of_decide_eq_true h4, fun y hy e => ?_, fun y hy e => ?_, fun y hy e => ?_⟩
  · have q := h6 y hy
    rw [decide_eq_true e] at q
    cases q
  · have q := h6 y hy
    rw [decide_eq_true e, Bool.and_eq_true, Bool.and_eq_true] at q
    simpa using q.2.1
  · have q := h6 y hy
    rw [decide_eq_true e, Bool.and_eq_true, Bool.and_eq_true] at q
    simpa using q.2.2
/-- the body's context: the maker's names, then the parameter -/
def lamPx (X : Cx) (p : Str) (A : Around) (outer : List Env) (s : Shared) (H : Hp) (scope : Scope) (f c' : Addr) : Cx where
  prog := X.prog
  w := X.w
  K := X.K
  mg := X.mg
  base := X.base
  A := A.deeper (lamEnv X scope s.heap.objs.size f c')
  N := X.N ++ [p]
  s_0 := s
  H_0 := H
  env := lamEnv X scope s.heap.objs.size f c'
  outer := outer
  stack := lamEnv X scope s.heap.objs.size f c' :: outer
  ex := []
  fn := fun _ => false
  calm := true
  pn := []
  xe := fun _ _ => False
section
variable {X : Cx} {pins : List (Addr × Obj)} {σ : L2.St} {H : Hp} {s : Shared} {p : Str} {scope : Scope} {f c' : Addr}
theorem clo_of (L : LamP X.env.scope scope p) (ok : X.Ok) : ∀ y ∈ scope.names, y.2 = .free → ∃ c, X.env.cells.lookup y.1 = some c := fun y hy e =>
  ok.has y.1 (L.free y hy e)
theorem clo_mem (L : LamP X.env.scope scope p) (ok : X.Ok) {y : Str} {c : Addr} (e : (cloFrom X.env.cells scope.names []).lookup y = some c) : X.env.cells.lookup y = some c := by
  rcases cloFrom_mem (PySem.mem_of_lookup e) with h | ⟨h1, h2⟩
  · exact absurd h (by simp)
  · obtain ⟨c1, h3⟩ := clo_of L ok _ h1 rfl
    have h3' : X.env.cells.lookup y = some c1 := h3
    rw [h2, h3']
    rfl
theorem clo_look {y : Str} (h : scope.names.lookup y = some .free) : ∃ c, (cloFrom X.env.cells scope.names []).lookup y = some c := mem_lookup (cloFrom_has (cells := X.env.cells) (acc := []) (PySem.mem_of_lookup h))
theorem lamp_start {A : Around} {outer : List Env} {h₁ : Heap} {tk : Nat} {v : V} {u : Value} (I : Inv X pins σ H s) (L : LamP X.env.scope scope p) (e0 : Env0 X.prog X.w X.K X.mg X.base A outer s H) (hd : A.handled = none) (hp : p ∉ X.N)
    (hns : h₁.Ns s.heap.objs.size fun y => [(p, u)].reverse.lookup y) (kp : ∀ b o, s.heap.get? b = some o → h₁.get? b = some o) (rv : RelV v u) : Inv (lamPx X p A outer s H scope f c') [] (σ ++ [some v]) H { s with heap := h₁, toks := tk } where
  ok := {
    mod := e0.mod
    kind := L.kind
    glob := rfl
    blt := rfl
    above := Nat.le_refl _
    inj := fun y z c e1 e2 => I.ok.inj y z c (clo_mem L I.ok e1) (clo_mem L I.ok e2)
    has := fun y hy => hy.elim (fun k => absurd rfl (L.cel _ (PySem.mem_of_lookup (show scope.names.lookup y = some .cell from k)))) fun k => clo_look (show scope.names.lookup y = some .free from k)
    cab := fun y c z _ => Bool.noConfusion (show false = true from z)
    hd := fun _ => hd
    frames := Around.frames_deeper e0.frames
    stk := .inr ⟨rfl, rfl⟩
    exf := fun b z => nomatch (show b ∈ ([] : List Addr) from z)
    bs := e0.bs
    bsz := e0.bsz
    noex := fun b _ _ z => nomatch (show b ∈ ([] : List Addr) from z)
    exfs := fun b z => nomatch (show b ∈ ([] : List Addr) from z)
    funs := e0.funs
    frf := e0.frf }
  os := rfl
  bare := e0.bare
  base := Un.kept kp
  loc := by
    refine ⟨_, hns, fun i y v' e1 e2 e3 => ?_⟩
    have e1' : (X.N ++ [p])[i]? = some y := e1
    have e3' : Vis scope y := e3
    rcases Nat.lt_trichotomy i X.N.length with hi | hi | hi
    · rw [List.getElem?_append_left hi] at e1'
      rw [List.getElem?_append_left (by rw [I.len]; exact hi)] at e2
      rcases e3' with k | k | k
      · have ey : y = p := L.loc _ (PySem.mem_of_lookup k) rfl
        exact absurd (List.mem_of_getElem? (ey ▸ e1')) hp
      · exact absurd rfl (L.cel _ (PySem.mem_of_lookup k))
      · obtain ⟨m, hn, hl⟩ := I.loc
        have hv : Vis X.env.scope y := .inr (L.free _ (PySem.mem_of_lookup k) rfl)
        obtain ⟨u', r', q⟩ := hl i y v' e1' e2 hv
        obtain ⟨c2, h2⟩ := clo_look (X := X) k
        refine ⟨u', r', .inr ⟨.inr k, c2, h2, ?_⟩⟩
        have c1 := clo_mem L I.ok h2
        rcases q with ⟨k', _⟩ | ⟨_, c3, e', o, ho, hd⟩
        · have k2 : X.env.scope.names.lookup y = some .local := k'
          rcases L.free _ (PySem.mem_of_lookup k) rfl with k3 | k3
          · have k3' : X.env.scope.names.lookup y = some .cell := k3
            rw [k2] at k3'
            cases k3'
          · have k3' : X.env.scope.names.lookup y = some .free := k3
            rw [k2] at k3'
            cases k3'
        · rw [c1] at e'
          cases e'
          exact ⟨o, kp _ _ ho, hd⟩
    · subst hi
      rw [List.getElem?_append_right (Nat.le_refl _), Nat.sub_self] at e1'
      rw [List.getElem?_append_right (by rw [I.len]; exact Nat.le_refl _), I.len, Nat.sub_self] at e2
      have ey : p = y := Option.some.inj e1'
      have ev : v = v' := Option.some.inj (Option.some.inj e2)
      subst ey ev
      exact ⟨u, rv, .inl ⟨L.par, by simp⟩⟩
    · have := (List.getElem?_eq_some_iff.mp e1').1
      rw [List.length_append, List.length_singleton] at this
      omega
  cell := fun y c e => by
    obtain ⟨w, o, ho, hd⟩ := I.cell y c (clo_mem L I.ok e)
    exact ⟨w, o, kp _ _ ho, hd⟩
  free := e0.hok.fresh (Nat.le_refl _)
  freeC := fun y c e => I.freeC y c (clo_mem L I.ok e)
  pin := fun q hq => nomatch (show q ∈ ([] : List (Addr × Obj)) from hq)
  hok := e0.hok.kept kp
  len := by
    show (σ ++ [some v]).length = (X.N ++ [p]).length
    rw [List.length_append, List.length_append, I.len]
    rfl
/-- the lambda called -/
theorem lamp_run {A : Around} {outer : List Env} {params : Arguments} {body : Expr} {pm ctv u : Value} {v : V} {k : Nat} {Q : VK} {E : XK} (I : Inv X pins σ H s) (L : LamP X.env.scope scope p) (hp : p ∉ X.N)
    (hf : s.heap.get? f = some (kla_obj "<lambda>" (X.env.qual ++ "<lambda>") params body scope (cloFrom X.env.cells scope.names []) pm c' ctv)) (hc : H c' = some (CodeO c' (X.env.qual ++ "<lambda>"))) (e0 : Env0 X.prog X.w X.K X.mg X.base A outer s H) (hr : Room (k + 1) A)
    (hb : bindArgs (kla_fn "<lambda>" (X.env.qual ++ "<lambda>") params body scope (cloFrom X.env.cells scope.names []) pm (.ref c') ctv) ⟨[u], []⟩ = pure [(p, u)]) (rv : RelV v u)
    (hbody : Room k (A.deeper (lamEnv X scope s.heap.objs.size f c')) → Lh.wpE (lamPx X p A outer s H scope f c') body (σ ++ [some v]) H Q) :
    codeAny (model X.prog X.w) A (.call (.ref f) ⟨[u], []⟩) (CR CX0 outer X.prog X.w H s Q E) s := by
  obtain ⟨⟨oc, vs, t, hoc, hdc, hvc⟩, _, _⟩ := I.hok c' _ hc
  refine kla_callFunE hr.depth hf rfl L.co L.gen rfl ⟨c', oc, vs, t, rfl, hoc, hdc, hvc⟩ ?_
  rw [hb]
  refine wpAny_pure (wpAny_newFunctionEnv L.cel (fun y hy => by rw [List.mem_singleton.mp hy]; exact L.par) (fun h₁ hns hsb => ⟨I.nolimit.fresh _ hsb, ?_⟩) L.kind)
  have kp : ∀ b o, s.heap.get? b = some o → h₁.get? b = some o := fun b o e => hsb.extBut b o (Nat.ne_of_lt (Heap.lt_size e)) (Heap.get?_push_of_some _ e)
  have J := lamp_start (f := f) (c' := c') (tk := s.toks + [(p, u)].length) I L e0 hr.hd hp hns kp rv
  refine kla_codeExpr (wpAny_mono (hbody (hr.deeper _) [] _ J) (fun w z hq => ?_) fun e z hq => False.elim hq)
  obtain ⟨w', H', J', rw', q⟩ := hq
  exact ⟨w', H', J'.os, J'.bare, J'.base, J'.hok, rw', q⟩
end
end LhL
/-! min(xs, key=f), the keys pairs of ints. -/
namespace LhL
open PySem L2 LamX PySem.W PyProof.Rows
def ltK (p q : Int × Int) : Prop := p.1 < q.1 ∨ (p.1 = q.1 ∧ p.2 < q.2)
instance (p q : Int × Int) : Decidable (ltK p q) := inferInstanceAs (Decidable (_ ∨ _))
section
variable {X : Cx} {pins : List (Addr × Obj)} {σ : L2.St} {H : Hp} {s : Shared}
theorem pair_items {t : Addr} {x y : Int} (I : Inv X pins σ H s) (h : SqT X.K H t [.int x, .int y]) : ∃ t1 t2, s.heap.IsTuple t #[.int x t1, .int y t2] := by
  obtain ⟨its, r, p, _⟩ := I.tuple h
  obtain ⟨u1, u2, rfl, ⟨t1, e1⟩, ⟨t2, e2⟩⟩ := vals2 r
  subst e1 e2
  exact ⟨t1, t2, p⟩
theorem pair_lt {A : Around} {t t' : Addr} {p q : Int × Int} (I : Inv X pins σ H s) (h : SqT X.K H t [.int p.1, .int p.2]) (h' : SqT X.K H t' [.int q.1, .int q.2]) (hu : A.units < cLine) : Ob.RcOp .Lt A s (.ref t) (.ref t') (decide (ltK p q)) := by
  obtain ⟨t1, t2, k1⟩ := pair_items I h
  obtain ⟨u1, u2, k2⟩ := pair_items I h'
  have two : ∀ {P : Nat → Prop}, P 0 → P 1 → ∀ j, j < 2 → P j := fun {P} h0 h1 j hj => by
    rcases j with _ | _ | j
    · exact h0
    · exact h1
    · omega
  have eqd : ∀ x y : Int, (x == y) = decide (x = y) := fun x y => by
    by_cases e : x = y
    · rw [decide_eq_true e]
      exact beq_iff_eq.mpr e
    · rw [decide_eq_false e]
      exact beq_eq_false_iff_ne.mpr e
  have r := Ob.RcOp.tuples_lt (A := A) (s := s) (e := fun j => if j = 0 then decide (p.1 = q.1) else decide (p.2 = q.2)) (r := fun j => if j = 0 then decide (p.1 < q.1) else decide (p.2 < q.2)) k1 k2 hu (fun j h1 _ => by
    have hj : j < 2 := h1
    rcases j with _ | _ | j
    · show SeqAt.EqAt A.in1 s (.int p.1 t1) (.int q.1 u1) (decide (p.1 = q.1))
      rw [← eqd]
      exact SeqAt.EqAt.int_int _ _ _ _
    · show SeqAt.EqAt A.in1 s (.int p.2 t2) (.int q.2 u2) (decide (p.2 = q.2))
      rw [← eqd]
      exact SeqAt.EqAt.int_int _ _ _ _
    · omega) (fun j h1 _ _ => by
    have hj : j < 2 := h1
    rcases j with _ | _ | j
    · exact Ob.RcOp.lt_int _ _ _ _
    · exact Ob.RcOp.lt_int _ _ _ _
    · omega)
  have e : Ob.lexAt (fun j => if j = 0 then decide (p.1 = q.1) else decide (p.2 = q.2)) (fun j => if j = 0 then decide (p.1 < q.1) else decide (p.2 < q.2)) (decide ((#[Value.int p.1 t1, Value.int p.2 t2] : Array Value).size < (#[Value.int q.1 u1, Value.int q.2 u2] : Array Value).size)) 0 (min (#[Value.int p.1 t1, Value.int p.2 t2] : Array Value).size (#[Value.int q.1 u1, Value.int q.2 u2] : Array Value).size) = decide (ltK p q) := by
    show (if (decide (p.1 = q.1)) = true then (if (decide (p.2 = q.2)) = true then false else decide (p.2 < q.2)) else decide (p.1 < q.1)) = decide (p.1 < q.1 ∨ (p.1 = q.1 ∧ p.2 < q.2))
    by_cases h1 : p.1 = q.1
    · rw [if_pos (decide_eq_true h1)]
      by_cases h2 : p.2 = q.2
      · rw [if_pos (decide_eq_true h2)]
        exact (decide_eq_false (by omega)).symm
      · rw [if_neg (by simpa using h2)]
        exact decide_eq_decide.mpr (by omega)
    · rw [if_neg (by simpa using h1)]
      exact decide_eq_decide.mpr (by omega)
  rw [e] at r
  exact r
end
/-- one key taken, whatever else is pinned -/
def KeyRun (X : Cx) (pins : List (Addr × Obj)) (σ : L2.St) (f : Addr) (ns : List Int) (kf : Int → Int × Int) (Gd : Hp → Prop) : Prop :=
  ∀ (pl : List (Addr × Obj)) (n : Int), n ∈ ns → ∀ (H : Hp) (s : Shared) (tk : Tok), Inv X (pins ++ pl) σ H s → Gd H →
    wpAny (model X.prog X.w) X.A.in1 (call (.ref f) [.int n tk]) (fun u z => ∃ H', Inv X (pins ++ pl) σ H' z ∧ Gd H' ∧ (∀ b o, H b = some o → H' b = some o) ∧ ∃ t, u = .ref t ∧ SqT X.K H' t [.int (kf n).1, .int (kf n).2]) (fun _ _ => False) s
theorem fp_to {X : Cx} {pins : List (Addr × Obj)} {H H' : Hp} {b : Addr} (h : FpOk X pins H b) (n : H' b = none) : FpOk X pins H' b := ⟨n, h.2⟩
section
variable {X : Cx} {pins : List (Addr × Obj)} {σ : L2.St} {l f a b : Addr} {ns : List Int} {kf : Int → Int × Int} {Gd : Hp → Prop} {R : Result → Shared → Prop}
theorem sqL_ext {K : PySem.W.Frag} {H H' : Hp} {t : Addr} {xs : List V} (e : ∀ b o, H b = some o → H' b = some o) (h : SqL K H t xs) : SqL K H' t xs := Evl.ex_l e h
theorem sqT_ext {K : PySem.W.Frag} {H H' : Hp} {t : Addr} {xs : List V} (e : ∀ b o, H b = some o → H' b = some o) (h : SqT K H t xs) : SqT K H' t xs := Evl.ex_t e h
theorem is_obj {h : Heap} {b : Addr} {vs : Array Value} {c : Nat} (e : h.get? b = some (seqObj "list" vs c)) : ∃ o, h.get? b = some o ∧ ∀ v, o.data ≠ .cell v := ⟨_, e, fun v z => by cases z⟩
theorem it_obj {h : Heap} {i x : Addr} {n : Nat} (e : h.IsListIter i x n) : ∃ o, h.get? i = some o ∧ ∀ v, o.data ≠ .cell v := by
  obtain ⟨o, h1, _, h2⟩ := e
  exact ⟨o, h1, fun v z => by
    rw [h2] at z
    cases z⟩
theorem minK_loop (hh : X.A.handled = none) (hu : X.A.in1.units < cLine) (key : KeyRun X pins σ f ns kf Gd) (hab : a ≠ b) (hla : l ≠ a)
    (hR : ∀ (m : Int) (H : Hp) (z : Shared) (tk : Tok), m ∈ ns → (∀ n ∈ ns, ¬ ltK (kf n) (kf m)) → Inv X pins σ H z → Gd H → R (.ok (.ret (.int m tk))) z) :
    ∀ (r j : Nat) (H : Hp) (s : Shared) (m : Int) (tm : Tok) (kt : Addr) (c : Nat), ns.length - j = r → j ≤ ns.length → Inv X pins σ H s → Gd H → SqL X.K H l (ns.map V.int) → FpOk X pins H a → FpOk X pins H b → s.heap.IsListIter a l j →
      s.heap.get? b = some (seqObj "list" #[.int m tm, .ref kt] c) → SqT X.K H kt [.int (kf m).1, .int (kf m).2] → m ∈ ns → (∀ n ∈ ns.take j, ¬ ltK (kf n) (kf m)) →
      codeAny (model X.prog X.w) X.A (.builtin "min.loop" ⟨[.ref a, .ref f, .ref b], []⟩) R s := by
  intro r
  induction r with
  | zero =>
    intro j H s m tm kt c hr hj I gd hl fa fb hit hb hkt hm hbest
    have ej : j = ns.length := by omega
    obtain ⟨its, rv, pl, _⟩ := I.list hl
    have hsz : its.toArray.size = ns.length := by rw [List.size_toArray, ← rv.length, List.length_map]
    refine codeAny_builtin PySem.F.entry_min_loop ?_
    rw [Around.under_plainId PySem.F.plain_min_loop _]
    show wpAny _ X.A.in1 (seqItems? (.ref b) >>= _) _ _ s
    refine wpAny_bind (wpAny_seqItems hb rfl (show wpAny _ X.A.in1 (tryCatch (pyNext (.ref a)) _ >>= _) _ _ _ from wpAny_bind (wpAny_tryCatch ?_)))
    refine (Walks.list (A := X.A.in1) (by simpa using hh) a l hla its.toArray).done _ _ _ ⟨by rw [hsz, ← ej]; exact hit, pl.isList⟩ fun h' tk hk => ?_
    have I1 : Inv X pins σ H { s with heap := h', toks := tk } := I.turnedL (ch := [a]) hk fun x hx => by
      rw [List.mem_singleton.mp hx]
      exact fa
    have hb' := hk b _ (by simpa using fun e => hab e.symm) hb
    show wpAny _ X.A.in1 (updateSeq b (fun _ => #[]) >>= _) _ _ _
    refine wpAny_bind (wpAny_updateSeq hb' rfl (wpAny_bind (wpAny_letGo (wpAny_pure ?_))))
    have I2 := I1.turnedL (ch := [b]) (h' := h'.update b (Obj.mapSeq fun _ => #[])) (t' := tk) (fun x o hx e => (Heap.get?_update_other _ _ (fun z => hx (by rw [z]; simp))).trans e) fun x hx => by
      rw [List.mem_singleton.mp hx]
      exact fb
    exact hR m H _ tm hm (fun n hn => hbest n (by rw [ej, List.take_length]; exact hn)) I2 gd
  | succ r ih =>
    intro j H s m tm kt c hr hj I gd hl fa fb hit hb hkt hm hbest
    have hlt : j < ns.length := by omega
    obtain ⟨its, rv, pl, _⟩ := I.list hl
    have hi := Lh.vals_ints rv
    have hsz : its.toArray.size = ns.length := by rw [List.size_toArray, ← rv.length, List.length_map]
    refine codeAny_builtin PySem.F.entry_min_loop ?_
    rw [Around.under_plainId PySem.F.plain_min_loop _]
    show wpAny _ X.A.in1 (seqItems? (.ref b) >>= _) _ _ s
    refine wpAny_bind (wpAny_seqItems hb rfl (show wpAny _ X.A.in1 (tryCatch (pyNext (.ref a)) _ >>= _) _ _ _ from wpAny_bind (wpAny_tryCatch ?_)))
    refine (Walks.list (A := X.A.in1) (by simpa using hh) a l hla its.toArray).item j _ _ _ (by rw [hsz]; exact hlt) ⟨hit, pl.isList⟩ fun v h' tk hv hst hk => ?_
    obtain ⟨tn, en⟩ := IntsAre.int_at hi j v (by simpa using hv)
    have en2 : v = .int ns[j] tn := by rw [en, List.getD_eq_getElem?_getD, List.getElem?_eq_getElem hlt]; rfl
    subst en2
    have hn : ns[j] ∈ ns := List.getElem_mem hlt
    have I1 : Inv X pins σ H { s with heap := h', toks := tk } := I.turnedL (ch := [a]) hk fun x hx => by
      rw [List.mem_singleton.mp hx]
      exact fa
    have hb' : h'.get? b = _ := hk b _ (by simpa using fun e => hab e.symm) hb
    have I2 := I1.pinned (fp := [a, b]) (fun x hx => by
      rcases List.mem_cons.mp hx with e | e
      · rw [e]
        exact fa
      · rw [List.mem_singleton.mp e]
        exact fb) fun x hx => by
      rcases List.mem_cons.mp hx with e | e
      · rw [e]
        exact it_obj hst.1
      · rw [List.mem_singleton.mp e]
        exact is_obj hb'
    show wpAny _ X.A.in1 (tryCatch (holding [.int ns[j] tn] (call (.ref f) [.int ns[j] tn])) _ >>= _) _ _ _
    refine wpAny_bind (wpAny_tryCatch (wpAny_holding (wpAny_mono (key _ ns[j] hn H _ tn I2 gd) (fun u z hz => ?_) fun _ _ hF => hF.elim)))
    obtain ⟨H', I3, gd', ext, t, rfl, hT⟩ := hz
    have pin : ∀ x ∈ [a, b], ∀ o, h'.get? x = some o → z.heap.get? x = some o ∧ H' x = none := fun x hx o e =>
      let q := I3.pin (x, o) (List.mem_append_right _ (List.mem_append_right _ (mem_pinsAt hx e)))
      ⟨q.1, q.2.1⟩
    have I4 : Inv X pins σ H' z := I3.unpinned
    have hbz := pin b (by simp) _ hb'
    obtain ⟨oa, ha1, ha2, ha3⟩ := hst.1
    have haz := pin a (by simp) _ ha1
    have hkt' := sqT_ext ext hkt
    show wpAny _ X.A.in1 (tryCatch (holding [.int ns[j] tn, .ref t] (richCompare .Lt (.ref t) (.ref kt) >>= _)) _ >>= _) _ _ _
    refine wpAny_bind (wpAny_tryCatch (wpAny_holding (wpAny_bind (pair_lt I4 hT hkt' hu _ _ _ _ ?_))))
    refine wpAny_bind (wpAny_holding (wpAny_truthy_bool (wpAny_bind (wpAny_letGo (wpAny_pure ?_)))))
    by_cases better : ltK (kf ns[j]) (kf m)
    · simp only [better, decide_true, if_true]
      refine wpAny_bind (wpAny_updateSeq hbz.1 rfl (wpAny_bind (wpAny_letGo ?_)))
      obtain ⟨c2, hc2⟩ : ∃ c2, (z.heap.update b (Obj.mapSeq fun _ => #[.int ns[j] tn, .ref t])).get? b = some (seqObj "list" #[.int ns[j] tn, .ref t] c2) := ⟨_, get?_update_seq hbz.1 fun _ => #[.int ns[j] tn, .ref t]⟩
      have other : ∀ x o, x ≠ b → z.heap.get? x = some o → (z.heap.update b (Obj.mapSeq fun _ => #[.int ns[j] tn, .ref t])).get? x = some o := fun x o hx e => (Heap.get?_update_other _ _ (Ne.symm hx)).trans e
      have I5 := I4.turnedL (ch := [b]) (t' := z.toks) (fun x o hx e => other x o (fun q => hx (by rw [q]; simp)) e) fun x hx => by
        rw [List.mem_singleton.mp hx]
        exact fp_to fb hbz.2
      refine wpAny_pure ⟨plainId_quiet PySem.F.plain_min_loop _, ih (j + 1) H' _ ns[j] tn t c2 (by omega) hlt I5 gd' (sqL_ext ext hl) (fp_to fa haz.2) (fp_to fb hbz.2) ⟨oa, other a _ hab haz.1, ha2, ha3⟩ hc2 hT hn fun n hn' => ?_⟩
      rw [List.take_add_one, List.getElem?_eq_getElem hlt] at hn'
      rcases List.mem_append.mp hn' with q | q
      · have h1 := hbest n q
        unfold ltK at h1 better ⊢
        omega
      · have e : n = ns[j] := by simpa using q
        rw [e]
        unfold ltK
        omega
    · simp only [better, decide_false, Bool.false_eq_true, if_false]
      refine wpAny_bind (wpAny_letGo ?_)
      refine wpAny_pure ⟨plainId_quiet PySem.F.plain_min_loop _, ih (j + 1) H' z m tm kt c (by omega) hlt I4 gd' (sqL_ext ext hl) (fp_to fa haz.2) (fp_to fb hbz.2) ⟨oa, haz.1, ha2, ha3⟩ hbz.1 hkt' hm fun n hn' => ?_⟩
      rw [List.take_add_one, List.getElem?_eq_getElem hlt] at hn'
      rcases List.mem_append.mp hn' with q | q
      · exact hbest n q
      · have e : n = ns[j] := by simpa using q
        rw [e]
        exact better
theorem minK_call {Q E : Value → Shared → Prop} {H : Hp} {s : Shared} (hh : X.A.handled = none) (hu : X.A.in1.units < cLine) (key : KeyRun X pins σ f ns kf Gd) (hne : 0 < ns.length) (I : Inv X pins σ H s) (gd : Gd H) (hl : SqL X.K H l (ns.map V.int))
    (hQ : ∀ (m : Int) (H : Hp) (z : Shared) (tk : Tok), m ∈ ns → (∀ n ∈ ns, ¬ ltK (kf n) (kf m)) → Inv X pins σ H z → Gd H → Q (.int m tk) z) :
    wpAny (model X.prog X.w) X.A (call (.builtin "min") [.ref l] [(Str.ofString "key", .ref f)]) Q E s := by
  obtain ⟨its, rv, pl, _⟩ := I.list hl
  have hi := Lh.vals_ints rv
  have hsz : its.toArray.size = ns.length := by rw [List.size_toArray, ← rv.length, List.length_map]
  have hll : l < s.heap.objs.size := by
    obtain ⟨o, e, _⟩ := pl.isList
    exact Heap.lt_size e
  refine kmk_tree PySem.F.kind_min PySem.F.plain_min PySem.F.entry_min (kmk_min_key _ _) ?_
  show wpAny _ X.A.in1 (Builtin.Builtins.bindParams "min" ["key", "default"] 0 ⟨[], [(Str.ofString "key", .ref f)]⟩ >>= _) _ _ s
  refine wpAny_bind (wpAny_of_eq (show Builtin.Builtins.bindParams "min" ["key", "default"] 0 ⟨[], [(Str.ofString "key", .ref f)]⟩ = pure [some (.ref f), none] from rfl) (wpAny_bind (wpAny_pure (wpAny_bind (wpAny_pyIter_list pl.isList (wpAny_bind (wpAny_newList ?_ (Nat.zero_le _))))))))
  have hname : (toString "min" ++ toString ".loop" : String) = "min.loop" := by decide
  rw [hname]
  have eb : (s.heap.push { cls := .type "list_iterator", data := .fields #[.ref l, .int 0 0] }).objs.size = s.heap.objs.size + 1 := size_push' ..
  rw [eb]
  have grown : ∀ b o, s.heap.get? b = some o → ((s.heap.push { cls := .type "list_iterator", data := .fields #[.ref l, .int 0 0] }).push (seqObj "list" #[] 0)).get? b = some o := fun b o e => Heap.get?_push_of_some _ (Heap.get?_push_of_some _ e)
  have I1 := I.kept (t' := s.toks) grown
  have fa : FpOk X pins H s.heap.objs.size := I.fpOk (Nat.le_refl _) (I.hok.fresh (Nat.le_refl _))
  have fb : FpOk X pins H (s.heap.objs.size + 1) := I.fpOk (Nat.le_succ _) (I.hok.fresh (Nat.le_succ _))
  have ga : ((s.heap.push { cls := .type "list_iterator", data := .fields #[.ref l, .int 0 0] }).push (seqObj "list" #[] 0)).IsListIter s.heap.objs.size l 0 := ⟨_, Heap.get?_push_of_some _ (Heap.get?_push_size _ rfl), rfl, rfl⟩
  have gb : ((s.heap.push { cls := .type "list_iterator", data := .fields #[.ref l, .int 0 0] }).push (seqObj "list" #[] 0)).get? (s.heap.objs.size + 1) = some (seqObj "list" #[] 0) := by
    rw [← eb]
    exact Heap.get?_push_size _ rfl
  obtain ⟨its', rv', pl', _⟩ := I1.list hl
  generalize hs1 : ({ s with heap := (s.heap.push { cls := .type "list_iterator", data := .fields #[.ref l, .int 0 0] }).push (seqObj "list" #[] 0), toks := s.toks } : Shared) = s1 at I1 pl'
  have h1 : s1.heap = (s.heap.push { cls := .type "list_iterator", data := .fields #[.ref l, .int 0 0] }).push (seqObj "list" #[] 0) := by rw [← hs1]
  have nab : s.heap.objs.size ≠ s.heap.objs.size + 1 := Nat.ne_of_lt (Nat.lt_succ_self _)
  rw [← h1] at ga gb
  generalize s.heap.objs.size + 1 = b at nab fb gb ⊢
  generalize hae : s.heap.objs.size = a at nab fa ga ⊢
  have hla : l ≠ a := by
    rw [← hae]
    exact Nat.ne_of_lt hll
  have hi' := Lh.vals_ints rv'
  have hsz' : its'.toArray.size = ns.length := by rw [List.size_toArray, ← rv'.length, List.length_map]
  refine wpAny_pure ⟨plainId_quiet PySem.F.plain_min_loop _, ?_⟩
  show codeAny _ X.A (.builtin "min.loop" ⟨[.ref a, .ref f, .ref b], []⟩) _ s1
  refine codeAny_builtin PySem.F.entry_min_loop ?_
  rw [Around.under_plainId PySem.F.plain_min_loop _]
  show wpAny _ X.A.in1 (seqItems? (.ref b) >>= _) _ _ s1
  refine wpAny_bind (wpAny_seqItems gb rfl (show wpAny _ X.A.in1 (tryCatch (pyNext (.ref a)) _ >>= _) _ _ _ from wpAny_bind (wpAny_tryCatch ?_)))
  refine (Walks.list (A := X.A.in1) (by simpa using hh) a l hla its'.toArray).item 0 _ _ _ (by rw [hsz']; exact hne) ⟨ga, pl'.isList⟩ fun v h' tk hv hst hk => ?_
  obtain ⟨tn, en⟩ := IntsAre.int_at hi' 0 v (by simpa using hv)
  have en2 : v = .int ns[0] tn := by rw [en, List.getD_eq_getElem?_getD, List.getElem?_eq_getElem hne]; rfl
  subst en2
  have hn : ns[0] ∈ ns := List.getElem_mem hne
  have I2 : Inv X pins σ H { s1 with heap := h', toks := tk } := I1.turnedL (ch := [a]) hk fun x hx => by
    rw [List.mem_singleton.mp hx]
    exact fa
  have hb' : h'.get? b = _ := hk b _ (by simpa using fun e => nab e.symm) gb
  have I3 := I2.pinned (fp := [a, b]) (fun x hx => by
    rcases List.mem_cons.mp hx with e | e
    · rw [e]
      exact fa
    · rw [List.mem_singleton.mp e]
      exact fb) fun x hx => by
    rcases List.mem_cons.mp hx with e | e
    · rw [e]
      exact it_obj hst.1
    · rw [List.mem_singleton.mp e]
      exact is_obj hb'
  show wpAny _ X.A.in1 (tryCatch (holding [.int ns[0] tn] (call (.ref f) [.int ns[0] tn])) _ >>= _) _ _ _
  refine wpAny_bind (wpAny_tryCatch (wpAny_holding (wpAny_mono (key _ ns[0] hn H _ tn I3 gd) (fun u z hz => ?_) fun _ _ hF => hF.elim)))
  obtain ⟨H', I4, gd', ext, t, rfl, hT⟩ := hz
  have pin : ∀ x ∈ [a, b], ∀ o, h'.get? x = some o → z.heap.get? x = some o ∧ H' x = none := fun x hx o e =>
    let q := I4.pin (x, o) (List.mem_append_right _ (List.mem_append_right _ (mem_pinsAt hx e)))
    ⟨q.1, q.2.1⟩
  have I5 : Inv X pins σ H' z := I4.unpinned
  have hbz := pin b (by simp) _ hb'
  obtain ⟨oa, ha1, ha2, ha3⟩ := hst.1
  have haz := pin a (by simp) _ ha1
  show wpAny _ X.A.in1 (updateSeq b (fun _ => #[.int ns[0] tn, .ref t]) >>= _) _ _ _
  refine wpAny_bind (wpAny_updateSeq hbz.1 rfl ?_)
  obtain ⟨c2, hc2⟩ : ∃ c2, (z.heap.update b (Obj.mapSeq fun _ => #[.int ns[0] tn, .ref t])).get? b = some (seqObj "list" #[.int ns[0] tn, .ref t] c2) := ⟨_, get?_update_seq hbz.1 fun _ => #[.int ns[0] tn, .ref t]⟩
  have other : ∀ x o, x ≠ b → z.heap.get? x = some o → (z.heap.update b (Obj.mapSeq fun _ => #[.int ns[0] tn, .ref t])).get? x = some o := fun x o hx e => (Heap.get?_update_other _ _ (Ne.symm hx)).trans e
  have I6 := I5.turnedL (ch := [b]) (t' := z.toks) (fun x o hx e => other x o (fun q => hx (by rw [q]; simp)) e) fun x hx => by
    rw [List.mem_singleton.mp hx]
    exact fp_to fb hbz.2
  rw [hname]
  refine wpAny_pure ⟨plainId_quiet PySem.F.plain_min_loop _, minK_loop hh hu key nab hla (fun m H z tk h1 h2 J g => hQ m H z tk h1 h2 J g) _ 1 H' _ ns[0] tn t c2 rfl hne I6 gd' (sqL_ext ext hl) (fp_to fa haz.2) (fp_to fb hbz.2) ⟨oa, other a _ nab haz.1, ha2, ha3⟩ hc2 hT hn fun n hn' => ?_⟩
  have e : n = ns[0] := by
    rw [List.take_one] at hn'
    cases ns with
    | nil => exact absurd hne (by simp)
    | cons x xs => simpa using hn'
  rw [e]
  unfold ltK
  omega
end
end LhL
/-! min(xs, key=lambda x: (.., ..)): the lambda's code object stands in its maker's table. -/
namespace LhL
open PySem L2 LamX PySem.W PyProof.Rows Lh
open Evl (Ex ex_l ex_t ex_rd fresh_back)
/-- each code object that these tell is known and bears the name q -/
def Known (H : Hp) (ps : Array Value) (q : Str) : Prop := TriplesOk ps.toList ∧ ∀ (pos : Pos) (cv : Value), codeAmong pos ps.toList = some cv → ∃ c, cv = .ref c ∧ H c = some (CodeO c q)
/-- a table of code objects of one name -/
def tabR (P : Addr) (q : Str) : Res where
  ad := [P]
  p := fun H0 H => H0 P = none ∧ ∃ ps : Array Value, H P = some (.tbl ps) ∧ Known H0 ps q
  st := fun {H0 H H0' H'} e n k ⟨_, ps, h2, h3, h4⟩ => ⟨n P (by simp), ps, by rw [k P (by simp)]; exact h2, h3, fun pos cv h => by
    obtain ⟨c, e1, e2⟩ := h4 pos cv h
    exact ⟨c, e1, e _ _ e2⟩⟩
  tr := fun {H0 H} ⟨h0, ps, h2, _⟩ a ha => by
    have e : a = P := by simpa using ha
    subst e
    exact ⟨⟨_, h2⟩, h0⟩
section
variable {X : Cx} {pins : List (Addr × Obj)} {σ : L2.St} {H : Hp} {s : Shared}
/-- the heap behind a lambda's making: as it was, or one code object more, and the table tells of it -/
def Made (H H1 : Hp) (P : Addr) (q : Str) (ps : Array Value) : Prop := H1 = H ∨ ∃ (c : Addr) (more : Array Value), H c = none ∧ H1 = upd (upd H P (.tbl (ps ++ more))) c (CodeO c q) ∧ TriplesOk (ps ++ more).toList ∧ ∀ (pos : Pos) (cv : Value), codeAmong pos (ps ++ more).toList = some cv → codeAmong pos ps.toList = some cv ∨ cv = .ref c
theorem lam_new {P c : Addr} {ps : Array Value} {params : Arguments} {body : Expr} {scope : Scope} {lpos : Pos} {Q E : Value → Shared → Prop} (I : Inv X pins σ H s) (TB : TabB X.base X.mg c P) (hcode : X.env.code = .ref c) (hP : H P = some (.tbl ps)) (kn : Known H ps (X.env.qual ++ "<lambda>"))
    (hdef : defaultsOf params X.env = ([], [])) (hfree : ∀ y ∈ scope.names, y.2 = .free → ∃ c, X.env.cells.lookup y.1 = some c)
    (h : ∀ (f c' : Addr) (pm ctv : Value) (H1 : Hp) (z : Shared), Inv X pins σ H1 z → Made H H1 P (X.env.qual ++ "<lambda>") ps → z.heap.get? f = some (kla_obj "<lambda>" (X.env.qual ++ "<lambda>") params body scope (cloFrom X.env.cells scope.names []) pm c' ctv) →
      FpOk X pins H1 f → H1 c' = some (CodeO c' (X.env.qual ++ "<lambda>")) → Q (.ref f) z) :
    wpAny (model X.prog X.w) X.A (eval (.Lambda params body scope lpos) X.env) Q E s := by
  obtain ⟨ht, ha⟩ := kn
  have obP : s.heap.get? P = some { cls := .none, data := .fields ps } := I.hok P _ hP
  have glob := I.mod.glob.keeps I.bk
  have blt := TB.bm.keeps I.bk
  have code := TB.code.keeps I.bk
  refine kla_eval hdef ?_
  cases there : codeAmong lpos ps.toList with
  | some cv =>
    obtain ⟨c', rfl, hc'⟩ := ha lpos cv there
    refine kla_makeFunctionHit (mg := X.mg) (closure_ok hfree) I.ok.glob glob hcode code obP ht there blt fun ctv h' tk keep size => ?_
    have keep' : ∀ b o, s.heap.get? b = some o → (h'.push (kla_obj "<lambda>" (X.env.qual ++ "<lambda>") params body scope (cloFrom X.env.cells scope.names []) ((X.mg "__name__").getD .none) c' ctv)).get? b = some o := fun b o e => Heap.get?_push_of_some _ (keep b o e)
    exact h h'.objs.size c' _ ctv H _ (I.kept (t' := tk) keep') (.inl rfl) (Heap.get?_push_size _ rfl) (I.fpOk size (I.hok.fresh size)) hc'
  | none =>
    refine kla_makeFunction (mg := X.mg) (closure_ok hfree) I.ok.glob glob hcode code obP ht there TB.gP blt fun c' ctv h' tk keep low high record table => ?_
    obtain ⟨c2, oc, vs, t, e2, hoc, hd, hv⟩ := record
    cases e2
    have size : s.heap.objs.size ≤ h'.objs.size := Nat.le_trans low (Nat.le_of_lt high)
    have noC : H c' = none := I.hok.fresh low
    have J := inv_table (t' := tk) (more := #[rawInt lpos.line, rawInt lpos.col, .ref c']) (h' := h'.push (kla_obj "<lambda>" (X.env.qual ++ "<lambda>") params body scope (cloFrom X.env.cells scope.names []) ((X.mg "__name__").getD .none) c' ctv)) I hP
      (fun b o nb e => Heap.get?_push_of_some _ (keep b o nb e)) (Heap.get?_push_of_some _ table) low ⟨oc, vs, t, Heap.get?_push_of_some _ hoc, hd, hv⟩
    have el : (ps ++ #[rawInt lpos.line, rawInt lpos.col, .ref c']).toList = ps.toList ++ [rawInt lpos.line, rawInt lpos.col, .ref c'] := by simp
    have noF : upd (upd H P (.tbl (ps ++ #[rawInt lpos.line, rawInt lpos.col, .ref c']))) c' (CodeO c' (X.env.qual ++ "<lambda>")) h'.objs.size = none := by
      rw [upd_ne (Nat.ne_of_gt high), upd_ne (Nat.ne_of_gt (Nat.lt_of_lt_of_le (Heap.lt_size obP) size))]
      exact I.hok.fresh size
    refine h h'.objs.size c' _ ctv _ _ J (.inr ⟨c', _, noC, rfl, ?_, fun pos cv e => ?_⟩) (Heap.get?_push_size _ rfl) (I.fpOk size noF) upd_same
    · rw [el]
      exact PySem.TriplesOk_snoc _ _ _ _ ht
    · rw [el] at e
      exact among_app _ ht e
end
theorem Sl.snoc {Γ : Ct} {σ : L2.St} {H : Hp} {P : Pd} {v : V} (h : Sl Γ σ H) (hv : P.p v H) : Sl (Γ ++ [some P]) (σ ++ [some v]) H := by
  refine ⟨by rw [List.length_append, List.length_append, h.1]; rfl, fun i Q hq => ?_⟩
  rcases Nat.lt_or_ge i Γ.length with hi | hi
  · rw [List.getElem?_append_left hi] at hq
    obtain ⟨w, h1, h2⟩ := h.2 i Q hq
    exact ⟨w, by rw [List.getElem?_append_left (by rw [h.1]; exact hi)]; exact h1, h2⟩
  · have e : i = Γ.length := by
      have := (List.getElem?_eq_some_iff.mp hq).1
      rw [List.length_append, List.length_singleton] at this
      omega
    subst e
    rw [List.getElem?_append_right (Nat.le_refl _), Nat.sub_self] at hq
    have eq : P = Q := Option.some.inj (Option.some.inj hq)
    subst eq
    exact ⟨v, by rw [List.getElem?_append_right (by rw [h.1]; exact Nat.le_refl _), h.1, Nat.sub_self]; rfl, hv⟩
theorem made_step {M : Addr → Prop} {P : Addr} {q : Str} {ps : Array Value} {Rs : List Res} {K0 G1 G2 : Hp} (hM : M P) (e : Ex K0 G1) (k : Rok (tabR P q :: Rs) K0 G1) (hP : G1 P = some (.tbl ps)) (kn : Known K0 ps q) (m : Made G1 G2 P q ps) : ∃ K1, Step M K0 G1 K1 G2 ∧ Rok (tabR P q :: Rs) K1 G2 := by
  rcases m with rfl | ⟨c, more, nc, rfl, tr, am⟩
  · exact ⟨K0, Step.rfl e, k⟩
  have kc : K0 c = none := fresh_back e nc
  have nPc : P ≠ c := ne_of_none hP nc
  have kP : K0 P = none := (k.2 _ List.mem_cons_self).1
  have ex : Ex K0 (upd K0 c (CodeO c q)) := Ex.new kc
  have away : ∀ a, a ≠ P → a ≠ c → upd (upd G1 P (.tbl (ps ++ more))) c (CodeO c q) a = G1 a := fun a h1 h2 => by rw [upd_ne h2, upd_ne h1]
  refine ⟨upd K0 c (CodeO c q), ⟨fun a o hm h => ?_, fun a o h => ?_, ex, fun a o h => ?_, fun a o h => ?_⟩, k.1, fun r hr => ?_⟩
  · rw [away a (fun z => hm (z ▸ hM)) (ne_of_none h nc)]
    exact h
  · by_cases ha : a = P
    · subst ha
      exact ⟨_, by rw [upd_ne nPc, upd_same]⟩
    · exact ⟨o, by rw [away a ha (ne_of_none h nc)]; exact h⟩
  · by_cases ha : a = c
    · subst ha
      rw [upd_same] at h ⊢
      exact h
    · rw [upd_ne ha] at h
      rw [away a (ne_of_none h kP) ha]
      exact e a o h
  · by_cases ha : a = c
    · subst ha
      exact .inr nc
    · rw [upd_ne ha] at h
      exact .inl h
  · rcases List.mem_cons.mp hr with rfl | hr'
    · refine ⟨by rw [upd_ne nPc]; exact kP, ps ++ more, by rw [upd_ne nPc, upd_same], tr, fun pos cv h => ?_⟩
      rcases am pos cv h with h | h
      · obtain ⟨c1, e1, e2⟩ := kn.2 pos cv h
        exact ⟨c1, e1, ex _ _ e2⟩
      · exact ⟨c, h, upd_same⟩
    · have nd := k.1
      rw [List.flatMap_cons, List.nodup_append] at nd
      refine r.st ex (fun a ha => ?_) (fun a ha => ?_) (k.2 r hr)
      · obtain ⟨⟨o, h1⟩, h2⟩ := r.tr (k.2 r hr) a ha
        rw [upd_ne (ne_of_none h1 nc)]
        exact h2
      · obtain ⟨⟨o, h1⟩, h2⟩ := r.tr (k.2 r hr) a ha
        refine away a (fun z => ?_) (ne_of_none h1 nc)
        exact nd.2.2 P (by simp [tabR]) a (List.mem_flatMap.mpr ⟨r, hr', ha⟩) z.symm
section
variable {M : Addr → Prop} {Γ : Ct} {Rs : List Res} {X : Cx}
/-- min(xs, key=lambda x: (.., ..)) -/
theorem xe_minLam {q0 : Str} {kw x : Str} {xs body : Expr} {params : Arguments} {scope : Scope} {np lp kp pos : Pos} {c P : Addr} {ns : List Int} {kf : Int → Int × Int} {k : Nat} (hm : X.mg "min" = none) (TB : TabB X.base X.mg c P) (hcode : X.env.code = .ref c) (hq0 : X.env.qual ++ "<lambda>" = q0) (hM : M P) (L : LamP X.env.scope scope x) (hx : x ∉ X.N)
    (hdef : defaultsOf params X.env = ([], [])) (hr : Room (k + 3) X.A) (hxs : XE M Γ (tabR P q0 :: Rs) X xs (PD X.K (.list (li ns)))) (hne : 0 < ns.length)
    (hb : ∀ (f c' : Addr) (pm ctv : Value) (u : Value), bindArgs (kla_fn "<lambda>" (X.env.qual ++ "<lambda>") params body scope (cloFrom X.env.cells scope.names []) pm (.ref c') ctv) ⟨[u], []⟩ = pure [(x, u)])
    (hbody : ∀ n ∈ ns, ∀ (A : Around) (outer : List Env) (s : Shared) (H : Hp) (f c' : Addr), Room k (lamPx X x A outer s H scope f c').A → XE M0 (Γ ++ [some (PD X.K (.int n))]) [] (lamPx X x A outer s H scope f c') body (PD X.K (.tuple [.int (kf n).1, .int (kf n).2])))
    (hkw : kw = "key" := by rfl) (hg : Gl X "min" := by rfl) (hs : starEach [xs] X.env = (false, eval xs X.env) :: starEach [] X.env := by rfl) (hc : X.calm = true := by rfl) (hpl : (backTo pos (starEach [xs] X.env)).any (·.1) = false := by rfl) :
    XE M Γ (tabR P q0 :: Rs) X (.Call (.Name "min" np) [xs] [⟨some kw, .Lambda params body scope lp, kp⟩] pos) (PEx (fun m => m ∈ ns ∧ ∀ n ∈ ns, ¬ ltK (kf n) (kf m)) fun m => PD X.K (.int m)) := by
  subst hkw hq0
  intro σ H0 H l ex rok Qf q pins s I
  refine wpAny_Call_Name_kw (ld_blt I hg hm (by decide +kernel : bootBuiltins "min" = some (.builtin "min")) ?_)
  have hX := I.ok.hd hc
  refine callWith_kw (L2.thn (pa_wp.run pos pins s σ H (fun vs G1 => ∃ K1, Step M H0 H K1 G1 ∧ Rok (tabR P (X.env.qual ++ "<lambda>") :: Rs) K1 G1 ∧ DAll [PD X.K (.list (li ns))] vs K1) I ((xa_1 hxs hs) σ H0 H l ex rok _ fun vs K1 G1 s1 k1 hv => ⟨K1, s1, k1, hv⟩)) fun us s1 hq => ?_) (by rw [hs]; rfl) hpl rfl rfl
  obtain ⟨vs, G1, I1, r1, K1, t1, k1, hv⟩ := hq
  obtain ⟨v, rfl, l1, ys, rfl, hl, hd⟩ := da1 hv
  obtain rfl := hd.ints
  obtain ⟨u, rfl, ru⟩ := r1.one
  obtain rfl : u = Value.ref l1 := ru
  obtain ⟨kP, ps, gP, kn⟩ := k1.2 _ List.mem_cons_self
  have kn1 : Known G1 ps (X.env.qual ++ "<lambda>") := ⟨kn.1, fun pos cv h => by
    obtain ⟨c1, e1, e2⟩ := kn.2 pos cv h
    exact ⟨c1, e1, t1.le _ _ e2⟩⟩
  show wpAny _ _ (evalAll ((do let v ← eval (.Lambda params body scope lp) X.env; standAt pos; pure v) :: [])) _ _ s1
  refine wpAny_evalAll_cons (wpAny_bind (lam_new I1 TB hcode gP kn1 hdef (clo_of L I1.ok) fun f c' pm ctv G2 z I2 made obf fpf hc' => ?_))
  refine wpAny_bind (wpAny_standAt (wpAny_pure (wpAny_evalAll_nil ?_)))
  obtain ⟨K2, t2, k2⟩ := made_step hM t1.le k1 gP kn made
  show wpAny _ X.A (call (.builtin "min") [.ref l1] [(Str.ofString "key", .ref f)]) _ _ z
  have I3 := I2.pinned (fp := [f]) (fun b hb => by
    rw [List.mem_singleton.mp hb]
    exact fpf) fun b hb => by
    rw [List.mem_singleton.mp hb]
    exact ⟨_, obf, fun v e => by cases e⟩
  have Γ2 : Sl Γ σ K2 := (l.ex t1.ex).ex t2.ex
  have run : KeyRun X (pins ++ pinsAt [f] z.heap) σ f ns kf fun G => ∃ K3, Step M0 K2 G2 K3 G := by
    intro pl n hn G y tk J ⟨K3, t3⟩
    have pf := J.pin (f, _) (List.mem_append_right _ (List.mem_append_left _ (List.mem_append_right _ (mem_pinsAt (by simp) obf))))
    have hcG : G c' = some (CodeO c' (X.env.qual ++ "<lambda>")) := t3.un _ _ (fun z => z) hc'
    have hr1 : Room (k + 1) X.A.in1 := (hr.mono (by omega : k + 2 ≤ k + 3)).in1
    refine wpAny_call (codeAny_mono (lamp_run (E := fun _ _ _ => False) (v := .int n) (Q := fun v G' => ∃ K4, Step M0 K3 G K4 G' ∧ (PD X.K (.tuple [.int (kf n).1, .int (kf n).2])).p v K4) J L hx pf.1 hcG J.env0.in1 hr1 (hb f c' pm ctv _) ⟨tk, rfl⟩ fun room => ?_) fun r y' hq => ?_)
    · exact hbody n hn _ _ _ _ _ _ room (σ ++ [some (.int n)]) K3 G (Sl.snoc (Γ2.ex t3.ex) (show (PD X.K (.int n)).p (.int n) K3 from rfl)) t3.le Rok.nil (fun v G' => ∃ K4, Step M0 K3 G K4 G' ∧ (PD X.K (.tuple [.int (kf n).1, .int (kf n).2])).p v K4) fun v K4 G' t4 _ hv4 => ⟨K4, t4, hv4⟩
    · cases r with
      | error e => exact hq.elim
      | ok fl =>
        cases fl with
        | ret u =>
          obtain ⟨v, G', J', rv, K4, t4, t, xs4, rfl, ht, hd4⟩ := J.after hq
          obtain ⟨x1, w1, e1, y1, x2, w2, e2, y2, e3⟩ := hd4
          have y1' : x1 = .int (kf n).1 := y1
          have y2' : x2 = .int (kf n).2 := y2
          subst y1' y2' e3 e2 e1
          obtain rfl : u = Value.ref t := rv
          exact ⟨G', J', ⟨K4, t3.trans t4⟩, fun b o h => t4.un b o (fun z => z) h, t, rfl, ex_t t4.le ht⟩
        | next => exact hq.elim
        | brk => exact hq.elim
        | cont => exact hq.elim
  refine minK_call (Gd := fun G => ∃ K3, Step M0 K2 G2 K3 G) hX (by have := hr.un; show X.A.units + 1 < cLine; omega) run hne I3 ⟨K2, Step.rfl t2.le⟩ (ex_l (t2.ex.trans t2.le) (SqL.of hl)) fun m G y tk hm1 hm2 J ⟨K3, t3⟩ => ?_
  exact ⟨.int m, G, J.unpinned, ⟨tk, rfl⟩, q (.int m) K3 G ((t1.trans t2).trans t3.of0) (k2.step0 t3) ⟨m, ⟨hm1, hm2⟩, rfl⟩⟩
end
end LhL
/-! A def whose code object is told; a module's tuple. -/
namespace LhL
open PySem L2 LamX PySem.W PyProof.Rows Lh
open Evl (Ex ex_l ex_t ex_rd fresh_back)
/-- a def of the text, its code object at c -/
structure CodeAt (K : PySem.W.Frag) (x qual : Str) (st : Stmt) (f : Addr) (fd : FuncData) (c : Addr) : Prop where
  ex : ∃ (oc : Value) (od : Option Addr) (kV doc pm : Value) (an : Option Addr) (ct : Value) (osl : Array (Option Value)),
    fd = PySem.W.fnOf x qual (defArgs st) (defBody st) (defScope st) .none kV doc pm an (.ref c) ct ∧ K.lookup f = some ⟨oc, od, .func fd, osl⟩ ∧ PySem.W.codeIn K (.ref c) qual = true
section
variable {K : PySem.W.Frag} {mg : Str → Option Value} {base : Heap} {P : Program} {w : World}
theorem fn_FC {α : Type} {M : α → Addr → Prop} {Rs : α → List Res} {pre : α → List Pd} {post : α → Pd} {x qual : Str} {st : Stmt} {f c : Addr} {fd : FuncData} {N ps : List Str} {k : Nat} (F : CodeAt K x qual st f fd c) (S : FnScope N ps (defScope st)) (len : ∀ y, (pre y).length = ps.length)
    (hb : ∀ (y : α) (Z0 Z : Hp) (Q : VK) (X : Cx) (qX : ∃ (A : Around) (outer : List Env) (s : Shared) (E : XK), X = (cxOf CX0 P w K mg base N qual (defScope st) f (.ref c) A outer s Z E).nox ∧ Room k X.A), (∀ v H0' H', Step (M y) Z0 Z H0' H' → Rok (Rs y) H0' H' → (post y).p v H0' → Q v H') →
      XS (M y) (ctOf N (pre y)) (Rs y) X Z0 Z Z0 { nx := fun _ H' => Q .non H', rt := Q } (defBody st)) : FnOk P w K mg base CX0 (k + 1) f fd ps (SpF M Rs pre post) := by
  obtain ⟨oc, od, kV, doc, pm, an, ct, osl, rfl, lk, hcd⟩ := F.ex
  refine fn_of lk hcd S (fun vs H Q E h => ?_) fun A outer s H vs Q E hr h => ?_
  · obtain ⟨y, H0, _, _, h, _⟩ := h
    rw [h.1, len]
  · obtain ⟨y, H0, e, r, h, q⟩ := h
    exact ⟨_, pss_wp.nox, hb y H0 H Q _ ⟨A, outer, s, E, rfl, hr⟩ q _ H0 H (sl_start h) (Step.rfl e) (Ex.refl _) r⟩
end
end LhL
namespace Lh
open PySem L2
open Evl (Ex ex_l ex_t ex_rd fresh_back)
abbrev lsD (zs : List Str) : List PyData := zs.map PyData.str
/-- a module's name that holds a tuple of texts -/
def GTup (K : PySem.W.Frag) (mg : Str → Option Value) (x : Str) (zs : List Str) : Prop := ∃ a, mg x = some (.ref a) ∧ ∀ H, SqT K H a (zs.map V.str)
theorem dd_strs {K : PySem.W.Frag} {H : Hp} : ∀ zs : List Str, DdAll K H (lsD zs) (zs.map V.str)
  | [] => rfl
  | z :: zs => ⟨V.str z, zs.map V.str, rfl, rfl, dd_strs zs⟩
theorem xe_gtup {M : Addr → Prop} {Γ : Ct} {Rs : List Res} {X : Cx} {x : Str} {zs : List Str} {pos : Pos} (hm : GTup X.K X.mg x zs) (hg : Gl X x := by rfl) (hd : (x == ("__debug__" : Str)) = false := by decide) : XE M Γ Rs X (.Name x pos) (PD X.K (.tuple (lsD zs))) := by
  obtain ⟨a, h1, h2⟩ := hm
  exact YE.wp (pe_glob (v := .ref a) hg h1 rfl hd) (ye_c fun H => ⟨a, zs.map V.str, rfl, h2 H, dd_strs zs⟩)
/-! ### among texts -/
theorem dds_inv {K : PySem.W.Frag} {H : Hp} : ∀ {zs : List Str} {xs : List V}, DdAll K H (lsD zs) xs → xs = zs.map V.str
  | [], _, h => h
  | z :: zs, xs, ⟨x, r, h1, h2, h3⟩ => by
    have e : x = V.str z := h2
    subst h1 e
    rw [dds_inv h3]
    rfl
theorem inV_strs (i : Str) : ∀ ns : List Str, inV (.str i) (ns.map V.str) = decide (i ∈ ns)
  | [] => rfl
  | n :: ns => by
    have h := inV_strs i ns
    unfold inV at h ⊢
    rw [List.map_cons, List.any_cons, h]
    show ((n == i) || decide (i ∈ ns)) = decide (i ∈ n :: ns)
    by_cases e : n = i
    · subst e
      simp
    · have e2 : (n == i) = false := beq_eq_false_iff_ne.mpr e
      rw [e2, Bool.false_or]
      refine decide_eq_decide.mpr ?_
      rw [List.mem_cons]
      exact ⟨Or.inr, fun h => h.elim (fun q => absurd q.symm e) id⟩
theorem flat_strs (ns : List Str) : (ns.map V.str).all flatV = true := by
  rw [List.all_map, List.all_eq_true]
  exact fun _ _ => rfl
section
variable {M : Addr → Prop} {Γ Γ' : Ct} {Rs : List Res} {X : Cx} {Z0 Z Hl : Hp} {D : Ends} {K : PySem.W.Frag} {rest : List Stmt} {a b c e : Expr} {pos p : Pos} {i j : Int} {H0 H : Hp} {x y : V}
theorem yl_niTS {z : Str} {ns : List Str} (hx : Dd K H0 (.str z) x) (hy : Dd K H0 (.tuple (lsD ns)) y) (e : Ex H0 H) : Yld H0 H (PD K (.bool (!decide (z ∈ ns)))) (rIn K true x y H) := by
  obtain ⟨a, xs, ey, h1, h2⟩ := hy
  have hx' : x = .str z := hx
  have e2 := dds_inv h2
  subst hx' ey e2
  exact Yld.val (z := .bl (!inV (.str z) (ns.map V.str))) e (by rw [inV_strs]; rfl) fun Q q => ⟨a, _, rfl, .inr (ex_t e h1), rfl, flat_strs ns, q⟩
theorem xt_niTS {z : Str} {ns : List Str} (ha : XE M Γ Rs X a (PD X.K (.str z))) (hb : XE M Γ Rs X b (PD X.K (.tuple (lsD ns)))) (hm : behindInMarks .NotIn b = false := by rfl) : XT M Γ Rs X (.Compare a [.NotIn] [b] pos) (Is (!decide (z ∈ ns))) := xt_cmp (K := X.K) op_notIn_seq ha hb (fun x y H0 H hx hy e _ => (yl_niTS hx hy e).pb) hm
/-! ### the least and the greatest of a list of ints -/
theorem xe_minL {ns : List Int} {m : Int} (hm : X.mg "min" = none) (h : XE M Γ Rs X a (PD X.K (.list (li ns)))) (hne : 0 < ns.length) (hq : ∀ k, k ∈ ns → (∀ y ∈ ns, k ≤ y) → k = m) (hc : X.calm = true := by rfl) (hg : Gl X "min" := by rfl) (he : starEach [a] X.env = (false, eval a X.env) :: starEach [] X.env := by rfl) : XE M Γ Rs X (.Call (.Name "min" p) [a] [] pos) (PD X.K (.int m)) :=
  xe_callB (cr_min hc) hm (by decide +kernel) (xa_1 h he) (fun xs H0 H hx e _ => by
    obtain ⟨x, e1, q, ys, e2, h1, h2⟩ := da1 hx
    have e3 := h2.ints
    subst e1 e2 e3
    exact Yld.val (z := .int m) e rfl fun Q k => ⟨q, ns, rfl, SqL.of (e _ _ h1), hne, fun n hn hle => by rw [hq n hn hle]; exact k⟩) hg (by decide) (by decide) he rfl
theorem xe_maxL {ns : List Int} {m : Int} (hm : X.mg "max" = none) (h : XE M Γ Rs X a (PD X.K (.list (li ns)))) (hne : 0 < ns.length) (hq : ∀ k, k ∈ ns → (∀ y ∈ ns, y ≤ k) → k = m) (hc : X.calm = true := by rfl) (hg : Gl X "max" := by rfl) (he : starEach [a] X.env = (false, eval a X.env) :: starEach [] X.env := by rfl) : XE M Γ Rs X (.Call (.Name "max" p) [a] [] pos) (PD X.K (.int m)) :=
  xe_callB (cr_max hc) hm (by decide +kernel) (xa_1 h he) (fun xs H0 H hx e _ => by
    obtain ⟨x, e1, q, ys, e2, h1, h2⟩ := da1 hx
    have e3 := h2.ints
    subst e1 e2 e3
    exact Yld.val (z := .int m) e rfl fun Q k => ⟨q, ns, rfl, SqL.of (e _ _ h1), hne, fun n hn hle => by rw [hq n hn hle]; exact k⟩) hg (by decide) (by decide) he rfl
/-! ### lists of pairs -/
theorem Pd.ext {P Q : Pd} (h : ∀ v H, P.p v H ↔ Q.p v H) : P = Q := by
  cases P with
  | mk p m =>
    cases Q with
    | mk q n =>
      have e : p = q := funext fun v => funext fun H => propext (h v H)
      subst e
      rfl
theorem pd_pt2 {d1 d2 : PyData} : PD K (.tuple [d1, d2]) = PT2 K (PD K d1) (PD K d2) := Pd.ext fun v H => by
  constructor
  · rintro ⟨a, xs, e, h1, x, r, rfl, hx, y, r2, rfl, hy, hr⟩
    have hr' : r2 = [] := hr
    subst hr'
    exact ⟨a, x, y, e, h1, hx, hy⟩
  · rintro ⟨a, x, y, e, h1, hx, hy⟩
    exact ⟨a, [x, y], e, h1, x, [y], rfl, hx, y, [], rfl, hy, rfl⟩
end
end Lh
namespace K61
open PySem L2 Lh
/-! ### the text by places -/
def top (i : Nat) : Stmt := PySem.Challenge.pw_liftheard_k61_whole_lifts_that_are_liste.main.body.getD i (.Pass ⟨0, 0, 0, 0⟩)
abbrev s_check_gaps : Stmt := top 16
abbrev s_check_bells : Stmt := top 17
abbrev s_check_floors : Stmt := top 18
abbrev s_check_rule : Stmt := top 22
abbrev s_wrong_call : Stmt := top 23
abbrev s_check_calls : Stmt := top 24
abbrev s_nearest : Stmt := top 25
abbrev s_next_in_sweep : Stmt := top 26
abbrev s_next_stop : Stmt := top 27
abbrev s_stops_of : Stmt := top 28
abbrev s_sounds : Stmt := top 30
abbrev s_is_row_of : Stmt := top 35
abbrev s_check_log : Stmt := top 36
abbrev s_check_hearing : Stmt := top 37
abbrev s_next_floors : Stmt := top 38
abbrev s_floors_behind_row : Stmt := top 39
abbrev s_floors_behind : Stmt := top 40
abbrev s_links_of : Stmt := top 42
abbrev s_numbers_ahead : Stmt := top 43
abbrev s_numbers_behind : Stmt := top 44
abbrev s_numbers_through : Stmt := top 45
abbrev s_number_from : Stmt := top 46
abbrev s_way_count : Stmt := top 47
abbrev s_meets : Stmt := top 48
abbrev s_ends_without : Stmt := top 49
abbrev s_links_without : Stmt := top 50
abbrev s_verdict : Stmt := top 51
abbrev s_judged : Stmt := top 52
abbrev s_possible : Stmt := top 55
abbrev s_beginning : Stmt := top 56
abbrev s_behind_row : Stmt := top 57
abbrev s_with_floors : Stmt := top 58
abbrev s_way_number_of : Stmt := top 59
abbrev s_floors_of : Stmt := top 60
abbrev s_check_name : Stmt := top 64
abbrev s_served : Stmt := top 67
abbrev s__law_begun : Stmt := top 69
abbrev s__law_take : Stmt := top 70
abbrev s__law_house : Stmt := top 71
abbrev s__law_calls : Stmt := top 72
abbrev s__law_is_heard : Stmt := top 73
abbrev s_law : Stmt := top 74
abbrev s_House_init : Stmt := inClass (top 19) 0
abbrev s_House_gaps : Stmt := inClass (top 19) 1
abbrev s_House_bells : Stmt := inClass (top 19) 2
abbrev s_House_floors : Stmt := inClass (top 19) 3
abbrev s_House_len : Stmt := inClass (top 19) 4
abbrev s_House_eq : Stmt := inClass (top 19) 5
abbrev s_House_seconds : Stmt := inClass (top 19) 6
abbrev s_Control_init : Stmt := inClass (top 32) 0
abbrev s_Control_here : Stmt := inClass (top 32) 1
abbrev s_Control_clock : Stmt := inClass (top 32) 2
abbrev s_Control_open_calls : Stmt := inClass (top 32) 3
abbrev s_Control_is_up : Stmt := inClass (top 32) 4
abbrev s_Control_call : Stmt := inClass (top 32) 5
abbrev s_Control_serve : Stmt := inClass (top 32) 6
abbrev s_Control_serve_all : Stmt := inClass (top 32) 7
abbrev s_Control_heard : Stmt := inClass (top 32) 8
abbrev s_Known_init : Stmt := inClass (top 54) 0
abbrev s_Listener_init : Stmt := inClass (top 65) 0
abbrev s_Listener_log : Stmt := inClass (top 65) 1
abbrev s_Listener_floors : Stmt := inClass (top 65) 2
abbrev s_Listener_marks : Stmt := inClass (top 65) 3
abbrev s_Listener__add : Stmt := inClass (top 65) 5
abbrev s_Listener_hear : Stmt := inClass (top 65) 6
abbrev s_Listener_told : Stmt := inClass (top 65) 7
abbrev s_Listener_mark : Stmt := inClass (top 65) 8
abbrev s_Listener_go : Stmt := inClass (top 65) 9
abbrev s_Listener__marked : Stmt := inClass (top 65) 10
abbrev s_Listener__check_moment : Stmt := inClass (top 65) 11
abbrev s_Listener_floors_then : Stmt := inClass (top 65) 12
abbrev s_Listener_way_number : Stmt := inClass (top 65) 13
abbrev n_check_gaps : List Str := ["gaps", "index", "gap"]
theorem sc_check_gaps : FnScope n_check_gaps ["gaps"] (defScope s_check_gaps) := ⟨rfl, rfl, rfl, by decide +kernel, rfl, by decide +kernel, by decide +kernel⟩
abbrev n_check_bells : List Str := ["bells", "floors", "index", "bell"]
theorem sc_check_bells : FnScope n_check_bells ["bells", "floors"] (defScope s_check_bells) := ⟨rfl, rfl, rfl, by decide +kernel, rfl, by decide +kernel, by decide +kernel⟩
abbrev n_check_floors : List Str := ["house", "floors", "floor"]
theorem sc_check_floors : FnScope n_check_floors ["house", "floors"] (defScope s_check_floors) := ⟨rfl, rfl, rfl, by decide +kernel, rfl, by decide +kernel, by decide +kernel⟩
abbrev n_check_rule : List Str := ["rule"]
theorem sc_check_rule : FnScope n_check_rule ["rule"] (defScope s_check_rule) := ⟨rfl, rfl, rfl, by decide +kernel, rfl, by decide +kernel, by decide +kernel⟩
abbrev n_wrong_call : List Str := ["house", "calls", "index", "floor"]
theorem sc_wrong_call : FnScope n_wrong_call ["house", "calls"] (defScope s_wrong_call) := ⟨rfl, rfl, rfl, by decide +kernel, rfl, by decide +kernel, by decide +kernel⟩
abbrev n_check_calls : List Str := ["house", "calls", "index"]
theorem sc_check_calls : FnScope n_check_calls ["house", "calls"] (defScope s_check_calls) := ⟨rfl, rfl, rfl, by decide +kernel, rfl, by decide +kernel, by decide +kernel⟩
abbrev n_nearest : List Str := ["house", "here", "calls"]
theorem sc_nearest : FnScope n_nearest ["house", "here", "calls"] (defScope s_nearest) := ⟨rfl, rfl, rfl, by decide +kernel, rfl, by decide +kernel, by decide +kernel⟩
abbrev n_next_in_sweep : List Str := ["here", "is_up", "calls", "above", "floor", "below"]
theorem sc_next_in_sweep : FnScope n_next_in_sweep ["here", "is_up", "calls"] (defScope s_next_in_sweep) := ⟨rfl, rfl, rfl, by decide +kernel, rfl, by decide +kernel, by decide +kernel⟩
abbrev n_next_stop : List Str := ["house", "rule", "here", "is_up", "calls"]
theorem sc_next_stop : FnScope n_next_stop ["house", "rule", "here", "is_up", "calls"] (defScope s_next_stop) := ⟨rfl, rfl, rfl, by decide +kernel, rfl, by decide +kernel, by decide +kernel⟩
abbrev n_stops_of : List Str := ["house", "rule", "begin", "calls", "here", "is_up", "second", "left", "stops", "known", "come", "floor", "called"]
theorem sc_stops_of : FnScope n_stops_of ["house", "rule", "begin", "calls"] (defScope s_stops_of) := ⟨rfl, rfl, rfl, by decide +kernel, rfl, by decide +kernel, by decide +kernel⟩
abbrev n_sounds : List Str := ["house", "begin", "stops", "log", "here", "floor"]
theorem sc_sounds : FnScope n_sounds ["house", "begin", "stops"] (defScope s_sounds) := ⟨rfl, rfl, rfl, by decide +kernel, rfl, by decide +kernel, by decide +kernel⟩
abbrev n_is_row_of : List Str := ["house", "row", "floor"]
theorem sc_is_row_of : FnScope n_is_row_of ["house", "row"] (defScope s_is_row_of) := ⟨rfl, rfl, rfl, by decide +kernel, rfl, by decide +kernel, by decide +kernel⟩
abbrev n_check_log : List Str := ["house", "log", "index", "row"]
theorem sc_check_log : FnScope n_check_log ["house", "log"] (defScope s_check_log) := ⟨rfl, rfl, rfl, by decide +kernel, rfl, by decide +kernel, by decide +kernel⟩
abbrev n_check_hearing : List Str := ["house", "start", "log"]
theorem sc_check_hearing : FnScope n_check_hearing ["house", "start", "log"] (defScope s_check_hearing) := ⟨rfl, rfl, rfl, by decide +kernel, rfl, by decide +kernel, by decide +kernel⟩
abbrev n_next_floors : List Str := ["house", "row", "floor", "kind", "other"]
theorem sc_next_floors : FnScope n_next_floors ["house", "row", "floor"] (defScope s_next_floors) := ⟨rfl, rfl, rfl, by decide +kernel, rfl, by decide +kernel, by decide +kernel⟩
abbrev n_floors_behind_row : List Str := ["house", "row", "floors", "floor", "other"]
theorem sc_floors_behind_row : FnScope n_floors_behind_row ["house", "row", "floors"] (defScope s_floors_behind_row) := ⟨rfl, rfl, rfl, by decide +kernel, rfl, by decide +kernel, by decide +kernel⟩
abbrev n_floors_behind : List Str := ["house", "start", "log", "floors", "row"]
theorem sc_floors_behind : FnScope n_floors_behind ["house", "start", "log"] (defScope s_floors_behind) := ⟨rfl, rfl, rfl, by decide +kernel, rfl, by decide +kernel, by decide +kernel⟩
abbrev n_links_of : List Str := ["house", "log", "floor", "row"]
theorem sc_links_of : FnScope n_links_of ["house", "log"] (defScope s_links_of) := ⟨rfl, rfl, rfl, by decide +kernel, rfl, by decide +kernel, by decide +kernel⟩
abbrev n_numbers_ahead : List Str := ["house", "links", "numbers", "ends_of_floors", "behind", "end", "ends"]
theorem sc_numbers_ahead : FnScope n_numbers_ahead ["house", "links"] (defScope s_numbers_ahead) := ⟨rfl, rfl, rfl, by decide +kernel, rfl, by decide +kernel, by decide +kernel⟩
abbrev n_numbers_behind : List Str := ["house", "start", "links", "numbers", "floor", "ends_of_floors", "behind", "number", "ends", "end"]
theorem sc_numbers_behind : FnScope n_numbers_behind ["house", "start", "links"] (defScope s_numbers_behind) := ⟨rfl, rfl, rfl, by decide +kernel, rfl, by decide +kernel, by decide +kernel⟩
abbrev n_numbers_through : List Str := ["house", "start", "links", "numbers", "behind", "ahead", "one", "other"]
theorem sc_numbers_through : FnScope n_numbers_through ["house", "start", "links"] (defScope s_numbers_through) := ⟨rfl, rfl, rfl, by decide +kernel, rfl, by decide +kernel, by decide +kernel⟩
abbrev n_number_from : List Str := ["floors", "numbers", "floor"]
theorem sc_number_from : FnScope n_number_from ["floors", "numbers"] (defScope s_number_from) := ⟨rfl, rfl, rfl, by decide +kernel, rfl, by decide +kernel, by decide +kernel⟩
abbrev n_way_count : List Str := ["house", "start", "log"]
theorem sc_way_count : FnScope n_way_count ["house", "start", "log"] (defScope s_way_count) := ⟨rfl, rfl, rfl, by decide +kernel, rfl, by decide +kernel, by decide +kernel⟩
abbrev n_meets : List Str := ["row", "begin", "end", "floor", "goes_by"]
theorem sc_meets : FnScope n_meets ["row", "begin", "end", "floor", "goes_by"] (defScope s_meets) := ⟨rfl, rfl, rfl, by decide +kernel, rfl, by decide +kernel, by decide +kernel⟩
abbrev n_ends_without : List Str := ["row", "begin", "ends", "floor", "goes_by", "end"]
theorem sc_ends_without : FnScope n_ends_without ["row", "begin", "ends", "floor", "goes_by"] (defScope s_ends_without) := ⟨rfl, rfl, rfl, by decide +kernel, rfl, by decide +kernel, by decide +kernel⟩
abbrev n_links_without : List Str := ["log", "links", "floor", "goes_by", "left", "row", "ends_of_floors", "begin", "ends"]
theorem sc_links_without : FnScope n_links_without ["log", "links", "floor", "goes_by"] (defScope s_links_without) := ⟨rfl, rfl, rfl, by decide +kernel, rfl, by decide +kernel, by decide +kernel⟩
abbrev n_verdict : List Str := ["house", "start", "log", "floor", "goes_by", "links", "number", "others", "begin", "without"]
theorem sc_verdict : FnScope n_verdict ["house", "start", "log", "floor", "goes_by"] (defScope s_verdict) := ⟨rfl, rfl, rfl, by decide +kernel, rfl, by decide +kernel, by decide +kernel⟩
abbrev n_judged : List Str := ["house", "start", "log", "floor"]
theorem sc_judged : FnScope n_judged ["house", "start", "log", "floor"] (defScope s_judged) := ⟨rfl, rfl, rfl, by decide +kernel, rfl, by decide +kernel, by decide +kernel⟩
abbrev n_possible : List Str := ["known"]
theorem sc_possible : FnScope n_possible ["known"] (defScope s_possible) := ⟨rfl, rfl, rfl, by decide +kernel, rfl, by decide +kernel, by decide +kernel⟩
abbrev n_beginning : List Str := ["house", "start"]
theorem sc_beginning : FnScope n_beginning ["house", "start"] (defScope s_beginning) := ⟨rfl, rfl, rfl, by decide +kernel, rfl, by decide +kernel, by decide +kernel⟩
abbrev n_behind_row : List Str := ["house", "known", "row", "ends_of_floors"]
theorem sc_behind_row : FnScope n_behind_row ["house", "known", "row"] (defScope s_behind_row) := ⟨rfl, rfl, rfl, by decide +kernel, rfl, by decide +kernel, by decide +kernel⟩
abbrev n_with_floors : List Str := ["house", "known", "moment", "floors", "start", "links", "floor", "end", "ends"]
theorem sc_with_floors : FnScope n_with_floors ["house", "known", "moment", "floors"] (defScope s_with_floors) := ⟨rfl, rfl, rfl, by decide +kernel, rfl, by decide +kernel, by decide +kernel⟩
abbrev n_way_number_of : List Str := ["known"]
theorem sc_way_number_of : FnScope n_way_number_of ["known"] (defScope s_way_number_of) := ⟨rfl, rfl, rfl, by decide +kernel, rfl, by decide +kernel, by decide +kernel⟩
abbrev n_floors_of : List Str := ["known", "moment", "floor", "number"]
theorem sc_floors_of : FnScope n_floors_of ["known", "moment"] (defScope s_floors_of) := ⟨rfl, rfl, rfl, by decide +kernel, rfl, by decide +kernel, by decide +kernel⟩
abbrev n_check_name : List Str := ["name", "letter"]
abbrev n_served : List Str := ["house", "rule", "begin", "calls", "floor"]
theorem sc_served : FnScope n_served ["house", "rule", "begin", "calls"] (defScope s_served) := ⟨rfl, rfl, rfl, by decide +kernel, rfl, by decide +kernel, by decide +kernel⟩
abbrev n__law_begun : List Str := ["_law_script", "_law_stirred", "_law_cell"]
theorem sc__law_begun : FnScope n__law_begun ["_law_script"] (defScope s__law_begun) := ⟨rfl, rfl, rfl, by decide +kernel, rfl, by decide +kernel, by decide +kernel⟩
abbrev n__law_take : List Str := ["_law_box", "_law_many", "_law_figure"]
theorem sc__law_take : FnScope n__law_take ["_law_box", "_law_many"] (defScope s__law_take) := ⟨rfl, rfl, rfl, by decide +kernel, rfl, by decide +kernel, by decide +kernel⟩
abbrev n__law_house : List Str := ["_law_box", "_law_most", "_law_widest", "_law_gaps", "_law_turn", "_law_floor"]
theorem sc__law_house : FnScope n__law_house ["_law_box", "_law_most", "_law_widest"] (defScope s__law_house) := ⟨rfl, rfl, rfl, by decide +kernel, rfl, by decide +kernel, by decide +kernel⟩
abbrev n__law_calls : List Str := ["_law_box", "_law_house_here", "_law_most", "_law_left", "_law_found", "_law_turn"]
theorem sc__law_calls : FnScope n__law_calls ["_law_box", "_law_house_here", "_law_most"] (defScope s__law_calls) := ⟨rfl, rfl, rfl, by decide +kernel, rfl, by decide +kernel, by decide +kernel⟩
abbrev n__law_is_heard : List Str := ["_law_house_here", "_law_begin", "_law_lift", "_law_log", "_law_listener", "_law_index", "_law_moment"]
theorem sc__law_is_heard : FnScope n__law_is_heard ["_law_house_here", "_law_begin", "_law_lift", "_law_log"] (defScope s__law_is_heard) := ⟨rfl, rfl, rfl, by decide +kernel, rfl, by decide +kernel, by decide +kernel⟩
abbrev n_law : List Str := ["_law_script", "_law_box", "_law_house_here", "_law_begin", "_law_rule", "_law_calls_here", "_law_lift", "_law_once", "_law_floor", "_law_due", "_law_clock", "_law_row", "_law_stops", "_law_turn", "_law_many", "_law_here", "_law_seconds", "_law_log"]
theorem sc_law : FnScope n_law ["_law_script"] (defScope s_law) := ⟨rfl, rfl, rfl, by decide +kernel, rfl, by decide +kernel, by decide +kernel⟩
abbrev n_House_init : List Str := ["self", "gaps", "bells", "floors"]
theorem sc_House_init : FnScope n_House_init ["self", "gaps", "bells"] (defScope s_House_init) := ⟨rfl, rfl, rfl, by decide +kernel, rfl, by decide +kernel, by decide +kernel⟩
abbrev n_House_gaps : List Str := ["self"]
theorem sc_House_gaps : FnScope n_House_gaps ["self"] (defScope s_House_gaps) := ⟨rfl, rfl, rfl, by decide +kernel, rfl, by decide +kernel, by decide +kernel⟩
abbrev n_House_bells : List Str := ["self"]
theorem sc_House_bells : FnScope n_House_bells ["self"] (defScope s_House_bells) := ⟨rfl, rfl, rfl, by decide +kernel, rfl, by decide +kernel, by decide +kernel⟩
abbrev n_House_floors : List Str := ["self"]
theorem sc_House_floors : FnScope n_House_floors ["self"] (defScope s_House_floors) := ⟨rfl, rfl, rfl, by decide +kernel, rfl, by decide +kernel, by decide +kernel⟩
abbrev n_House_len : List Str := ["self"]
theorem sc_House_len : FnScope n_House_len ["self"] (defScope s_House_len) := ⟨rfl, rfl, rfl, by decide +kernel, rfl, by decide +kernel, by decide +kernel⟩
abbrev n_House_eq : List Str := ["self", "other"]
abbrev n_House_seconds : List Str := ["self", "one", "other"]
theorem sc_House_seconds : FnScope n_House_seconds ["self", "one", "other"] (defScope s_House_seconds) := ⟨rfl, rfl, rfl, by decide +kernel, rfl, by decide +kernel, by decide +kernel⟩
abbrev n_Control_init : List Str := ["self", "house", "rule", "begin"]
theorem sc_Control_init : FnScope n_Control_init ["self", "house", "rule", "begin"] (defScope s_Control_init) := ⟨rfl, rfl, rfl, by decide +kernel, rfl, by decide +kernel, by decide +kernel⟩
abbrev n_Control_here : List Str := ["self"]
theorem sc_Control_here : FnScope n_Control_here ["self"] (defScope s_Control_here) := ⟨rfl, rfl, rfl, by decide +kernel, rfl, by decide +kernel, by decide +kernel⟩
abbrev n_Control_clock : List Str := ["self"]
theorem sc_Control_clock : FnScope n_Control_clock ["self"] (defScope s_Control_clock) := ⟨rfl, rfl, rfl, by decide +kernel, rfl, by decide +kernel, by decide +kernel⟩
abbrev n_Control_open_calls : List Str := ["self"]
theorem sc_Control_open_calls : FnScope n_Control_open_calls ["self"] (defScope s_Control_open_calls) := ⟨rfl, rfl, rfl, by decide +kernel, rfl, by decide +kernel, by decide +kernel⟩
abbrev n_Control_is_up : List Str := ["self"]
abbrev n_Control_call : List Str := ["self", "floor"]
theorem sc_Control_call : FnScope n_Control_call ["self", "floor"] (defScope s_Control_call) := ⟨rfl, rfl, rfl, by decide +kernel, rfl, by decide +kernel, by decide +kernel⟩
abbrev n_Control_serve : List Str := ["self", "floor", "seconds", "called"]
theorem sc_Control_serve : FnScope n_Control_serve ["self"] (defScope s_Control_serve) := ⟨rfl, rfl, rfl, by decide +kernel, rfl, by decide +kernel, by decide +kernel⟩
abbrev n_Control_serve_all : List Str := ["self", "served_calls"]
theorem sc_Control_serve_all : FnScope n_Control_serve_all ["self"] (defScope s_Control_serve_all) := ⟨rfl, rfl, rfl, by decide +kernel, rfl, by decide +kernel, by decide +kernel⟩
abbrev n_Control_heard : List Str := ["self"]
theorem sc_Control_heard : FnScope n_Control_heard ["self"] (defScope s_Control_heard) := ⟨rfl, rfl, rfl, by decide +kernel, rfl, by decide +kernel, by decide +kernel⟩
abbrev n_Known_init : List Str := ["self", "house", "rows", "start", "links"]
theorem sc_Known_init : FnScope n_Known_init ["self", "house", "rows", "start", "links"] (defScope s_Known_init) := ⟨rfl, rfl, rfl, by decide +kernel, rfl, by decide +kernel, by decide +kernel⟩
abbrev n_Listener_init : List Str := ["self", "house", "start"]
theorem sc_Listener_init : FnScope n_Listener_init ["self", "house", "start"] (defScope s_Listener_init) := ⟨rfl, rfl, rfl, by decide +kernel, rfl, by decide +kernel, by decide +kernel⟩
abbrev n_Listener_log : List Str := ["self"]
abbrev n_Listener_floors : List Str := ["self", "known"]
theorem sc_Listener_floors : FnScope n_Listener_floors ["self"] (defScope s_Listener_floors) := ⟨rfl, rfl, rfl, by decide +kernel, rfl, by decide +kernel, by decide +kernel⟩
abbrev n_Listener_marks : List Str := ["self", "operation"]
abbrev n_Listener__add : List Str := ["self", "operation", "known"]
theorem sc_Listener__add : FnScope n_Listener__add ["self", "operation", "known"] (defScope s_Listener__add) := ⟨rfl, rfl, rfl, by decide +kernel, rfl, by decide +kernel, by decide +kernel⟩
abbrev n_Listener_hear : List Str := ["self", "row"]
theorem sc_Listener_hear : FnScope n_Listener_hear ["self", "row"] (defScope s_Listener_hear) := ⟨rfl, rfl, rfl, by decide +kernel, rfl, by decide +kernel, by decide +kernel⟩
abbrev n_Listener_told : List Str := ["self", "moment", "floors"]
theorem sc_Listener_told : FnScope n_Listener_told ["self", "moment", "floors"] (defScope s_Listener_told) := ⟨rfl, rfl, rfl, by decide +kernel, rfl, by decide +kernel, by decide +kernel⟩
abbrev n_Listener_mark : List Str := ["self", "name", "was_there"]
abbrev n_Listener_go : List Str := ["self", "name", "known"]
abbrev n_Listener__marked : List Str := ["self", "name", "operation", "known"]
abbrev n_Listener__check_moment : List Str := ["self", "moment"]
theorem sc_Listener__check_moment : FnScope n_Listener__check_moment ["self", "moment"] (defScope s_Listener__check_moment) := ⟨rfl, rfl, rfl, by decide +kernel, rfl, by decide +kernel, by decide +kernel⟩
abbrev n_Listener_floors_then : List Str := ["self", "moment"]
theorem sc_Listener_floors_then : FnScope n_Listener_floors_then ["self", "moment"] (defScope s_Listener_floors_then) := ⟨rfl, rfl, rfl, by decide +kernel, rfl, by decide +kernel, by decide +kernel⟩
abbrev n_Listener_way_number : List Str := ["self"]
theorem sc_Listener_way_number : FnScope n_Listener_way_number ["self"] (defScope s_Listener_way_number) := ⟨rfl, rfl, rfl, by decide +kernel, rfl, by decide +kernel, by decide +kernel⟩
/-- what the top has written -/
structure Txt (K : PySem.W.Frag) (mg : Str → Option Value) where
  C_House : Addr
  C_Control : Addr
  C_Known : Addr
  C_Listener : Addr
  f_check_gaps : Addr
  d_check_gaps : FuncData
  f_check_bells : Addr
  d_check_bells : FuncData
  f_check_floors : Addr
  d_check_floors : FuncData
  f_check_rule : Addr
  d_check_rule : FuncData
  f_wrong_call : Addr
  d_wrong_call : FuncData
  f_check_calls : Addr
  d_check_calls : FuncData
  f_nearest : Addr
  d_nearest : FuncData
  f_next_in_sweep : Addr
  d_next_in_sweep : FuncData
  f_next_stop : Addr
  d_next_stop : FuncData
  f_stops_of : Addr
  d_stops_of : FuncData
  f_sounds : Addr
  d_sounds : FuncData
  f_is_row_of : Addr
  d_is_row_of : FuncData
  f_check_log : Addr
  d_check_log : FuncData
  f_check_hearing : Addr
  d_check_hearing : FuncData
  f_next_floors : Addr
  d_next_floors : FuncData
  f_floors_behind_row : Addr
  d_floors_behind_row : FuncData
  f_floors_behind : Addr
  d_floors_behind : FuncData
  f_links_of : Addr
  d_links_of : FuncData
  f_numbers_ahead : Addr
  d_numbers_ahead : FuncData
  f_numbers_behind : Addr
  d_numbers_behind : FuncData
  f_numbers_through : Addr
  d_numbers_through : FuncData
  f_number_from : Addr
  d_number_from : FuncData
  f_way_count : Addr
  d_way_count : FuncData
  f_meets : Addr
  d_meets : FuncData
  f_ends_without : Addr
  d_ends_without : FuncData
  f_links_without : Addr
  d_links_without : FuncData
  f_verdict : Addr
  d_verdict : FuncData
  f_judged : Addr
  d_judged : FuncData
  f_possible : Addr
  d_possible : FuncData
  f_beginning : Addr
  d_beginning : FuncData
  f_behind_row : Addr
  d_behind_row : FuncData
  f_with_floors : Addr
  d_with_floors : FuncData
  f_way_number_of : Addr
  d_way_number_of : FuncData
  f_floors_of : Addr
  d_floors_of : FuncData
  f_check_name : Addr
  d_check_name : FuncData
  f_served : Addr
  d_served : FuncData
  f__law_begun : Addr
  d__law_begun : FuncData
  f__law_take : Addr
  d__law_take : FuncData
  f__law_house : Addr
  d__law_house : FuncData
  f__law_calls : Addr
  d__law_calls : FuncData
  f__law_is_heard : Addr
  d__law_is_heard : FuncData
  f_law : Addr
  d_law : FuncData
  f_House_init : Addr
  d_House_init : FuncData
  f_House_gaps : Addr
  d_House_gaps : FuncData
  f_House_bells : Addr
  d_House_bells : FuncData
  f_House_floors : Addr
  d_House_floors : FuncData
  f_House_len : Addr
  d_House_len : FuncData
  f_House_eq : Addr
  d_House_eq : FuncData
  f_House_seconds : Addr
  d_House_seconds : FuncData
  f_Control_init : Addr
  d_Control_init : FuncData
  f_Control_here : Addr
  d_Control_here : FuncData
  f_Control_clock : Addr
  d_Control_clock : FuncData
  f_Control_open_calls : Addr
  d_Control_open_calls : FuncData
  f_Control_is_up : Addr
  d_Control_is_up : FuncData
  f_Control_call : Addr
  d_Control_call : FuncData
  f_Control_serve : Addr
  d_Control_serve : FuncData
  f_Control_serve_all : Addr
  d_Control_serve_all : FuncData
  f_Control_heard : Addr
  d_Control_heard : FuncData
  f_Known_init : Addr
  d_Known_init : FuncData
  f_Listener_init : Addr
  d_Listener_init : FuncData
  f_Listener_log : Addr
  d_Listener_log : FuncData
  f_Listener_floors : Addr
  d_Listener_floors : FuncData
  f_Listener_marks : Addr
  d_Listener_marks : FuncData
  f_Listener__add : Addr
  d_Listener__add : FuncData
  f_Listener_hear : Addr
  d_Listener_hear : FuncData
  f_Listener_told : Addr
  d_Listener_told : FuncData
  f_Listener_mark : Addr
  d_Listener_mark : FuncData
  f_Listener_go : Addr
  d_Listener_go : FuncData
  f_Listener__marked : Addr
  d_Listener__marked : FuncData
  f_Listener__check_moment : Addr
  d_Listener__check_moment : FuncData
  f_Listener_floors_then : Addr
  d_Listener_floors_then : FuncData
  f_Listener_way_number : Addr
  d_Listener_way_number : FuncData
  p_House_gaps : Addr
  p_House_bells : Addr
  p_House_floors : Addr
  p_Control_here : Addr
  p_Control_clock : Addr
  p_Control_open_calls : Addr
  p_Control_is_up : Addr
  p_Listener_log : Addr
  p_Listener_floors : Addr
  p_Listener_marks : Addr
  F_check_gaps : Fun K "check_gaps" "check_gaps" s_check_gaps f_check_gaps d_check_gaps
  b_check_gaps : Binds K d_check_gaps ["gaps"] []
  g_check_gaps : mg "check_gaps" = some (.ref f_check_gaps)
  F_check_bells : Fun K "check_bells" "check_bells" s_check_bells f_check_bells d_check_bells
  b_check_bells : Binds K d_check_bells ["bells", "floors"] []
  g_check_bells : mg "check_bells" = some (.ref f_check_bells)
  F_check_floors : Fun K "check_floors" "check_floors" s_check_floors f_check_floors d_check_floors
  b_check_floors : Binds K d_check_floors ["house", "floors"] []
  g_check_floors : mg "check_floors" = some (.ref f_check_floors)
  F_check_rule : Fun K "check_rule" "check_rule" s_check_rule f_check_rule d_check_rule
  b_check_rule : Binds K d_check_rule ["rule"] []
  g_check_rule : mg "check_rule" = some (.ref f_check_rule)
  F_wrong_call : Fun K "wrong_call" "wrong_call" s_wrong_call f_wrong_call d_wrong_call
  b_wrong_call : Binds K d_wrong_call ["house", "calls"] []
  g_wrong_call : mg "wrong_call" = some (.ref f_wrong_call)
  F_check_calls : Fun K "check_calls" "check_calls" s_check_calls f_check_calls d_check_calls
  b_check_calls : Binds K d_check_calls ["house", "calls"] []
  g_check_calls : mg "check_calls" = some (.ref f_check_calls)
  F_nearest : Fun K "nearest" "nearest" s_nearest f_nearest d_nearest
  b_nearest : Binds K d_nearest ["house", "here", "calls"] []
  g_nearest : mg "nearest" = some (.ref f_nearest)
  F_next_in_sweep : Fun K "next_in_sweep" "next_in_sweep" s_next_in_sweep f_next_in_sweep d_next_in_sweep
  b_next_in_sweep : Binds K d_next_in_sweep ["here", "is_up", "calls"] []
  g_next_in_sweep : mg "next_in_sweep" = some (.ref f_next_in_sweep)
  F_next_stop : Fun K "next_stop" "next_stop" s_next_stop f_next_stop d_next_stop
  b_next_stop : Binds K d_next_stop ["house", "rule", "here", "is_up", "calls"] []
  g_next_stop : mg "next_stop" = some (.ref f_next_stop)
  F_stops_of : Fun K "stops_of" "stops_of" s_stops_of f_stops_of d_stops_of
  b_stops_of : Binds K d_stops_of ["house", "rule", "begin", "calls"] []
  g_stops_of : mg "stops_of" = some (.ref f_stops_of)
  F_sounds : Fun K "sounds" "sounds" s_sounds f_sounds d_sounds
  b_sounds : Binds K d_sounds ["house", "begin", "stops"] []
  g_sounds : mg "sounds" = some (.ref f_sounds)
  F_is_row_of : Fun K "is_row_of" "is_row_of" s_is_row_of f_is_row_of d_is_row_of
  b_is_row_of : Binds K d_is_row_of ["house", "row"] []
  g_is_row_of : mg "is_row_of" = some (.ref f_is_row_of)
  F_check_log : Fun K "check_log" "check_log" s_check_log f_check_log d_check_log
  b_check_log : Binds K d_check_log ["house", "log"] []
  g_check_log : mg "check_log" = some (.ref f_check_log)
  F_check_hearing : Fun K "check_hearing" "check_hearing" s_check_hearing f_check_hearing d_check_hearing
  b_check_hearing : Binds K d_check_hearing ["house", "start", "log"] []
  g_check_hearing : mg "check_hearing" = some (.ref f_check_hearing)
  F_next_floors : Fun K "next_floors" "next_floors" s_next_floors f_next_floors d_next_floors
  b_next_floors : Binds K d_next_floors ["house", "row", "floor"] []
  g_next_floors : mg "next_floors" = some (.ref f_next_floors)
  F_floors_behind_row : Fun K "floors_behind_row" "floors_behind_row" s_floors_behind_row f_floors_behind_row d_floors_behind_row
  b_floors_behind_row : Binds K d_floors_behind_row ["house", "row", "floors"] []
  g_floors_behind_row : mg "floors_behind_row" = some (.ref f_floors_behind_row)
  F_floors_behind : Fun K "floors_behind" "floors_behind" s_floors_behind f_floors_behind d_floors_behind
  b_floors_behind : Binds K d_floors_behind ["house", "start", "log"] []
  g_floors_behind : mg "floors_behind" = some (.ref f_floors_behind)
  F_links_of : Fun K "links_of" "links_of" s_links_of f_links_of d_links_of
  b_links_of : Binds K d_links_of ["house", "log"] []
  g_links_of : mg "links_of" = some (.ref f_links_of)
  F_numbers_ahead : Fun K "numbers_ahead" "numbers_ahead" s_numbers_ahead f_numbers_ahead d_numbers_ahead
  b_numbers_ahead : Binds K d_numbers_ahead ["house", "links"] []
  g_numbers_ahead : mg "numbers_ahead" = some (.ref f_numbers_ahead)
  F_numbers_behind : Fun K "numbers_behind" "numbers_behind" s_numbers_behind f_numbers_behind d_numbers_behind
  b_numbers_behind : Binds K d_numbers_behind ["house", "start", "links"] []
  g_numbers_behind : mg "numbers_behind" = some (.ref f_numbers_behind)
  F_numbers_through : Fun K "numbers_through" "numbers_through" s_numbers_through f_numbers_through d_numbers_through
  b_numbers_through : Binds K d_numbers_through ["house", "start", "links"] []
  g_numbers_through : mg "numbers_through" = some (.ref f_numbers_through)
  F_number_from : Fun K "number_from" "number_from" s_number_from f_number_from d_number_from
  b_number_from : Binds K d_number_from ["floors", "numbers"] []
  g_number_from : mg "number_from" = some (.ref f_number_from)
  F_way_count : Fun K "way_count" "way_count" s_way_count f_way_count d_way_count
  b_way_count : Binds K d_way_count ["house", "start", "log"] []
  g_way_count : mg "way_count" = some (.ref f_way_count)
  F_meets : Fun K "meets" "meets" s_meets f_meets d_meets
  b_meets : Binds K d_meets ["row", "begin", "end", "floor", "goes_by"] []
  g_meets : mg "meets" = some (.ref f_meets)
  F_ends_without : Fun K "ends_without" "ends_without" s_ends_without f_ends_without d_ends_without
  b_ends_without : Binds K d_ends_without ["row", "begin", "ends", "floor", "goes_by"] []
  g_ends_without : mg "ends_without" = some (.ref f_ends_without)
  F_links_without : Fun K "links_without" "links_without" s_links_without f_links_without d_links_without
  b_links_without : Binds K d_links_without ["log", "links", "floor", "goes_by"] []
  g_links_without : mg "links_without" = some (.ref f_links_without)
  F_verdict : Fun K "verdict" "verdict" s_verdict f_verdict d_verdict
  b_verdict : Binds K d_verdict ["house", "start", "log", "floor", "goes_by"] []
  g_verdict : mg "verdict" = some (.ref f_verdict)
  F_judged : Fun K "judged" "judged" s_judged f_judged d_judged
  b_judged : Binds K d_judged ["house", "start", "log", "floor"] []
  g_judged : mg "judged" = some (.ref f_judged)
  F_possible : Fun K "possible" "possible" s_possible f_possible d_possible
  b_possible : Binds K d_possible ["known"] []
  g_possible : mg "possible" = some (.ref f_possible)
  F_beginning : Fun K "beginning" "beginning" s_beginning f_beginning d_beginning
  b_beginning : Binds K d_beginning ["house", "start"] []
  g_beginning : mg "beginning" = some (.ref f_beginning)
  F_behind_row : Fun K "behind_row" "behind_row" s_behind_row f_behind_row d_behind_row
  b_behind_row : Binds K d_behind_row ["house", "known", "row"] []
  g_behind_row : mg "behind_row" = some (.ref f_behind_row)
  F_with_floors : Fun K "with_floors" "with_floors" s_with_floors f_with_floors d_with_floors
  b_with_floors : Binds K d_with_floors ["house", "known", "moment", "floors"] []
  g_with_floors : mg "with_floors" = some (.ref f_with_floors)
  F_way_number_of : Fun K "way_number_of" "way_number_of" s_way_number_of f_way_number_of d_way_number_of
  b_way_number_of : Binds K d_way_number_of ["known"] []
  g_way_number_of : mg "way_number_of" = some (.ref f_way_number_of)
  F_floors_of : Fun K "floors_of" "floors_of" s_floors_of f_floors_of d_floors_of
  b_floors_of : Binds K d_floors_of ["known", "moment"] []
  g_floors_of : mg "floors_of" = some (.ref f_floors_of)
  F_check_name : Fun K "check_name" "check_name" s_check_name f_check_name d_check_name
  b_check_name : Binds K d_check_name ["name"] []
  g_check_name : mg "check_name" = some (.ref f_check_name)
  F_served : Fun K "served" "served" s_served f_served d_served
  b_served : Binds K d_served ["house", "rule", "begin", "calls"] []
  g_served : mg "served" = some (.ref f_served)
  F__law_begun : Fun K "_law_begun" "_law_begun" s__law_begun f__law_begun d__law_begun
  b__law_begun : Binds K d__law_begun ["_law_script"] []
  g__law_begun : mg "_law_begun" = some (.ref f__law_begun)
  F__law_take : Fun K "_law_take" "_law_take" s__law_take f__law_take d__law_take
  b__law_take : Binds K d__law_take ["_law_box", "_law_many"] []
  g__law_take : mg "_law_take" = some (.ref f__law_take)
  F__law_house : Fun K "_law_house" "_law_house" s__law_house f__law_house d__law_house
  b__law_house : Binds K d__law_house ["_law_box", "_law_most", "_law_widest"] []
  g__law_house : mg "_law_house" = some (.ref f__law_house)
  F__law_calls : Fun K "_law_calls" "_law_calls" s__law_calls f__law_calls d__law_calls
  b__law_calls : Binds K d__law_calls ["_law_box", "_law_house_here", "_law_most"] []
  g__law_calls : mg "_law_calls" = some (.ref f__law_calls)
  F__law_is_heard : Fun K "_law_is_heard" "_law_is_heard" s__law_is_heard f__law_is_heard d__law_is_heard
  b__law_is_heard : Binds K d__law_is_heard ["_law_house_here", "_law_begin", "_law_lift", "_law_log"] []
  g__law_is_heard : mg "_law_is_heard" = some (.ref f__law_is_heard)
  F_law : Fun K "law" "law" s_law f_law d_law
  b_law : Binds K d_law ["_law_script"] []
  g_law : mg "law" = some (.ref f_law)
  F_House_init : Fun K "__init__" "House.__init__" s_House_init f_House_init d_House_init
  b_House_init : Binds K d_House_init ["self", "gaps", "bells"] []
  F_House_gaps : Fun K "gaps" "House.gaps" s_House_gaps f_House_gaps d_House_gaps
  b_House_gaps : Binds K d_House_gaps ["self"] []
  m_House_gaps : PropOf K C_House "gaps" p_House_gaps f_House_gaps
  F_House_bells : Fun K "bells" "House.bells" s_House_bells f_House_bells d_House_bells
  b_House_bells : Binds K d_House_bells ["self"] []
  m_House_bells : PropOf K C_House "bells" p_House_bells f_House_bells
  F_House_floors : Fun K "floors" "House.floors" s_House_floors f_House_floors d_House_floors
  b_House_floors : Binds K d_House_floors ["self"] []
  m_House_floors : PropOf K C_House "floors" p_House_floors f_House_floors
  F_House_len : Fun K "__len__" "House.__len__" s_House_len f_House_len d_House_len
  b_House_len : Binds K d_House_len ["self"] []
  m_House_len : Meth K C_House "__len__" f_House_len
  F_House_eq : Fun K "__eq__" "House.__eq__" s_House_eq f_House_eq d_House_eq
  b_House_eq : Binds K d_House_eq ["self", "other"] []
  m_House_eq : Meth K C_House "__eq__" f_House_eq
  F_House_seconds : Fun K "seconds" "House.seconds" s_House_seconds f_House_seconds d_House_seconds
  b_House_seconds : Binds K d_House_seconds ["self", "one", "other"] []
  m_House_seconds : Meth K C_House "seconds" f_House_seconds
  F_Control_init : Fun K "__init__" "Control.__init__" s_Control_init f_Control_init d_Control_init
  b_Control_init : Binds K d_Control_init ["self", "house", "rule", "begin"] []
  F_Control_here : Fun K "here" "Control.here" s_Control_here f_Control_here d_Control_here
  b_Control_here : Binds K d_Control_here ["self"] []
  m_Control_here : PropOf K C_Control "here" p_Control_here f_Control_here
  F_Control_clock : Fun K "clock" "Control.clock" s_Control_clock f_Control_clock d_Control_clock
  b_Control_clock : Binds K d_Control_clock ["self"] []
  m_Control_clock : PropOf K C_Control "clock" p_Control_clock f_Control_clock
  F_Control_open_calls : Fun K "open_calls" "Control.open_calls" s_Control_open_calls f_Control_open_calls d_Control_open_calls
  b_Control_open_calls : Binds K d_Control_open_calls ["self"] []
  m_Control_open_calls : PropOf K C_Control "open_calls" p_Control_open_calls f_Control_open_calls
  F_Control_is_up : Fun K "is_up" "Control.is_up" s_Control_is_up f_Control_is_up d_Control_is_up
  b_Control_is_up : Binds K d_Control_is_up ["self"] []
  m_Control_is_up : PropOf K C_Control "is_up" p_Control_is_up f_Control_is_up
  F_Control_call : Fun K "call" "Control.call" s_Control_call f_Control_call d_Control_call
  b_Control_call : Binds K d_Control_call ["self", "floor"] []
  m_Control_call : Meth K C_Control "call" f_Control_call
  F_Control_serve : Fun K "serve" "Control.serve" s_Control_serve f_Control_serve d_Control_serve
  b_Control_serve : Binds K d_Control_serve ["self"] []
  m_Control_serve : Meth K C_Control "serve" f_Control_serve
  F_Control_serve_all : Fun K "serve_all" "Control.serve_all" s_Control_serve_all f_Control_serve_all d_Control_serve_all
  b_Control_serve_all : Binds K d_Control_serve_all ["self"] []
  m_Control_serve_all : Meth K C_Control "serve_all" f_Control_serve_all
  F_Control_heard : Fun K "heard" "Control.heard" s_Control_heard f_Control_heard d_Control_heard
  b_Control_heard : Binds K d_Control_heard ["self"] []
  m_Control_heard : Meth K C_Control "heard" f_Control_heard
  F_Known_init : Fun K "__init__" "Known.__init__" s_Known_init f_Known_init d_Known_init
  b_Known_init : Binds K d_Known_init ["self", "house", "rows", "start", "links"] []
  F_Listener_init : Fun K "__init__" "Listener.__init__" s_Listener_init f_Listener_init d_Listener_init
  b_Listener_init : Binds K d_Listener_init ["self", "house", "start"] []
  F_Listener_log : Fun K "log" "Listener.log" s_Listener_log f_Listener_log d_Listener_log
  b_Listener_log : Binds K d_Listener_log ["self"] []
  m_Listener_log : PropOf K C_Listener "log" p_Listener_log f_Listener_log
  F_Listener_floors : Fun K "floors" "Listener.floors" s_Listener_floors f_Listener_floors d_Listener_floors
  b_Listener_floors : Binds K d_Listener_floors ["self"] []
  m_Listener_floors : PropOf K C_Listener "floors" p_Listener_floors f_Listener_floors
  F_Listener_marks : Fun K "marks" "Listener.marks" s_Listener_marks f_Listener_marks d_Listener_marks
  b_Listener_marks : Binds K d_Listener_marks ["self"] []
  m_Listener_marks : PropOf K C_Listener "marks" p_Listener_marks f_Listener_marks
  F_Listener__add : Fun K "_add" "Listener._add" s_Listener__add f_Listener__add d_Listener__add
  b_Listener__add : Binds K d_Listener__add ["self", "operation", "known"] []
  m_Listener__add : Meth K C_Listener "_add" f_Listener__add
  F_Listener_hear : Fun K "hear" "Listener.hear" s_Listener_hear f_Listener_hear d_Listener_hear
  b_Listener_hear : Binds K d_Listener_hear ["self", "row"] []
  m_Listener_hear : Meth K C_Listener "hear" f_Listener_hear
  F_Listener_told : Fun K "told" "Listener.told" s_Listener_told f_Listener_told d_Listener_told
  b_Listener_told : Binds K d_Listener_told ["self", "moment", "floors"] []
  m_Listener_told : Meth K C_Listener "told" f_Listener_told
  F_Listener_mark : Fun K "mark" "Listener.mark" s_Listener_mark f_Listener_mark d_Listener_mark
  b_Listener_mark : Binds K d_Listener_mark ["self", "name"] []
  m_Listener_mark : Meth K C_Listener "mark" f_Listener_mark
  F_Listener_go : Fun K "go" "Listener.go" s_Listener_go f_Listener_go d_Listener_go
  b_Listener_go : Binds K d_Listener_go ["self", "name"] []
  m_Listener_go : Meth K C_Listener "go" f_Listener_go
  F_Listener__marked : Fun K "_marked" "Listener._marked" s_Listener__marked f_Listener__marked d_Listener__marked
  b_Listener__marked : Binds K d_Listener__marked ["self", "name"] []
  m_Listener__marked : Meth K C_Listener "_marked" f_Listener__marked
  F_Listener__check_moment : Fun K "_check_moment" "Listener._check_moment" s_Listener__check_moment f_Listener__check_moment d_Listener__check_moment
  b_Listener__check_moment : Binds K d_Listener__check_moment ["self", "moment"] []
  m_Listener__check_moment : Meth K C_Listener "_check_moment" f_Listener__check_moment
  F_Listener_floors_then : Fun K "floors_then" "Listener.floors_then" s_Listener_floors_then f_Listener_floors_then d_Listener_floors_then
  b_Listener_floors_then : Binds K d_Listener_floors_then ["self", "moment"] []
  m_Listener_floors_then : Meth K C_Listener "floors_then" f_Listener_floors_then
  F_Listener_way_number : Fun K "way_number" "Listener.way_number" s_Listener_way_number f_Listener_way_number d_Listener_way_number
  b_Listener_way_number : Binds K d_Listener_way_number ["self"] []
  m_Listener_way_number : Meth K C_Listener "way_number" f_Listener_way_number
  g_House : mg "House" = some (.ref C_House)
  c_House : Cls K C_House
  k_House : Mk K C_House f_House_init
  a_House_gaps : NoAttr K C_House "_gaps"
  a_House_bells : NoAttr K C_House "_bells"
  a_House_floors : NoAttr K C_House "_floors"
  g_Control : mg "Control" = some (.ref C_Control)
  c_Control : Cls K C_Control
  k_Control : Mk K C_Control f_Control_init
  a_Control_house : NoAttr K C_Control "_house"
  a_Control_rule : NoAttr K C_Control "_rule"
  a_Control_begin : NoAttr K C_Control "_begin"
  a_Control_stops : NoAttr K C_Control "_stops"
  a_Control_here : NoAttr K C_Control "_here"
  a_Control_clock : NoAttr K C_Control "_clock"
  a_Control_open_calls : NoAttr K C_Control "_open_calls"
  a_Control_is_up : NoAttr K C_Control "_is_up"
  g_Known : mg "Known" = some (.ref C_Known)
  c_Known : Cls K C_Known
  k_Known : Mk K C_Known f_Known_init
  a_Knownrows : NoAttr K C_Known "rows"
  a_Knownstart : NoAttr K C_Known "start"
  a_Knownlinks : NoAttr K C_Known "links"
  a_Knownnumbers : NoAttr K C_Known "numbers"
  g_Listener : mg "Listener" = some (.ref C_Listener)
  c_Listener : Cls K C_Listener
  k_Listener : Mk K C_Listener f_Listener_init
  a_Listener_house : NoAttr K C_Listener "_house"
  a_Listener_operations : NoAttr K C_Listener "_operations"
  a_Listener_known : NoAttr K C_Listener "_known"
  a_Listener_undone : NoAttr K C_Listener "_undone"
  z_len : mg "len" = none
  z_range : mg "range" = none
  z_enumerate : mg "enumerate" = none
  z_zip : mg "zip" = none
  z_min : mg "min" = none
  z_max : mg "max" = none
  z_sum : mg "sum" = none
  z_sorted : mg "sorted" = none
  z_reversed : mg "reversed" = none
  z_int : mg "int" = none
  z_list : mg "list" = none
  z_tuple : mg "tuple" = none
  z_isinstance : mg "isinstance" = none
  z_all : mg "all" = none
  z_ValueError : mg "ValueError" = none
  z_super : mg "super" = none
  v_MOST_GAPS : ∃ t, mg "MOST_GAPS" = some (.int 9 t)
  v_LONGEST_GAP : ∃ t, mg "LONGEST_GAP" = some (.int 9 t)
  v_LONGEST_GO : ∃ t, mg "LONGEST_GO" = some (.int 81 t)
  v_LONGEST_NAME : ∃ t, mg "LONGEST_NAME" = some (.int 8 t)
  cN_nearest : Addr
  PN_nearest : Addr
  N_nearest : LhL.CodeAt K "nearest" "nearest" s_nearest f_nearest d_nearest cN_nearest
  v_RULES : GTup K mg "RULES" ["first", "near", "sweep"]
end K61
namespace K61
open PySem L2 Lh
structure GapsOk (g : List Int) : Prop where
  one : 1 ≤ g.length
  nine : g.length ≤ 9
  each : ∀ x ∈ g, 1 ≤ x ∧ x ≤ 9
abbrev spCheckGaps (K : PySem.W.Frag) : Sp := SpP (α := { g : List Int // GapsOk g }) (fun g => [PD K (.tuple (li g.1))]) (fun _ => PD K .none)
section
variable {K : PySem.W.Frag} {mg : Str → Option Value} {base : Heap} {P : Program} {w : World}
theorem ok_check_gaps (T : Txt K mg) : FnOk P w K mg base CX0 1 T.f_check_gaps T.d_check_gaps ["gaps"] (spCheckGaps K) := by
  refine fn_F T.F_check_gaps sc_check_gaps (fun _ => rfl) fun ⟨g, hg⟩ Z0 Z Q X qX hQ => ?_
  obtain ⟨cdv, A, outer, s, E, rfl, hr⟩ := qX
  obtain ⟨t1, v1⟩ := T.v_MOST_GAPS
  obtain ⟨t2, v2⟩ := T.v_LONGEST_GAP
  refine xs_skip ((xt_notB (xt_truT (xe_var 0))).eq ?_) ?_
  · have h := hg.one
    cases g with
    | nil => simp at h
    | cons x r => rfl
  · refine xs_forP 1 2 (xi_enumT T.z_enumerate (xe_var 0)) (fun _ Γ1 Rs1 => Rs1 = [] ∧ ∃ a b, Γ1 = [some (PD K (.tuple (li g))), a, b]) ⟨rfl, none, none, rfl⟩ ?_ ?_ sc_check_gaps.nd
    · rintro t Qt Γ1 Rs1 hq ⟨rfl, a, b, rfl⟩
      obtain ⟨d, hd, rfl⟩ := enum_at hq
      obtain ⟨n, hn, rfl⟩ := li_at hd
      refine ⟨_, _, rfl, fun Hs => ?_⟩
      have h1 := hg.each n (List.mem_of_getElem? hn)
      have h2 : t < g.length := (List.getElem?_eq_some_iff.mp hn).1
      have h3 := hg.nine
      refine xs_skip ((xt_orB (xt_eqI (xe_var 1) (xe_gint v1)) fun _ => xt_notB (xt_lele (K := K) xe_int (xe_var 2) (xe_gint v2))).eq ?_) ?_
      rotate_left
      · exact xs_turn (fun σ H h => h) ⟨rfl, _, _, rfl⟩
      have : ¬ ((t : Int) = 9) := by omega
      simp [this, h1.1, h1.2]
    · rintro Γ1 Rs1 ⟨rfl, a, b, rfl⟩
      exact xs_nil fun σ H0 H l s b k => hQ _ _ _ s k rfl
end
end K61
namespace K61
open PySem L2 Lh
theorem mem_rgI {x : Int} {n : Nat} : x ∈ rgI 0 n ↔ 0 ≤ x ∧ x < n := by
  unfold rgI
  rw [List.mem_map]
  constructor
  · rintro ⟨i, hi, rfl⟩
    rw [List.mem_range] at hi
    omega
  · rintro ⟨h0, h1⟩
    exact ⟨x.toNat, List.mem_range.mpr (by omega), by omega⟩
/-- ascending floors among fl -/
structure BellsOk (b fl : List Int) : Prop where
  among : ∀ x ∈ b, x ∈ fl
  up : ∀ (t : Nat) (m n : Int), b[t]? = some m → b[t + 1]? = some n → m < n
structure HouseOk (g b : List Int) : Prop where
  gaps : GapsOk g
  bells : BellsOk b (rgI 0 (g.length + 1))
abbrev spCheckBells (K : PySem.W.Frag) : Sp := SpP (α := { p : List Int × List Int // BellsOk p.1 p.2 }) (fun p => [PD K (.tuple (li p.1.1)), PD K (.tuple (li p.1.2))]) (fun _ => PD K .none)
abbrev flds (K : PySem.W.Frag) (g b : List Int) : List (Str × Pd) := [("_floors", PD K (.tuple (li (rgI 0 (g.length + 1))))), ("_bells", PD K (.tuple (li b))), ("_gaps", PD K (.tuple (li g)))]
abbrev PHo (K : PySem.W.Frag) (C : Addr) (g b : List Int) : Pd := PObj C (flds K g b)
theorem atI_prev {ns : List Int} {t : Nat} (h : t < ns.length) : atI (li ns) (((t + 1 : Nat) : Int) - 1) = some (.int ns[t]) := by
  have e : (((t + 1 : Nat) : Int) - 1) = (t : Int) := by omega
  rw [e]
  exact atI_nat (by simp [li, h])
section
variable {K : PySem.W.Frag} {mg : Str → Option Value} {base : Heap} {P : Program} {w : World}
theorem ok_check_bells (T : Txt K mg) : FnOk P w K mg base CX0 1 T.f_check_bells T.d_check_bells ["bells", "floors"] (spCheckBells K) := by
  refine fn_F T.F_check_bells sc_check_bells (fun _ => rfl) fun ⟨⟨bs, fl⟩, hb⟩ Z0 Z Q X qX hQ => ?_
  obtain ⟨cdv, A, outer, s, E, rfl, hr⟩ := qX
  refine xs_forP 2 3 (xi_enumT T.z_enumerate (xe_var 0)) (fun _ Γ1 Rs1 => Rs1 = [] ∧ ∃ a b, Γ1 = [some (PD K (.tuple (li bs))), some (PD K (.tuple (li fl))), a, b]) ⟨rfl, none, none, rfl⟩ ?_ ?_ sc_check_bells.nd
  · rintro t Qt Γ1 Rs1 hq ⟨rfl, a, b, rfl⟩
    obtain ⟨d, hd, rfl⟩ := enum_at hq
    obtain ⟨n, hn, rfl⟩ := li_at hd
    refine ⟨_, _, rfl, fun Hs => ?_⟩
    have h1 := hb.among n (List.mem_of_getElem? hn)
    have hlt : t < bs.length := (List.getElem?_eq_some_iff.mp hn).1
    refine xs_skip (YT.eq (xt_orB (xt_niT (xe_var 3) (xe_var 1)) fun _ => (?_ : XT _ _ _ _ _ (Is false))) (by simp [h1])) (xs_turn (fun σ H h => h) ⟨rfl, _, _, rfl⟩)
    cases t with
    | zero => exact YT.eq (xt_andB (v := false) (xt_gt (K := K) (xe_var 2) xe_int) (fun z => by simp at z)) (by simp)
    | succ t' =>
      have hp : t' < bs.length := by omega
      have h2 := hb.up t' bs[t'] n (List.getElem?_eq_getElem hp) hn
      exact YT.eq (xt_andB (xt_gt (K := K) (xe_var 2) xe_int) (fun _ => xt_le (K := K) (xe_var 3) (xe_ixT (xe_var 0) (xe_sub (xe_var 2) xe_int) (atI_prev hp)))) (by
        have : ¬ n ≤ bs[t'] := by omega
        simp [this])
  · rintro Γ1 Rs1 ⟨rfl, a, b, rfl⟩
    exact xs_nil fun σ H0 H l s b k => hQ _ _ _ s k rfl
abbrev spFld (K : PySem.W.Frag) (C : Addr) (r : List Int × List Int → Pd) : Sp := SpP (α := List Int × List Int) (fun y => [PHo K C y.1 y.2]) r
theorem ok_House_floors (T : Txt K mg) : FnOk P w K mg base CX0 1 T.f_House_floors T.d_House_floors ["self"] (spFld K T.C_House fun y => PD K (.tuple (li (rgI 0 (y.1.length + 1))))) := by
  refine fn_F T.F_House_floors sc_House_floors (fun _ => rfl) fun ⟨g, b⟩ Z0 Z Q X qX hQ => ?_
  obtain ⟨cdv, A, outer, s, E, rfl, hr⟩ := qX
  exact xs_ret (xe_fld (xe_var 0) rfl T.c_House T.a_House_floors) fun v H0 H s k hv => hQ v H0 H s k hv
theorem ok_House_gaps (T : Txt K mg) : FnOk P w K mg base CX0 1 T.f_House_gaps T.d_House_gaps ["self"] (spFld K T.C_House fun y => PD K (.tuple (li y.1))) := by
  refine fn_F T.F_House_gaps sc_House_gaps (fun _ => rfl) fun ⟨g, b⟩ Z0 Z Q X qX hQ => ?_
  obtain ⟨cdv, A, outer, s, E, rfl, hr⟩ := qX
  exact xs_ret (xe_fld (xe_var 0) rfl T.c_House T.a_House_gaps) fun v H0 H s k hv => hQ v H0 H s k hv
theorem ok_House_bells (T : Txt K mg) : FnOk P w K mg base CX0 1 T.f_House_bells T.d_House_bells ["self"] (spFld K T.C_House fun y => PD K (.tuple (li y.2))) := by
  refine fn_F T.F_House_bells sc_House_bells (fun _ => rfl) fun ⟨g, b⟩ Z0 Z Q X qX hQ => ?_
  obtain ⟨cdv, A, outer, s, E, rfl, hr⟩ := qX
  exact xs_ret (xe_fld (xe_var 0) rfl T.c_House T.a_House_bells) fun v H0 H s k hv => hQ v H0 H s k hv
theorem ok_House_len (T : Txt K mg) : FnOk P w K mg base CX0 1 T.f_House_len T.d_House_len ["self"] (spFld K T.C_House fun y => PD K (.int ((y.1.length : Int) + 1))) := by
  refine fn_F T.F_House_len sc_House_len (fun _ => rfl) fun ⟨g, b⟩ Z0 Z Q X qX hQ => ?_
  obtain ⟨cdv, A, outer, s, E, rfl, hr⟩ := qX
  refine xs_ret (YE.to (xe_lenT T.z_len (xe_fld (xe_var 0) rfl T.c_House T.a_House_floors)) ?_) fun v H0 H s k hv => hQ v H0 H s k hv
  simp [li, rgI_len]
  rfl
/-- a house of this class -/
abbrev spCheckFloors (K : PySem.W.Frag) (C : Addr) : Sp := SpP (α := { p : (List Int × List Int) × List Int // ∀ x ∈ p.2, 0 ≤ x ∧ x ≤ p.1.1.length }) (fun p => [PHo K C p.1.1.1 p.1.1.2, PD K (.tuple (li p.1.2))]) (fun _ => PD K .none)
theorem ok_check_floors (T : Txt K mg) : FnOk P w K mg base CX0 3 T.f_check_floors T.d_check_floors ["house", "floors"] (spCheckFloors K T.C_House) := by
  refine fn_F T.F_check_floors sc_check_floors (fun _ => rfl) fun ⟨⟨⟨g, b⟩, fl⟩, hf⟩ Z0 Z Q X qX hQ => ?_
  obtain ⟨cdv, A, outer, s, E, rfl, hr⟩ := qX
  refine xs_forN 2 (xi_tup (xe_var 1)) (fun _ Γ1 Rs1 => Rs1 = [] ∧ ∃ a, Γ1 = [some (PHo K T.C_House g b), some (PD K (.tuple (li fl))), a]) ⟨rfl, none, rfl⟩ ?_ ?_ sc_check_floors.nd
  · rintro t Qt Γ1 Rs1 hq ⟨rfl, a, rfl⟩ Hs
    obtain ⟨d, hd, rfl⟩ := map_at hq
    obtain ⟨n, hn, rfl⟩ := li_at hd
    have h1 : 0 ≤ n ∧ n ≤ g.length := hf n (List.mem_of_getElem? hn)
    refine xs_skip (YT.eq (xt_niT (xe_var 2) (xe_prop (ok_House_floors T) (g, b) (xe_var 0) rfl T.c_House T.m_House_floors hr T.b_House_floors)) ?_) (xs_turn (fun σ H h => h) ⟨rfl, _, rfl⟩)
    have : n ∈ rgI 0 (g.length + 1) := mem_rgI.mpr (by omega)
    simp [this]
  · rintro Γ1 Rs1 ⟨rfl, a, rfl⟩
    exact xs_nil fun σ H0 H l s b k => hQ _ _ _ s k rfl
/-- the seconds between two floors -/
def far (g : List Int) (i j : Int) : Int := ((g.drop (min i j).toNat).take ((max i j).toNat - (min i j).toNat)).sum
abbrev spSeconds (K : PySem.W.Frag) (C : Addr) : Sp := SpP (α := { p : (List Int × List Int) × Int × Int // (0 ≤ p.2.1 ∧ p.2.1 ≤ p.1.1.length) ∧ 0 ≤ p.2.2 ∧ p.2.2 ≤ p.1.1.length }) (fun p => [PHo K C p.1.1.1 p.1.1.2, PD K (.int p.1.2.1), PD K (.int p.1.2.2)]) (fun p => PD K (.int (far p.1.1.1 p.1.2.1 p.1.2.2)))
theorem li_cut (g : List Int) (i j : Nat) : ((li g).drop i).take j = li ((g.drop i).take j) := by
  simp [li, List.map_drop, List.map_take]
theorem ok_House_seconds (T : Txt K mg) : FnOk P w K mg base CX0 4 T.f_House_seconds T.d_House_seconds ["self", "one", "other"] (spSeconds K T.C_House) := by
  refine fn_F T.F_House_seconds sc_House_seconds (fun _ => rfl) fun ⟨⟨⟨g, b⟩, i, j⟩, hi, hj⟩ Z0 Z Q X qX hQ => ?_
  obtain ⟨cdv, A, outer, s, E, rfl, hr⟩ := qX
  have hi' : 0 ≤ i ∧ i ≤ g.length := hi
  have hj' : 0 ≤ j ∧ j ≤ g.length := hj
  have h0 : 0 ≤ min i j := by omega
  have h1 : 0 ≤ max i j := by omega
  refine xs_expr (xe_callD (ok_check_floors T) ⟨((g, b), [i, j]), ?_⟩ hr T.g_check_floors T.F_check_floors.kp T.b_check_floors (xa_cons (xe_var 0) (xa_1 (xe_tup (ds := [.int i, .int j]) (xa_cons (xe_var 1) (xa_1 (xe_var 2))) (by simp))))) ?_
  · intro x hx
    have e : x = i ∨ x = j := by simpa using hx
    rcases e with rfl | rfl
    · exact hi
    · exact hj
  · refine xs_ret (xe_sumT T.z_sum (YE.to (xe_slT2 (xe_fld (xe_var 0) rfl T.c_House T.a_House_gaps) (xe_min2 T.z_min (xe_var 1) (xe_var 2)) (xe_max2 T.z_max (xe_var 1) (xe_var 2)) h0 h1) (by rw [li_cut]))) fun v H0 H s k hv => hQ v H0 H s k hv
abbrev spHouse (K : PySem.W.Frag) (C : Addr) : Sp := SpI C (α := { p : List Int × List Int // HouseOk p.1 p.2 }) (fun p => [PD K (.tuple (li p.1.1)), PD K (.tuple (li p.1.2))]) (fun p => flds K p.1.1 p.1.2)
theorem ok_House_init (T : Txt K mg) : FnOk P w K mg base CX0 2 T.f_House_init T.d_House_init ["self", "gaps", "bells"] (spHouse K T.C_House) := by
  refine fn_I T.F_House_init sc_House_init (fun _ => rfl) fun ⟨⟨g, bs⟩, hh⟩ o dx Z0 Z Q X qX hZ hQ => ?_
  obtain ⟨cdv, A, outer, s, E, rfl, hr⟩ := qX
  have h9 : g.length ≤ 9 := hh.gaps.nine
  refine xs_asg 3 (YE.to (P' := PD K (.tuple (li (rgI 0 (g.length + 1))))) (xe_tupRg T.z_tuple T.z_range (xe_add (xe_lenT T.z_len (xe_var 1)) xe_int) (by simp [li]; omega)) (by
    have e : ((li g).length : Int) + 1 = ((g.length + 1 : Nat) : Int) := by simp [li]
    rw [e]
    rfl)) ?_ sc_House_init.nd
  refine xs_expr (xe_callD (ok_check_gaps T) ⟨g, hh.gaps⟩ (hr.mono (by decide)) T.g_check_gaps T.F_check_gaps.kp T.b_check_gaps (xa_1 (xe_var 1))) ?_
  refine xs_expr (xe_callD (ok_check_bells T) ⟨(bs, rgI 0 (g.length + 1)), hh.bells⟩ (hr.mono (by decide)) T.g_check_bells T.F_check_bells.kp T.b_check_bells (xa_cons (xe_var 2) (xa_1 (xe_var 3)))) ?_
  refine xs_fld (xe_var 0) (xe_tupT T.z_tuple (xe_var 1)) T.c_House T.a_House_gaps (by simp) rfl (fun _ _ _ _ => hZ) ?_
  refine xs_fld (xe_var 0) (xe_tupT T.z_tuple (xe_var 2)) T.c_House T.a_House_bells (by simp) rfl (fun _ _ _ _ => hZ) ?_
  refine xs_fld (xe_var 0) (xe_var 3) T.c_House T.a_House_floors (by simp) rfl (fun _ _ _ _ => hZ) ?_
  exact xs_nil fun σ H0 H l s b k => hQ _ _ s k
end
end K61
namespace K61
open PySem L2 Lh
inductive Row where
  | go (s : Int) | bell (r : Bool) | door | look (l : List Int) | gap
def Row.ds : Row → List PyData
  | .go s => [.str "go", .int s]
  | .bell r => [.str "bell", .bool r]
  | .door => [.str "door"]
  | .look l => [.str "look", .tuple (li l)]
  | .gap => [.str "gap"]
def Row.kind : Row → Str
  | .go _ => "go"
  | .bell _ => "bell"
  | .door => "door"
  | .look _ => "look"
  | .gap => "gap"
def Row.Ok (g : List Int) : Row → Prop
  | .go s => 1 ≤ s ∧ s ≤ 81
  | .look l => (∀ x ∈ l, 0 ≤ x ∧ x ≤ g.length) ∧ l.length ≤ 1000
  | _ => True
theorem Row.k0 (r : Row) : atI r.ds 0 = some (.str r.kind) := by cases r <;> rfl
theorem Row.is_go {r : Row} (h : r.kind = "go") : ∃ s, r = .go s := by
  cases r with
  | go s => exact ⟨s, rfl⟩
  | bell _ => exact absurd h (show ¬ (("bell" : Str) = "go") by decide +kernel)
  | door  => exact absurd h (show ¬ (("door" : Str) = "go") by decide +kernel)
  | look _ => exact absurd h (show ¬ (("look" : Str) = "go") by decide +kernel)
  | gap  => exact absurd h (show ¬ (("gap" : Str) = "go") by decide +kernel)
theorem Row.is_look {r : Row} (h : r.kind = "look") : ∃ l, r = .look l := by
  cases r with
  | go _ => exact absurd h (show ¬ (("go" : Str) = "look") by decide +kernel)
  | bell _ => exact absurd h (show ¬ (("bell" : Str) = "look") by decide +kernel)
  | door  => exact absurd h (show ¬ (("door" : Str) = "look") by decide +kernel)
  | look l => exact ⟨l, rfl⟩
  | gap  => exact absurd h (show ¬ (("gap" : Str) = "look") by decide +kernel)
theorem Row.is_bell {r : Row} (h : r.kind = "bell") : ∃ b, r = .bell b := by
  cases r with
  | go _ => exact absurd h (show ¬ (("go" : Str) = "bell") by decide +kernel)
  | bell b => exact ⟨b, rfl⟩
  | door  => exact absurd h (show ¬ (("door" : Str) = "bell") by decide +kernel)
  | look _ => exact absurd h (show ¬ (("look" : Str) = "bell") by decide +kernel)
  | gap  => exact absurd h (show ¬ (("gap" : Str) = "bell") by decide +kernel)
theorem Row.is_gap {r : Row} (h : r.kind = "gap") : r = .gap := by
  cases r with
  | go _ => exact absurd h (show ¬ (("go" : Str) = "gap") by decide +kernel)
  | bell _ => exact absurd h (show ¬ (("bell" : Str) = "gap") by decide +kernel)
  | door  => exact absurd h (show ¬ (("door" : Str) = "gap") by decide +kernel)
  | look _ => exact absurd h (show ¬ (("look" : Str) = "gap") by decide +kernel)
  | gap  => exact rfl
/-- the floors to which a row leads -/
def nextF (g b : List Int) : Row → Int → List Int
  | .go s, f => (rgI 0 (g.length + 1)).filter fun o => decide (far g f o = s)
  | .gap, _ => rgI 0 (g.length + 1)
  | .bell r, f => if decide (f ∈ b) = r then [f] else []
  | .look l, f => if f ∈ l then [f] else []
  | .door, f => [f]
theorem fl_in {g : List Int} {n : Int} (h : n ∈ rgI 0 (g.length + 1)) : 0 ≤ n ∧ n ≤ g.length := by
  have := mem_rgI.mp h
  omega
abbrev spIsRow (K : PySem.W.Frag) (C : Addr) : Sp := SpP (α := { p : (List Int × List Int) × Row // p.2.Ok p.1.1 ∧ p.1.1.length ≤ 9 }) (fun p => [PHo K C p.1.1.1 p.1.1.2, PD K (.tuple p.1.2.ds)]) (fun _ => PD K (.bool true))
section
variable {K : PySem.W.Frag} {mg : Str → Option Value} {base : Heap} {P : Program} {w : World}
theorem ok_is_row_of (T : Txt K mg) : FnOk P w K mg base CX0 3 T.f_is_row_of T.d_is_row_of ["house", "row"] (spIsRow K T.C_House) := by
  refine fn_F T.F_is_row_of sc_is_row_of (fun _ => rfl) fun ⟨⟨⟨g, b⟩, r⟩, hr0, hg9⟩ Z0 Z Q X qX hQ => ?_
  obtain ⟨cdv, A, outer, s, E, rfl, hr⟩ := qX
  obtain ⟨t1, v1⟩ := T.v_LONGEST_GO
  have hok : r.Ok g := hr0
  refine xs_if (xt_eqS (K := K) (xe_ixT (xe_var 1) xe_int r.k0) xe_str) (fun hb => ?_) fun _ => xs_then ?_
  · obtain ⟨s, rfl⟩ := Row.is_go (of_decide_eq_true hb.symm)
    refine xs_ret (YE.dat (xe_lele (K := K) xe_int (xe_ixT (xe_var 1) xe_int rfl) (xe_gint v1)) ?_) fun v H0 H s k hv => hQ v H0 H s k hv
    have h : 1 ≤ s ∧ s ≤ 81 := hok
    simp [h.1, h.2]
  refine xs_if (xt_eqS (K := K) (xe_ixT (xe_var 1) xe_int r.k0) xe_str) (fun hb => ?_) fun _ => xs_then ?_
  · obtain ⟨l, rfl⟩ := Row.is_look (of_decide_eq_true hb.symm)
    have h : (∀ x ∈ l, 0 ≤ x ∧ x ≤ g.length) ∧ l.length ≤ 1000 := hok
    refine xs_ret (YE.dat (xe_allL (bs := l.map fun n => decide (n ∈ rgI 0 (g.length + 1))) T.z_all (YE.dat (xe_mapI 2 (fun n => .bool (decide (n ∈ rgI 0 (g.length + 1)))) (xi_tup (xe_ixT (xe_var 1) xe_int rfl)) (fun n hn s0 H0 C cl fp => xe_inT (xe_var 2) (xe_prop (ok_House_floors T) (g, b) (xe_var 0) rfl T.c_House T.m_House_floors (hr.mono (by decide)) T.b_House_floors))
      sc_is_row_of.nd (blkOk_by (own := [("floor", 2)]) (N := n_is_row_of) (sc := defScope s_is_row_of) (by decide +kernel)) (by omega) cov0 (fun _ _ _ _ _ => pg_name (i := 2) sc_is_row_of.nd rfl (Or.inl rfl))) ?_)) ?_) fun v H0 H s k hv => hQ v H0 H s k hv
    · rw [List.map_map]
      rfl
    · have e : (l.map fun n => decide (n ∈ rgI 0 (g.length + 1))).all id = true := by
        rw [List.all_map, List.all_eq_true]
        intro x hx
        have := h.1 x hx
        exact decide_eq_true (mem_rgI.mpr (by omega))
      rw [e]
  exact xs_ret (xe_bl (K := K)) fun v H0 H s k hv => hQ v H0 H s k hv
abbrev logD (rows : List Row) : PyData := .list (rows.map fun r => .tuple r.ds)
abbrev spCheckLog (K : PySem.W.Frag) (C : Addr) : Sp := SpP (α := { p : (List Int × List Int) × List Row // (∀ r ∈ p.2, r.Ok p.1.1) ∧ p.1.1.length ≤ 9 }) (fun p => [PHo K C p.1.1.1 p.1.1.2, PD K (logD p.1.2)]) (fun _ => PD K .none)
theorem row_at {rows : List Row} {t : Nat} {d : PyData} (h : (rows.map fun r => PyData.tuple r.ds)[t]? = some d) : ∃ r, rows[t]? = some r ∧ d = .tuple r.ds := by
  rw [List.getElem?_map] at h
  cases e : rows[t]? with
  | none =>
    rw [e] at h
    cases h
  | some n =>
    rw [e] at h
    exact ⟨n, rfl, (Option.some.inj h).symm⟩
theorem ok_check_log (T : Txt K mg) : FnOk P w K mg base CX0 4 T.f_check_log T.d_check_log ["house", "log"] (spCheckLog K T.C_House) := by
  refine fn_F T.F_check_log sc_check_log (fun _ => rfl) fun ⟨⟨⟨g, b⟩, rows⟩, hok, h9⟩ Z0 Z Q X qX hQ => ?_
  obtain ⟨cdv, A, outer, s, E, rfl, hr⟩ := qX
  refine xs_forP 2 3 (xi_enum T.z_enumerate (xe_var 1)) (fun _ Γ1 Rs1 => Rs1 = [] ∧ ∃ x y, Γ1 = [some (PHo K T.C_House g b), some (PD K (logD rows)), x, y]) ⟨rfl, none, none, rfl⟩ ?_ ?_ sc_check_log.nd
  · rintro t Qt Γ1 Rs1 hq ⟨rfl, x, y, rfl⟩
    obtain ⟨d, hd, rfl⟩ := enum_at hq
    obtain ⟨r, hn, rfl⟩ := row_at hd
    refine ⟨_, _, rfl, fun Hs => ?_⟩
    refine xs_skip (YT.eq (xt_notB (xt_bool (xe_callD (ok_is_row_of T) ⟨((g, b), r), hok r (List.mem_of_getElem? hn), h9⟩ hr T.g_is_row_of T.F_is_row_of.kp T.b_is_row_of (xa_cons (xe_var 0) (xa_1 (xe_var 3)))))) rfl) (xs_turn (fun σ H h => h) ⟨rfl, _, _, rfl⟩)
  · rintro Γ1 Rs1 ⟨rfl, x, y, rfl⟩
    exact xs_nil fun σ H0 H l s b k => hQ _ _ _ s k rfl
abbrev spCheckHearing (K : PySem.W.Frag) (C : Addr) : Sp := SpP (α := { p : (List Int × List Int) × List Int × List Row // (∀ r ∈ p.2.2, r.Ok p.1.1) ∧ p.1.1.length ≤ 9 ∧ ∀ x ∈ p.2.1, 0 ≤ x ∧ x ≤ p.1.1.length }) (fun p => [PHo K C p.1.1.1 p.1.1.2, PD K (.tuple (li p.1.2.1)), PD K (logD p.1.2.2)]) (fun _ => PD K .none)
theorem ok_check_hearing (T : Txt K mg) : FnOk P w K mg base CX0 5 T.f_check_hearing T.d_check_hearing ["house", "start", "log"] (spCheckHearing K T.C_House) := by
  refine fn_F T.F_check_hearing sc_check_hearing (fun _ => rfl) fun ⟨⟨⟨g, b⟩, st, rows⟩, hok, h9, hst⟩ Z0 Z Q X qX hQ => ?_
  obtain ⟨cdv, A, outer, s, E, rfl, hr⟩ := qX
  refine xs_expr (xe_callD (ok_check_floors T) ⟨((g, b), st), hst⟩ (hr.mono (by decide)) T.g_check_floors T.F_check_floors.kp T.b_check_floors (xa_cons (xe_var 0) (xa_1 (xe_var 1)))) ?_
  refine xs_expr (xe_callD (ok_check_log T) ⟨((g, b), rows), hok, h9⟩ hr T.g_check_log T.F_check_log.kp T.b_check_log (xa_cons (xe_var 0) (xa_1 (xe_var 2)))) ?_
  exact xs_nil fun σ H0 H l s b k => hQ _ _ _ s k rfl
abbrev spNext (K : PySem.W.Frag) (C : Addr) : Sp := SpP (α := { p : (List Int × List Int) × Row × Int // (0 ≤ p.2.2 ∧ p.2.2 ≤ p.1.1.length) ∧ p.1.1.length ≤ 9 }) (fun p => [PHo K C p.1.1.1 p.1.1.2, PD K (.tuple p.1.2.1.ds), PD K (.int p.1.2.2)]) (fun p => PD K (.list (li (nextF p.1.1.1 p.1.1.2 p.1.2.1 p.1.2.2))))
theorem ok_next_floors (T : Txt K mg) : FnOk P w K mg base CX0 5 T.f_next_floors T.d_next_floors ["house", "row", "floor"] (spNext K T.C_House) := by
  refine fn_F T.F_next_floors sc_next_floors (fun _ => rfl) fun ⟨⟨⟨g, b⟩, r, f⟩, hf, h9⟩ Z0 Z Q X qX hQ => ?_
  obtain ⟨cdv, A, outer, s, E, rfl, hr⟩ := qX
  have hf' : 0 ≤ f ∧ f ≤ g.length := hf
  have h9' : g.length ≤ 9 := h9
  refine xs_asg 3 (xe_ixT (xe_var 1) xe_int r.k0) ?_ sc_next_floors.nd
  refine xs_if (xt_eqS (K := K) (xe_var 3) xe_str) (fun hb => ?_) fun hA => xs_then ?_
  · obtain ⟨s, rfl⟩ := Row.is_go (of_decide_eq_true hb.symm)
    refine xs_ret (xe_filtI 4 (fun n => .int n) (fun o => decide (far g f o = s)) (xi_tup (xe_prop (ok_House_floors T) (g, b) (xe_var 0) rfl T.c_House T.m_House_floors (hr.mono (by decide)) T.b_House_floors))
      (fun n hn s0 H0 C cl fp => by
        refine xt_eqI (K := K) (i := far g f n) (j := s) ?_ ?_
        · exact xe_meth (ok_House_seconds T) ⟨((g, b), f, n), hf', fl_in hn⟩ (xe_var 0) (xa_cons (xe_var 2) (xa_1 (xe_var 4))) rfl rfl T.c_House T.m_House_seconds hr T.b_House_seconds
        · exact xe_ixT (xe_var 1) xe_int rfl)
      (fun n hn _ s0 H0 C cl fp => xe_var 4) sc_next_floors.nd (blkOk_by (own := [("other", 4)]) (N := n_next_floors) (sc := defScope s_next_floors) (by decide +kernel)) (by simp only [rgI_len]; omega) cov0 (fun _ _ _ _ _ => pg_name (i := 4) sc_next_floors.nd rfl (Or.inl rfl))) fun v H0 H s k hv => hQ v H0 H s k hv
  refine xs_if (xt_eqS (K := K) (xe_var 3) xe_str) (fun hb => ?_) fun hB => xs_then ?_
  · obtain rfl := Row.is_gap (of_decide_eq_true hb.symm)
    exact xs_ret (xe_listT T.z_list (xe_prop (ok_House_floors T) (g, b) (xe_var 0) rfl T.c_House T.m_House_floors (hr.mono (by decide)) T.b_House_floors)) fun v H0 H s k hv => hQ v H0 H s k hv
  refine xs_if (B := Is (match r with | .bell u => !decide (decide (f ∈ b) = u) | _ => false)) ?_ (fun hb => ?_) fun hb1 => xs_then ?_
  · refine YT.eq (xt_andB (v := (match r with | .bell u => !decide (decide (f ∈ b) = u) | _ => false)) (xt_eqS (K := K) (xe_var 3) xe_str) fun hb => ?_) ?_
    · obtain ⟨u, rfl⟩ := Row.is_bell (of_decide_eq_true hb)
      exact xt_neB (K := K) (xe_inT (xe_var 2) (xe_prop (ok_House_bells T) (g, b) (xe_var 0) rfl T.c_House T.m_House_bells (hr.mono (by decide)) T.b_House_bells)) (xe_ixT (xe_var 1) xe_int rfl)
    · cases r <;> simp [Row.kind]
  · cases r with
    | bell u =>
      have e : (!decide (decide (f ∈ b) = u)) = true := hb.symm
      refine xs_ret (YE.dat (xe_lst (ds := []) xa_nil (by simp)) ?_) fun v H0 H s k hv => hQ v H0 H s k hv
      have e2 : ¬ (decide (f ∈ b) = u) := by simpa using e
      show PyData.list [] = .list (li (if decide (f ∈ b) = u then [f] else []))
      rw [if_neg e2]
      rfl
    | go _ => exact Bool.noConfusion (show true = false from hb)
    | look _ => exact Bool.noConfusion (show true = false from hb)
    | door => exact Bool.noConfusion (show true = false from hb)
    | gap => exact Bool.noConfusion (show true = false from hb)
  refine xs_if (B := Is (match r with | .look l => !decide (f ∈ l) | _ => false)) ?_ (fun hb => ?_) fun hb2 => xs_then ?_
  · refine YT.eq (xt_andB (v := (match r with | .look l => !decide (f ∈ l) | _ => false)) (xt_eqS (K := K) (xe_var 3) xe_str) fun hb => ?_) ?_
    · obtain ⟨l, rfl⟩ := Row.is_look (of_decide_eq_true hb)
      exact xt_niT (xe_var 2) (xe_ixT (xe_var 1) xe_int rfl)
    · cases r <;> simp [Row.kind]
  · cases r with
    | look l =>
      have e : (!decide (f ∈ l)) = true := hb.symm
      refine xs_ret (YE.dat (xe_lst (ds := []) xa_nil (by simp)) ?_) fun v H0 H s k hv => hQ v H0 H s k hv
      have e2 : ¬ f ∈ l := by simpa using e
      show PyData.list [] = .list (li (if f ∈ l then [f] else []))
      rw [if_neg e2]
      rfl
    | go _ => exact Bool.noConfusion (show true = false from hb)
    | bell _ => exact Bool.noConfusion (show true = false from hb)
    | door => exact Bool.noConfusion (show true = false from hb)
    | gap => exact Bool.noConfusion (show true = false from hb)
  refine xs_ret (YE.dat (xe_lst (ds := [.int f]) (xa_1 (xe_var 2)) (by simp)) ?_) fun v H0 H s k hv => hQ v H0 H s k hv
  show PyData.list (li [f]) = .list (li (nextF g b r f))
  cases r with
  | go _ => exact absurd hA (by
      show ¬ (false = decide (("go" : Str) = "go"))
      decide +kernel)
  | gap => exact absurd hB (by
      show ¬ (false = decide (("gap" : Str) = "gap"))
      decide +kernel)
  | door => rfl
  | bell u =>
    have e : false = (!decide (decide (f ∈ b) = u)) := hb1
    have e2 : decide (f ∈ b) = u := by simpa using e
    show _ = PyData.list (li (if decide (f ∈ b) = u then [f] else []))
    rw [if_pos e2]
  | look l =>
    have e : false = (!decide (f ∈ l)) := hb2
    have e2 : f ∈ l := by simpa using e
    show _ = PyData.list (li (if f ∈ l then [f] else []))
    rw [if_pos e2]
end
end K61
namespace K61
open PySem L2 Lh
abbrev eL (es : List Int) : PyData := .list (li es)
abbrev eLL (l : List (List Int)) : PyData := .list (l.map eL)
abbrev eLLL (l : List (List (List Int))) : PyData := .list (l.map eLL)
def gtI (v : List Int) (i : Int) : Int := v.getD i.toNat 0
theorem atI_ints {v : List Int} {i : Int} (h0 : 0 ≤ i) (h1 : i < v.length) : atI (li v) i = some (.int (gtI v i)) := by
  have hlt : i.toNat < v.length := by omega
  have e : i = (i.toNat : Int) := by omega
  have q : (li v)[i.toNat]? = some (.int (gtI v i)) := by simp [li, gtI, hlt]
  have r := atI_nat q
  rw [← e] at r
  exact r
def sumAt (v fl : List Int) : Int := (fl.map fun f => gtI v f).sum
def linksM (g b : List Int) (rows : List Row) : List (List (List Int)) := rows.map fun r => (rgI 0 (g.length + 1)).map fun f => nextF g b r f
def stepM (l : List (List Int)) (beh : List Int) : List Int := l.map fun es => sumAt beh es
def numsM (n : Nat) : List (List (List Int)) → List (List Int)
  | [] => [List.replicate n 1]
  | l :: ls => stepM l ((numsM n ls).headD []) :: numsM n ls
theorem numsM_cons (n : Nat) (ls : List (List (List Int))) : ∃ r, numsM n ls = (numsM n ls).headD [] :: r := by
  cases ls with
  | nil => exact ⟨[], rfl⟩
  | cons l ls => exact ⟨_, rfl⟩
theorem numsM_len (n : Nat) : ∀ ls, (numsM n ls).length = ls.length + 1
  | [] => rfl
  | l :: ls => by
    show (numsM n ls).length + 1 = _
    rw [numsM_len n ls]
    rfl
structure LinksOk (n : Nat) (ls : List (List (List Int))) : Prop where
  size : ls.length ≤ 1000
  wide : ∀ l ∈ ls, l.length = n
  ends : ∀ l ∈ ls, ∀ es ∈ l, es.length ≤ n ∧ ∀ e ∈ es, 0 ≤ e ∧ e < (n : Int)
theorem numsM_wide {n : Nat} : ∀ {ls : List (List (List Int))}, (∀ l ∈ ls, l.length = n) → ∀ v ∈ numsM n ls, v.length = n
  | [], _, v, hv => by
    have e : v = List.replicate n 1 := by simpa [numsM] using hv
    rw [e, List.length_replicate]
  | l :: ls, h, v, hv => by
    rcases List.mem_cons.mp hv with e | hv
    · rw [e]
      show (l.map _).length = n
      rw [List.length_map]
      exact h l List.mem_cons_self
    · exact numsM_wide (fun l hl => h l (List.mem_cons_of_mem _ hl)) v hv
theorem head_wide {n : Nat} {ls : List (List (List Int))} (h : ∀ l ∈ ls, l.length = n) : ((numsM n ls).headD []).length = n := by
  obtain ⟨r, e⟩ := numsM_cons n ls
  exact numsM_wide h _ (by rw [e]; exact List.mem_cons_self)
theorem rep_one {α : Type} (a : α) : ∀ n : Nat, (List.replicate n [a]).flatten = List.replicate n a
  | 0 => rfl
  | n + 1 => by
    rw [List.replicate_succ, List.flatten_cons, rep_one a n]
    rfl
theorem nextF_in {g b : List Int} {r : Row} {f e : Int} (hf : 0 ≤ f ∧ f ≤ g.length) (h : e ∈ nextF g b r f) : 0 ≤ e ∧ e ≤ g.length := by
  cases r with
  | go s =>
    have := (List.mem_filter.mp h).1
    exact fl_in this
  | gap => exact fl_in h
  | door =>
    have e2 : e = f := by simpa [nextF] using h
    subst e2
    exact hf
  | bell u =>
    have h' : e ∈ (if decide (f ∈ b) = u then [f] else []) := h
    split at h'
    · have e2 : e = f := by simpa using h'
      subst e2
      exact hf
    · cases h'
  | look l =>
    have h' : e ∈ (if f ∈ l then [f] else []) := h
    split at h'
    · have e2 : e = f := by simpa using h'
      subst e2
      exact hf
    · cases h'
theorem nextF_len {g b : List Int} {r : Row} {f : Int} : (nextF g b r f).length ≤ g.length + 1 := by
  cases r with
  | go s => exact Nat.le_trans (List.length_filter_le _ _) (by rw [rgI_len]; exact Nat.le_refl _)
  | gap => exact Nat.le_of_eq rgI_len
  | door => simp [nextF]
  | bell u =>
    show (if decide (f ∈ b) = u then [f] else []).length ≤ _
    split <;> simp
  | look l =>
    show (if f ∈ l then [f] else []).length ≤ _
    split <;> simp
theorem linksM_ok {g b : List Int} {rows : List Row} (h : rows.length ≤ 1000) : LinksOk (g.length + 1) (linksM g b rows) where
  size := by
    unfold linksM
    rw [List.length_map]
    exact h
  wide := fun l hl => by
    obtain ⟨r, _, rfl⟩ := List.mem_map.mp hl
    rw [List.length_map, rgI_len]
  ends := fun l hl es he => by
    obtain ⟨r, _, rfl⟩ := List.mem_map.mp hl
    obtain ⟨f, hf, rfl⟩ := List.mem_map.mp he
    refine ⟨nextF_len, fun e h => ?_⟩
    have := nextF_in (fl_in hf) h
    omega
section
variable {K : PySem.W.Frag} {mg : Str → Option Value} {base : Heap} {P : Program} {w : World}
abbrev spLinks (K : PySem.W.Frag) (C : Addr) : Sp := SpP (α := { p : (List Int × List Int) × List Row // p.1.1.length ≤ 9 ∧ p.2.length ≤ 1000 }) (fun p => [PHo K C p.1.1.1 p.1.1.2, PD K (logD p.1.2)]) (fun p => PD K (eLLL (linksM p.1.1.1 p.1.1.2 p.1.2)))
theorem ok_links_of (T : Txt K mg) : FnOk P w K mg base CX0 6 T.f_links_of T.d_links_of ["house", "log"] (spLinks K T.C_House) := by
  refine fn_F T.F_links_of sc_links_of (fun _ => rfl) fun ⟨⟨⟨g, b⟩, rows⟩, h9, hlen⟩ Z0 Z Q X qX hQ => ?_
  obtain ⟨cdv, A, outer, s, E, rfl, hr⟩ := qX
  have h9' : g.length ≤ 9 := h9
  have hlen' : rows.length ≤ 1000 := hlen
  refine xs_ret (YE.dat (xe_mapG (fun r : Row => PyData.tuple r.ds) rows 3 (fun r => eLL ((rgI 0 (g.length + 1)).map fun f => nextF g b r f)) (xi_list (xe_var 1)) (fun r hr' s0 H0 C cl fp => by
      refine YE.dat (xe_mapI 2 (fun f => eL (nextF g b r f)) (xi_tup (xe_prop (ok_House_floors T) (g, b) (xe_var 0) rfl T.c_House T.m_House_floors (hr.mono (by decide)) T.b_House_floors)) (fun n hn s1 H1 C1 cl1 fp1 => by
          exact xe_callD (ok_next_floors T) ⟨((g, b), r, n), fl_in hn, h9⟩ hr T.g_next_floors T.F_next_floors.kp T.b_next_floors (xa_cons (xe_var 0) (xa_cons (xe_var 3) (xa_1 (xe_var 2))))) sc_links_of.nd
        (blkOk_by rfl) (by simp only [rgI_len]; omega) cov0 (fun _ _ _ _ _ => pg_name (i := 2) sc_links_of.nd rfl (Or.inl rfl))) ?_
      show PyData.list _ = PyData.list _
      rw [List.map_map]
      rfl) sc_links_of.nd (blkOk_by rfl) (by omega) cov0 (fun _ _ _ _ _ => pg_name (i := 3) sc_links_of.nd rfl (Or.inr rfl))) ?_) fun v H0 H s k hv => hQ v H0 H s k hv
  show PyData.list _ = PyData.list _
  rw [show linksM g b rows = rows.map fun r => (rgI 0 (g.length + 1)).map fun f => nextF g b r f from rfl, List.map_map]
  rfl
abbrev spNums (K : PySem.W.Frag) (C : Addr) : Sp := SpP (α := { p : (List Int × List Int) × List (List (List Int)) // p.1.1.length ≤ 9 ∧ LinksOk (p.1.1.length + 1) p.2 }) (fun p => [PHo K C p.1.1.1 p.1.1.2, PD K (eLLL p.1.2)]) (fun p => PD K (eLL (numsM (p.1.1.1.length + 1) p.1.2)))
theorem ok_numbers_ahead (T : Txt K mg) : FnOk P w K mg base CX0 3 T.f_numbers_ahead T.d_numbers_ahead ["house", "links"] (spNums K T.C_House) := by
  refine fn_F T.F_numbers_ahead sc_numbers_ahead (fun _ => rfl) fun ⟨⟨⟨g, b⟩, ls⟩, h9, hok⟩ Z0 Z Q X qX hQ => ?_
  obtain ⟨cdv, A, outer, s, E, rfl, hr⟩ := qX
  have h9' : g.length ≤ 9 := h9
  have hok' : LinksOk (g.length + 1) ls := hok
  have hsz := hok'.size
  refine xs_newL 2 (ds := [eL (List.replicate (g.length + 1) 1)]) (xa_1 (YE.dat (xe_repL (k := ((g.length : Int) + 1)) (xe_lst (ds := [.int 1]) (xa_1 xe_int) (by simp)) (xe_lenO (ok_House_len T) (g, b) T.z_len (xe_var 0) rfl rfl (by omega) T.m_House_len.at_ T.m_House_len.fn (hr.mono (by decide)) T.b_House_len) (by omega) (by simp; omega)) ?_)) (by simp) (fun q => ?_) cov0 sc_numbers_ahead.nd
  · have e : ((g.length : Int) + 1).toNat = g.length + 1 := by omega
    rw [e, rep_one]
    simp [li]
  refine xs_forN 3 (xi_rev T.z_reversed (xe_var 1)) (fun t Γ1 Rs1 => (∃ x1 x2, Γ1 = [some (PHo K T.C_House g b), some (PD K (eLLL ls)), some (PV (.ref q)), x1, x2, none, none]) ∧ Rs1 = [Res.lst Z q (((numsM (g.length + 1) (ls.drop (ls.length - t))).reverse.map eL).map (PD K))]) ⟨⟨none, none, rfl⟩, ?_⟩ ?_ ?_ sc_numbers_ahead.nd
  · rw [Nat.sub_zero, List.drop_length]
    rfl
  · rintro t Qt Γ1 Rs1 hq ⟨⟨x1, x2, rfl⟩, rfl⟩ Hs
    obtain ⟨d, hd, rfl⟩ := map_at hq
    have hlt : t < ls.length := by
      have := (List.getElem?_eq_some_iff.mp hd).1
      simpa using this
    have hpos : ls.length - 1 - t < ls.length := by omega
    have hd2 : d = eLL (ls[ls.length - 1 - t]) := by
      rw [← List.map_reverse] at hd
      obtain ⟨l, hl, rfl⟩ := enc_at hd
      rw [List.getElem?_reverse hlt, List.getElem?_eq_getElem hpos] at hl
      rw [Option.some.inj hl]
    subst hd2
    have hmem : ls[ls.length - 1 - t] ∈ ls := List.getElem_mem _
    generalize hl : ls[ls.length - 1 - t] = l at hmem
    have hdrop : ls.drop (ls.length - (t + 1)) = l :: ls.drop (ls.length - t) := by
      have e1 : ls.length - (t + 1) = ls.length - 1 - t := by omega
      have e2 : ls.length - t = ls.length - 1 - t + 1 := by omega
      rw [e1, e2, List.drop_eq_getElem_cons hpos, hl]
    generalize hsuf : ls.drop (ls.length - t) = suf at hdrop
    have hsufw : ∀ l ∈ suf, l.length = g.length + 1 := fun l hl => hok'.wide l (List.mem_of_mem_drop (hsuf ▸ hl))
    obtain ⟨r, hr2⟩ := numsM_cons (g.length + 1) suf
    have hw := head_wide hsufw
    generalize hbeh : (numsM (g.length + 1) suf).headD [] = beh at hr2 hw
    have hends := hok'.ends l hmem
    have hwid := hok'.wide l hmem
    refine xs_asg 4 (xe_ixM (q := q) (P := PD K (eL beh)) (xe_var 2) (xe_neg xe_int) ?_) ?_ sc_numbers_ahead.nd
    · rw [hr2, List.reverse_cons, List.map_append, List.map_append]
      exact atI_last _ _
    refine xs_app (q := q) (P := PD K (eL (stepM l beh))) (xe_var 2) (YE.dat (xe_mapG eL l 6 (fun es => .int (sumAt beh es)) (xi_list (xe_var 3)) (fun es hes s0 H0 C cl fp => by
        refine xe_sumL T.z_sum (YE.dat (xe_mapI 5 (fun e => .int (gtI beh e)) (xi_list (xe_var 6)) (fun e he s1 H1 C1 cl1 fp1 => by
            refine xe_ixL (xe_var 4) (xe_var 5) (atI_ints ?_ ?_)
            · exact ((hends es hes).2 e he).1
            · have := ((hends es hes).2 e he).2
              omega) sc_numbers_ahead.nd (blkOk_by rfl) (by have := (hends es hes).1; omega) cov0 (fun _ _ _ _ _ => pg_name (i := 5) sc_numbers_ahead.nd rfl (Or.inl rfl))) ?_)
        unfold li
        rw [List.map_map]
        rfl) sc_numbers_ahead.nd (blkOk_by rfl) (by omega) cov0 (fun _ _ _ _ _ => pg_name (i := 6) sc_numbers_ahead.nd rfl (Or.inl rfl))) ?_) ?_ ?_ (pe_bm PySem.F.plainAttrs_list PySem.F.slot_list_append PySem.F.type_list_append mt_append pe_wp (pa_cons pe_wp pa_nil))
    · show PyData.list _ = PyData.list _
      unfold stepM li
      rw [List.map_map]
      rfl
    · rw [List.length_map, List.length_map, List.length_reverse, numsM_len]
      have : suf.length ≤ 1000 := by
        rw [← hsuf, List.length_drop]
        omega
      omega
    · refine xs_turn (fun σ H h => h) ⟨⟨_, _, rfl⟩, ?_⟩
      have e : numsM (g.length + 1) (l :: suf) = stepM l beh :: numsM (g.length + 1) suf := by
        show stepM l ((numsM (g.length + 1) suf).headD []) :: _ = _
        rw [hbeh]
      rw [hdrop, e, List.reverse_cons, List.map_append, List.map_append]
      rfl
  · rintro Γ1 Rs1 ⟨⟨x1, x2, rfl⟩, rfl⟩
    refine xs_frzK 2 rfl rfl ?_
    refine xs_ret (YE.dat (xe_revL (xe_var 2)) ?_) fun v H0 H s k hv => hQ v H0 H s k hv
    rw [← List.map_reverse, List.reverse_reverse]
    simp
end
end K61
namespace K61
open PySem L2 Lh
/-- the floor in whose share the number lies, and what is left of the number -/
def pickM : List Int → List Int → Int → Int × Int
  | [], _, i => (0, i)
  | f :: fs, v, i => if gtI v f ≤ i then pickM fs v (i - gtI v f) else (f, i)
abbrev rowAt (l : List (List Int)) (f : Int) : List Int := l.getD f.toNat []
/-- the way with a number, floor by floor -/
def wayM (n : Nat) : List (List (List Int)) → Int → Int → List Int
  | [], _, _ => []
  | l :: ls, f, i => (pickM (rowAt l f) ((numsM n ls).headD []) i).1 :: wayM n ls (pickM (rowAt l f) ((numsM n ls).headD []) i).1 (pickM (rowAt l f) ((numsM n ls).headD []) i).2
def numberedM (n : Nat) (st : List Int) (ls : List (List (List Int))) (i : Int) : List Int :=
  (pickM st ((numsM n ls).headD []) i).1 :: wayM n ls (pickM st ((numsM n ls).headD []) i).1 (pickM st ((numsM n ls).headD []) i).2
theorem stepM_at {l : List (List Int)} {beh : List Int} {f : Int} (h0 : 0 ≤ f) (h1 : f < l.length) : gtI (stepM l beh) f = sumAt beh (rowAt l f) := by
  have h : f.toNat < l.length := by omega
  unfold gtI stepM rowAt
  simp [h]
theorem numsM_at (n : Nat) : ∀ (ls : List (List (List Int))) (k : Nat), k ≤ ls.length → (numsM n ls)[k]? = some ((numsM n (ls.drop k)).headD [])
  | [], k, h => by
    have : k = 0 := by simpa using h
    subst this
    rfl
  | l :: ls, 0, _ => rfl
  | l :: ls, k + 1, h => by
    show (numsM n ls)[k]? = _
    rw [numsM_at n ls k (by simpa using h)]
    rfl
section
variable {K : PySem.W.Frag} {mg : Str → Option Value} {base : Heap} {P : Program} {w : World}
abbrev spNumberFrom (K : PySem.W.Frag) : Sp := SpP (α := { p : List Int × List Int × List (List Int) // p.1.length ≤ 1000 ∧ ∀ x ∈ p.1, 0 ≤ x ∧ x < p.2.1.length }) (fun p => [PD K (.tuple (li p.1.1)), PD K (eLL (p.1.2.1 :: p.1.2.2))]) (fun p => PD K (.int (sumAt p.1.2.1 p.1.1)))
theorem ok_number_from (T : Txt K mg) : FnOk P w K mg base CX0 1 T.f_number_from T.d_number_from ["floors", "numbers"] (spNumberFrom K) := by
  refine fn_F T.F_number_from sc_number_from (fun _ => rfl) fun ⟨⟨fl, v, vs⟩, hz, hf⟩ Z0 Z Q X qX hQ => ?_
  obtain ⟨cdv, A, outer, s, E, rfl, hr⟩ := qX
  have hz' : fl.length ≤ 1000 := hz
  have hz2 : fl.length ≤ 100000 := by omega
  have hix : atI ((v :: vs).map eL) 0 = some (eL v) := by
    have : ((v :: vs).map eL)[0]? = some (eL v) := rfl
    exact atI_nat this
  refine xs_ret (xe_sumL T.z_sum (YE.dat (xe_mapI 2 (fun f => .int (gtI v f)) (xi_tup (xe_var 0)) (fun n hn s0 H0 C cl fp => by
    have h := hf n hn
    exact xe_ixL (xe_ixL (d := eL v) (xe_var 1) xe_int hix) (xe_var 2) (atI_ints h.1 h.2)) sc_number_from.nd (blkOk_by rfl) hz2 cov0 (fun _ _ _ _ _ => pg_name (i := 2) sc_number_from.nd rfl (Or.inl rfl))) (?_ : _ = PyData.list (li (fl.map fun f => gtI v f))))) fun v H0 H s k hv => hQ v H0 H s k hv
  unfold li
  rw [List.map_map]
  rfl
abbrev spPicked (K : PySem.W.Frag) : Sp := SpP (α := { p : List Int × List Int × Int // (∀ x ∈ p.1, 0 ≤ x ∧ x < p.2.1.length) ∧ 0 ≤ p.2.2 ∧ p.2.2 < sumAt p.2.1 p.1 }) (fun p => [PSeq K (li p.1.1), PD K (eL p.1.2.1), PD K (.int p.1.2.2)]) (fun p => PD K (.tuple [.int (pickM p.1.1 p.1.2.1 p.1.2.2).1, .int (pickM p.1.1 p.1.2.1 p.1.2.2).2]))
abbrev spNumbered (K : PySem.W.Frag) (n : Nat) : Sp := SpP (α := { p : List Int × List (List (List Int)) × Int // LinksOk n p.2.1 ∧ (∀ x ∈ p.1, 0 ≤ x ∧ x < (n : Int)) ∧ 0 ≤ p.2.2 ∧ p.2.2 < sumAt ((numsM n p.2.1).headD []) p.1 }) (fun p => [PD K (.tuple (li p.1.1)), PD K (eLLL p.1.2.1), PD K (eLL (numsM n p.1.2.1)), PD K (.int p.1.2.2)]) (fun p => PD K (.tuple (li (numberedM n p.1.1 p.1.2.1 p.1.2.2))))
end
end K61
namespace K61
open PySem L2 Lh
structure HearOk (g : List Int) (st : List Int) (rows : List Row) : Prop where
  nine : g.length ≤ 9
  start : ∀ x ∈ st, 0 ≤ x ∧ x ≤ g.length
  size : st.length ≤ 1000
  log : ∀ r ∈ rows, r.Ok g
  rows : rows.length ≤ 1000
def headM (g b : List Int) (rows : List Row) : List Int := (numsM (g.length + 1) (linksM g b rows)).headD []
def countM (g b st : List Int) (rows : List Row) : Int := sumAt (headM g b rows) st
def atM (g b st : List Int) (rows : List Row) (i : Int) : List Int := numberedM (g.length + 1) st (linksM g b rows) i
theorem headM_len {g b : List Int} {rows : List Row} (h : rows.length ≤ 1000) : (headM g b rows).length = g.length + 1 := head_wide (linksM_ok h).wide
section
variable {K : PySem.W.Frag} {mg : Str → Option Value} {base : Heap} {P : Program} {w : World}
abbrev spCount (K : PySem.W.Frag) (C : Addr) : Sp := SpP (α := { p : (List Int × List Int) × List Int × List Row // HearOk p.1.1 p.2.1 p.2.2 }) (fun p => [PHo K C p.1.1.1 p.1.1.2, PD K (.tuple (li p.1.2.1)), PD K (logD p.1.2.2)]) (fun p => PD K (.int (countM p.1.1.1 p.1.1.2 p.1.2.1 p.1.2.2)))
theorem ok_way_count (T : Txt K mg) : FnOk P w K mg base CX0 7 T.f_way_count T.d_way_count ["house", "start", "log"] (spCount K T.C_House) := by
  refine fn_F T.F_way_count sc_way_count (fun _ => rfl) fun ⟨⟨⟨g, b⟩, st, rows⟩, hok⟩ Z0 Z Q X qX hQ => ?_
  obtain ⟨cdv, A, outer, s, E, rfl, hr⟩ := qX
  have hk : HearOk g st rows := hok
  have hl := linksM_ok (g := g) (b := b) hk.rows
  obtain ⟨r, hr2⟩ := numsM_cons (g.length + 1) (linksM g b rows)
  refine xs_expr (xe_callD (ok_check_hearing T) ⟨((g, b), st, rows), hk.log, hk.nine, hk.start⟩ (hr.mono (by decide)) T.g_check_hearing T.F_check_hearing.kp T.b_check_hearing (xa_cons (xe_var 0) (xa_cons (xe_var 1) (xa_1 (xe_var 2))))) ?_
  refine xs_ret (xe_callD (ok_number_from T) ⟨(st, headM g b rows, r), hk.size, fun x hx => by
    have := hk.start x hx
    show 0 ≤ x ∧ x < (headM g b rows).length
    rw [headM_len hk.rows]
    omega⟩ (hr.mono (by decide)) T.g_number_from T.F_number_from.kp T.b_number_from (xa_cons (xe_var 1) (xa_1 (YE.dat (xe_callD (ok_numbers_ahead T) ⟨((g, b), linksM g b rows), hk.nine, hl⟩ (hr.mono (by decide)) T.g_numbers_ahead T.F_numbers_ahead.kp T.b_numbers_ahead (xa_cons (xe_var 0) (xa_1 (xe_callD (ok_links_of T) ⟨((g, b), rows), hk.nine, hk.rows⟩ hr T.g_links_of T.F_links_of.kp T.b_links_of (xa_cons (xe_var 0) (xa_1 (xe_var 2))))))) (?_ : eLL _ = eLL _))))) fun v H0 H s k hv => hQ v H0 H s k hv
  exact congrArg eLL hr2
abbrev spAt (K : PySem.W.Frag) (C : Addr) : Sp := SpP (α := { p : (List Int × List Int) × (List Int × List Row) × Int // HearOk p.1.1 p.2.1.1 p.2.1.2 ∧ 0 ≤ p.2.2 ∧ p.2.2 < countM p.1.1 p.1.2 p.2.1.1 p.2.1.2 }) (fun p => [PHo K C p.1.1.1 p.1.1.2, PD K (.tuple (li p.1.2.1.1)), PD K (logD p.1.2.1.2), PD K (.int p.1.2.2)]) (fun p => PD K (.tuple (li (atM p.1.1.1 p.1.1.2 p.1.2.1.1 p.1.2.1.2 p.1.2.2))))
end
end K61
namespace K61
open PySem L2 Lh
section
variable {K : PySem.W.Frag} {mg : Str → Option Value} {base : Heap} {P : Program} {w : World}
abbrev spBegun (K : PySem.W.Frag) : Sp := SpG (α := List Int) (fun ns => [PSc K ns]) (fun _ => NewBox)
theorem ok_law_begun (T : Txt K mg) : FnOk P w K mg base CX0 1 T.f__law_begun T.d__law_begun ["_law_script"] (spBegun K) := by
  refine fn_G T.F__law_begun sc__law_begun (fun _ => rfl) fun ns Z0 Z Q X qX hQ => ?_
  obtain ⟨cdv, A, outer, s, E, rfl, hr⟩ := qX
  refine xs_asg 1 (xe_int (K := K) (i := 0)) ?_ sc__law_begun.nd
  refine xs_forN 2 (xi_sc (xe_var 0)) (fun _ Γ1 Rs1 => Rs1 = [] ∧ ∃ (n : Int) (a : Option Pd), Γ1 = [some (PSc K ns), some (PD K (.int n)), a]) ⟨rfl, 0, none, rfl⟩ ?_ ?_ sc__law_begun.nd
  · rintro t Qt Γ1 Rs1 hq ⟨rfl, n, a, rfl⟩ Hs
    obtain ⟨d, hd, rfl⟩ := map_at hq
    obtain ⟨c, hc, rfl⟩ := li_at hd
    refine xs_asg 1 (xe_mod (xe_intI T.z_int (xe_add (xe_add (xe_mulB (xe_var 1) (xe_int (K := K)) (by decide)) (xe_mulB (xe_var 2) xe_int (by decide))) xe_int)) xe_int (by decide)) (xs_turn (fun σ H h => h) ⟨rfl, _, _, rfl⟩) sc__law_begun.nd
  · rintro Γ1 Rs1 ⟨rfl, n, a, rfl⟩
    refine xs_retBox T.z_list (xe_var 0) (xe_mulB (xe_var 1) (xe_intB T.z_int (xe_gt (K := K) (xe_lenSc T.z_len (xe_var 0)) xe_int)) ?_) fun v H h => hQ v H h
    have : ∀ b : Bool, Builtin.Int.intBits (if b then 1 else 0) ≤ 64 := by decide
    exact this _
abbrev spTake (K : PySem.W.Frag) : Sp := SpF (α := { p : (Addr × Addr) × Int // 1 ≤ p.2 ∧ p.2.natAbs.log2 < 9000 }) (fun p => MB p.1.1.1 p.1.1.2) (fun p => [Res.box p.1.1.1 p.1.1.2]) (fun p => [PV (.ref p.1.1.1), PD K (.int p.1.2)]) (fun p => PIn K 0 p.1.2)
theorem ok_law_take (T : Txt K mg) : FnOk P w K mg base CX0 1 T.f__law_take T.d__law_take ["_law_box", "_law_many"] (spTake K) := by
  refine fn_F T.F__law_take sc__law_take (fun _ => rfl) fun ⟨⟨⟨b, l⟩, m⟩, h1, h2⟩ Z0 Z Q X qX hQ => ?_
  obtain ⟨cdv, A, outer, s, E, rfl, hr⟩ := qX
  have h1' : 1 ≤ m := h1
  have h2' : m.natAbs.log2 < 9000 := h2
  have hd : ∀ i : Int, CDivW i m := fun i => ⟨by omega, h2'⟩
  have hin : ∀ i : Int, 0 ≤ i % m ∧ i % m < m := fun i => ⟨Int.emod_nonneg _ (by omega), Int.emod_lt_of_pos _ (by omega)⟩
  refine xs_open fun ns z => ?_
  refine xs_if (xt_bxe hr (xe_bx0 (xe_var 0))) (fun hb => ?_) fun hb => xs_then ?_
  · refine xs_bx1 (xe_mod (xe_intI T.z_int (xe_mulB (xe_bx1 (xe_var 0)) (xe_int (K := K)) (by decide))) xe_int (by decide)) (xe_var 0) (.inl (.inl rfl)) (.inl (.inr rfl)) ?_
    exact xs_ret (xe_mod (xe_intI T.z_int (xe_fdiv (xe_bx1 (xe_var 0)) (xe_int (K := K)) (wide_div (b := 30) (by decide) (by decide) (by decide) (by decide)))) (xe_var 1) (by show 0 < m; omega)) fun v H0 H s k hv => hQ v H0 H s k.close ⟨_, hin _, hv⟩
  · cases ns with
    | nil => exact absurd hb (by decide)
    | cons n ns =>
      refine xs_asg 2 (xe_bxi (K := K) (xe_bx0 (xe_var 0))) ?_ sc__law_take.nd
      refine xs_bx0 (xe_fdiv (xe_var 2) (xe_var 1) (hd n)) (xe_bx0 (xe_var 0)) (.inl (.inl rfl)) (.inl (.inr rfl)) ?_
      refine xs_if (xt_orB (xt_eqI (K := K) (xe_bxi (xe_bx0 (xe_var 0))) xe_int) fun _ => xt_eqI (K := K) (xe_bxi (xe_bx0 (xe_var 0))) (xe_neg xe_int)) (fun _ => ?_) fun _ => xs_then (xs_ret (xe_mod (K := K) (xe_var 2) (xe_var 1) (by show 0 < m; omega)) fun v H0 H s k hv => hQ v H0 H s k.close ⟨_, hin _, hv⟩)
      exact xs_bxpop (xe_bx0 (xe_var 0)) (.inl (.inl rfl)) (.inl (.inr rfl)) (xs_then (xs_ret (xe_mod (K := K) (xe_var 2) (xe_var 1) (by show 0 < m; omega)) fun v H0 H s k hv => hQ v H0 H s k.close ⟨_, hin _, hv⟩)) (pe_bm PySem.F.plainAttrs_list PySem.F.slot_list_pop PySem.F.type_list_pop mt_popAt pe_wp (pa_cons pe_wp pa_nil))
end
end K61
namespace K61
open PySem L2 Lh
section
variable {M : Addr → Prop} {Γ : Ct} {Rs : List Res} {X : Cx} {Z0 Z Hl : Hp} {D : Ends} {rest : List Stmt}
end
section
variable {K : PySem.W.Frag} {mg : Str → Option Value} {base : Heap} {P : Program} {w : World}
abbrev spFar (K : PySem.W.Frag) (C : Addr) : Sp := SpP (α := { p : (List Int × List Int) × Int × Int // 0 ≤ p.2.1 ∧ 0 ≤ p.2.2 }) (fun p => [PHo K C p.1.1.1 p.1.1.2, PD K (.int p.1.2.1), PD K (.int p.1.2.2)]) (fun p => PD K (.int (far p.1.1.1 p.1.2.1 p.1.2.2)))
abbrev spLNext (K : PySem.W.Frag) (C : Addr) : Sp := SpP (α := { p : (List Int × List Int) × Int × Row // (0 ≤ p.2.1 ∧ p.2.1 ≤ p.1.1.length) ∧ p.1.1.length ≤ 9 }) (fun p => [PHo K C p.1.1.1 p.1.1.2, PD K (.int p.1.2.1), PD K (.tuple p.1.2.2.ds)]) (fun p => PD K (.list (li (nextF p.1.1.1 p.1.1.2 p.1.2.2 p.1.2.1))))
end
end K61
namespace K61
open PySem L2 Lh
/-- what a drawing among the floors may have made so far -/
def SubR (f : Int) (every : List Int) (i : Nat) (ds : List PyData) : Prop := ∃ x : List Int, ds = li x ∧ x.Sublist (every.take i) ∧ (f ∈ every.take i → f ∈ x)
theorem SubR.yes {f : Int} {every : List Int} {i : Nat} {ds : List PyData} {n : Int} (hn : every[i]? = some n) (h : SubR f every i ds) : SubR f every (i + 1) (ds ++ [.int n]) := by
  obtain ⟨x, rfl, h1, h2⟩ := h
  have e : every.take (i + 1) = every.take i ++ [n] := by rw [List.take_add_one, hn]; rfl
  refine ⟨x ++ [n], by simp [li], ?_, ?_⟩
  · rw [e]
    exact h1.append (List.Sublist.refl _)
  · rw [e]
    intro hf
    rcases List.mem_append.mp hf with hf | hf
    · exact List.mem_append_left _ (h2 hf)
    · exact List.mem_append_right _ hf
theorem SubR.no {f : Int} {every : List Int} {i : Nat} {ds : List PyData} {n : Int} (hn : every[i]? = some n) (hne : ¬ n = f) (h : SubR f every i ds) : SubR f every (i + 1) ds := by
  obtain ⟨x, rfl, h1, h2⟩ := h
  have e : every.take (i + 1) = every.take i ++ [n] := by rw [List.take_add_one, hn]; rfl
  refine ⟨x, rfl, ?_, ?_⟩
  · rw [e]
    exact h1.trans (List.sublist_append_left _ _)
  · rw [e]
    intro hf
    rcases List.mem_append.mp hf with hf | hf
    · exact h2 hf
    · have : f = n := by simpa using hf
      exact absurd this.symm hne
theorem SubR.zero {f : Int} {every : List Int} : SubR f every 0 [] := ⟨[], rfl, List.Sublist.slnil, fun h => by simp at h⟩
theorem SubR.fin {f : Int} {every : List Int} {ds : List PyData} {i : Nat} (hi : i = every.length) (h : SubR f every i ds) : ∃ x : List Int, ds = li x ∧ x.Sublist every ∧ (f ∈ every → f ∈ x) := by
  subst hi
  obtain ⟨x, h1, h2, h3⟩ := h
  rw [List.take_length] at h2 h3
  exact ⟨x, h1, h2, h3⟩
section
variable {K : PySem.W.Frag} {mg : Str → Option Value} {base : Heap} {P : Program} {w : World}
/-- a drawing, of a range of any size that a division takes -/
theorem xe_takeW (T : Txt K mg) {M : Addr → Prop} {Γ : Ct} {Rs2 : List Res} {X : Cx} {o e : Expr} {p pos : Pos} {b l : Addr} {m : Int} (hr : Room 1 X.A) (ho : XE M Γ (Res.box b l :: Rs2) X o (PV (.ref b))) (he : XE M Γ (Res.box b l :: Rs2) X e (PD K (.int m))) (h1 : 1 ≤ m) (h2 : m.natAbs.log2 < 9000) (hm : ∀ a, MB b l a → M a)
    (hg : Gl X "_law_take" := by rfl) (hs : starEach [o, e] X.env = (false, eval o X.env) :: starEach [e] X.env := by rfl) (hs2 : starEach [e] X.env = (false, eval e X.env) :: starEach [] X.env := by rfl) (hpl : (backTo pos (starEach [e] X.env)).any (·.1) = false := by rfl)
    (eK : X.K = K := by rfl) (em : X.mg = mg := by rfl) : XE M Γ (Res.box b l :: Rs2) X (.Call (.Name "_law_take" p) [o, e] [] pos) (PIn K 0 m) :=
  xe_callM (ok_law_take (P := X.prog) (w := X.w) (base := X.base) T) hr T.g__law_take T.F__law_take.kp T.b__law_take (xa_cons ho (xa_1 he hs2) hs) (fun vs H h => ⟨⟨((b, l), m), h1, h2⟩, h, rfl, hm, fun a ha => by
    have ha' : a = b ∨ a = l := ha
    simpa [Res.box] using ha', fun _ _ h => h⟩) hg (by decide) hs hpl rfl rfl eK em rfl
/-- a drawing -/
theorem xe_take (T : Txt K mg) {M : Addr → Prop} {Γ : Ct} {Rs2 : List Res} {X : Cx} {o e : Expr} {p pos : Pos} {b l : Addr} {m : Int} (hr : Room 1 X.A) (ho : XE M Γ (Res.box b l :: Rs2) X o (PV (.ref b))) (he : XE M Γ (Res.box b l :: Rs2) X e (PD K (.int m))) (h1 : 1 ≤ m) (h2 : m < 1000000) (hm : ∀ a, MB b l a → M a)
    (hg : Gl X "_law_take" := by rfl) (hs : starEach [o, e] X.env = (false, eval o X.env) :: starEach [e] X.env := by rfl) (hs2 : starEach [e] X.env = (false, eval e X.env) :: starEach [] X.env := by rfl) (hpl : (backTo pos (starEach [e] X.env)).any (·.1) = false := by rfl)
    (eK : X.K = K := by rfl) (em : X.mg = mg := by rfl) : XE M Γ (Res.box b l :: Rs2) X (.Call (.Name "_law_take" p) [o, e] [] pos) (PIn K 0 m) :=
  xe_takeW T hr ho he h1 (wide_div (i := 0) (b := 30) (by omega) (by omega) (by decide) (by decide)).2 hm hg hs hs2 hpl eK em
abbrev spStart (K : PySem.W.Frag) (C : Addr) : Sp := SpF (α := { p : (Addr × Addr) × List Int × List Int // p.2.1.length ≤ 9 }) (fun p => MB p.1.1.1 p.1.1.2) (fun p => [Res.box p.1.1.1 p.1.1.2]) (fun p => [PV (.ref p.1.1.1), PHo K C p.1.2.1 p.1.2.2])
  (fun p => PEx (fun q : List Int × Int => q.1.Sublist (rgI 0 (p.1.2.1.length + 1)) ∧ q.2 ∈ q.1) fun q => PT2 K (PD K (.tuple (li q.1))) (PD K (.int q.2)))
end
end K61
namespace K61
open PySem L2 Lh
theorem rgI_up (n : Nat) : (rgI 0 n).Pairwise (· < ·) := by
  unfold rgI
  rw [List.pairwise_map]
  exact List.Pairwise.imp (fun h => by omega) List.pairwise_lt_range
theorem bells_of {b : List Int} {n : Nat} (h : b.Sublist (rgI 0 n)) : BellsOk b (rgI 0 n) where
  among := fun x hx => h.subset hx
  up := fun t m k hm hk => by
    have p := List.pairwise_iff_getElem.mp ((rgI_up n).sublist h)
    obtain ⟨l1, e1⟩ := List.getElem?_eq_some_iff.mp hm
    obtain ⟨l2, e2⟩ := List.getElem?_eq_some_iff.mp hk
    rw [← e1, ← e2]
    exact p t (t + 1) l1 l2 (by omega)
def GapR (wd : Int) (i : Nat) (ds : List PyData) : Prop := ∃ g : List Int, ds = li g ∧ g.length = i ∧ ∀ x ∈ g, 1 ≤ x ∧ x ≤ wd
theorem GapR.step {wd : Int} {i : Nat} {ds : List PyData} {n : Int} (hn : 1 ≤ n ∧ n ≤ wd) (h : GapR wd i ds) : GapR wd (i + 1) (ds ++ [.int n]) := by
  obtain ⟨g, rfl, h1, h2⟩ := h
  refine ⟨g ++ [n], by simp [li], by simp [h1], fun x hx => ?_⟩
  rcases List.mem_append.mp hx with hx | hx
  · exact h2 x hx
  · have e : x = n := by simpa using hx
    subst e
    exact hn
section
variable {K : PySem.W.Frag} {mg : Str → Option Value} {base : Heap} {P : Program} {w : World}
abbrev spLHouse (K : PySem.W.Frag) (C : Addr) : Sp := SpF (α := { p : (Addr × Addr) × Int × Int // (1 ≤ p.2.1 ∧ p.2.1 ≤ 9) ∧ 1 ≤ p.2.2 ∧ p.2.2 ≤ 9 }) (fun p => MB p.1.1.1 p.1.1.2) (fun p => [Res.box p.1.1.1 p.1.1.2]) (fun p => [PV (.ref p.1.1.1), PD K (.int p.1.2.1), PD K (.int p.1.2.2)])
  (fun p => PEx (fun q : List Int × List Int => HouseOk q.1 q.2 ∧ (q.1.length : Int) ≤ p.1.2.1 ∧ ∀ x ∈ q.1, x ≤ p.1.2.2) fun q => PHo K C q.1 q.2)
theorem ok_law_house (T : Txt K mg) : FnOk P w K mg base CX0 4 T.f__law_house T.d__law_house ["_law_box", "_law_most", "_law_widest"] (spLHouse K T.C_House) := by
  refine fn_F T.F__law_house sc__law_house (fun _ => rfl) fun ⟨⟨⟨bx, l⟩, mo, wd⟩, h1, h2⟩ Z0 Z Q X qX hQ => ?_
  obtain ⟨cdv, A, outer, s, E, rfl, hr⟩ := qX
  have h1' : 1 ≤ mo ∧ mo ≤ 9 := h1
  have h2' : 1 ≤ wd ∧ wd ≤ 9 := h2
  refine xs_asgE (A := fun g : List Int => GapsOk g ∧ (g.length : Int) ≤ mo ∧ ∀ x ∈ g, x ≤ wd) (P := fun g => PD K (.tuple (li g))) 3 (xe_tupLE T.z_tuple (YE.imp (xe_lcE (K := K) 4 (xi_rangeE T.z_range (xe_addIn xe_int (xe_take T (hr.mono (by decide)) (xe_var 0) (xe_var 1) h1'.1 (by show mo < 1000000; omega) (fun _ h => h))) (fun n hn => by
      obtain ⟨a, b⟩ := hn
      constructor <;> omega)) (GapR wd) ⟨[], rfl, rfl, fun x hx => by cases hx⟩ (fun n hn i Q hq s0 H0 C cl fp => ?_) sc__law_house.nd (blkOk_by rfl) (fun n hn => ?_) cov_box (fun _ _ _ _ _ => pg_name (i := 4) sc__law_house.nd rfl (Or.inl rfl))) (fun v H h => ?_))) (fun g hg => ?_) sc__law_house.nd
  · exact YE.imp (xe_addIn xe_int (xe_take T (hr.mono (by decide)) (xe_var 0) (xe_var 2) h2'.1 (by show wd < 1000000; omega) (fun _ h => h))) fun v H ⟨m, hm, hv⟩ => ⟨.int m, fun ds _ hR => hR.step (by
      obtain ⟨a, b⟩ := hm
      constructor <;> omega), hv⟩
  · obtain ⟨a, b⟩ := hn
    simp only [li, List.length_map, rgI_len]
    omega
  · obtain ⟨ds, ⟨n, hn, hR, _⟩, hv⟩ := h
    obtain ⟨g, rfl, e1, e2⟩ := hR
    obtain ⟨a, b⟩ := hn
    have e3 : g.length = n.toNat := by rw [e1]; simp [li, rgI_len]
    exact ⟨g, ⟨⟨by omega, by omega, fun x hx => by
      have := e2 x hx
      omega⟩, by omega, fun x hx => (e2 x hx).2⟩, hv⟩
  · obtain ⟨hg, hgm, hgw⟩ := hg
    have h9 := hg.nine
    have hlen : (((li g).length : Int) + 1).toNat = g.length + 1 := by simp [li]
    refine xs_ret (xe_make T.k_House (ok_House_init T) hr T.g_House T.b_House_init (xa_cons (xe_var 3) (xa_1 (xe_tupLE (A := fun x : List Int => x.Sublist (rgI 0 (g.length + 1))) (f := fun x => li x) T.z_tuple (YE.imp (xe_lcIf (K := K) 5 (xi_range1 T.z_range (xe_add (xe_lenT T.z_len (xe_var 3)) xe_int) (by simp [li]; omega)) (SubR (-1) (rgI 0 (g.length + 1))) SubR.zero (fun i Q hq => ?_) sc__law_house.nd (blkOk_by rfl) (by simp only [li, List.length_map, rgI_len]; omega) cov_box (fun _ _ _ _ _ => pg_name (i := 5) sc__law_house.nd rfl (Or.inl rfl))) (fun v H h => ?_)))))
      (fun vs H h => ?_) cov_box) fun v H0 H s k hv => hQ v H0 H s k hv
    · rw [hlen] at hq
      obtain ⟨d, hd, rfl⟩ := map_at hq
      obtain ⟨n, hn, rfl⟩ := li_at hd
      refine ⟨fun _ => True, fun s0 H0 C cl fp => ?_, fun _ s0 H0 C cl fp => ?_, fun hb ds hR => ?_⟩
      · exact xt_eqIn (xe_take T (hr.mono (by decide)) (xe_var 0) xe_int (by decide) (by decide) (fun _ h => h)) (xe_int (K := K))
      · exact YE.imp (xe_var 5) fun v H h => ⟨.int n, fun ds _ hR => hR.yes hn, h⟩
      · refine hR.no hn ?_
        have := mem_rgI.mp (List.mem_of_getElem? hn)
        omega
    · obtain ⟨ds, ⟨hR, _⟩, hv⟩ := h
      obtain ⟨x, rfl, h1, _⟩ := hR.fin (by rw [hlen]; simp [li])
      exact ⟨x, h1, hv⟩
    · obtain ⟨v1, r, e1, q1, h3⟩ := h.inv
      obtain ⟨v2, r', e2, ⟨x, hx, q2⟩, h4⟩ := h3.inv
      have e3 := h4.nil_inv
      subst e1 e2 e3
      exact ⟨⟨(g, x), hg, bells_of hx⟩, DAll.cons q1 (DAll.cons q2 DAll.nil), fun v H h => ⟨(g, x), ⟨⟨hg, bells_of hx⟩, hgm, hgw⟩, h⟩⟩
end
end K61
namespace K61
open PySem L2 Lh
section
variable {M : Addr → Prop} {Γ : Ct} {Rs : List Res} {X : Cx} {Z0 Z Hl : Hp} {D : Ends} {rest : List Stmt}
theorem Rok.swap {r1 r2 : Res} {H0 H : Hp} (k : Rok (r1 :: r2 :: Rs) H0 H) : Rok (r2 :: r1 :: Rs) H0 H := by
  refine ⟨?_, fun r hr => k.2 r ?_⟩
  · have h := k.1
    rw [List.flatMap_cons, List.flatMap_cons] at h ⊢
    refine (List.Perm.nodup_iff ?_).mp h
    rw [← List.append_assoc, ← List.append_assoc]
    exact List.Perm.append_right _ List.perm_append_comm
  · obtain e | hr := List.mem_cons.mp hr
    · subst e
      simp
    · obtain e | hr := List.mem_cons.mp hr
      · subst e
        simp
      · simp [hr]
theorem xs_swap {r1 r2 : Res} (h : XS M Γ (r2 :: r1 :: Rs) X Z0 Z Hl D rest) : XS M Γ (r1 :: r2 :: Rs) X Z0 Z Hl D rest := fun σ H0 H l s b k => h σ H0 H l s b (Rok.swap k)
end
theorem sum_bounds : ∀ {l : List Int}, (∀ x ∈ l, 1 ≤ x ∧ x ≤ 9) → (l.length : Int) ≤ l.sum ∧ l.sum ≤ 9 * l.length
  | [], _ => by simp
  | x :: l, h => by
    have h1 := h x List.mem_cons_self
    have h2 := sum_bounds (l := l) fun y hy => h y (List.mem_cons_of_mem _ hy)
    rw [List.sum_cons, List.length_cons]
    omega
theorem far_bounds {g : List Int} (hg : GapsOk g) {i j : Int} (hi : 0 ≤ i ∧ i ≤ g.length) (hj : 0 ≤ j ∧ j ≤ g.length) (hne : ¬ j = i) : 1 ≤ far g i j ∧ far g i j ≤ 81 := by
  have h9 := hg.nine
  have hl : ((g.drop (min i j).toNat).take ((max i j).toNat - (min i j).toNat)).length = (max i j).toNat - (min i j).toNat := by
    rw [List.length_take, List.length_drop]
    omega
  have hb := sum_bounds (l := (g.drop (min i j).toNat).take ((max i j).toNat - (min i j).toNat)) fun x hx => hg.each x (List.mem_of_mem_drop (List.mem_of_mem_take hx))
  rw [hl] at hb
  unfold far
  omega
section
variable {K : PySem.W.Frag} {mg : Str → Option Value} {base : Heap} {P : Program} {w : World}
abbrev spLRow (K : PySem.W.Frag) (C : Addr) : Sp := SpF (α := { p : ((Addr × Addr) × List Int × List Int) × Int // HouseOk p.1.2.1 p.1.2.2 ∧ 0 ≤ p.2 ∧ p.2 ≤ p.1.2.1.length }) (fun p => MB p.1.1.1.1 p.1.1.1.2) (fun p => [Res.box p.1.1.1.1 p.1.1.1.2]) (fun p => [PV (.ref p.1.1.1.1), PHo K C p.1.1.2.1 p.1.1.2.2, PD K (.int p.1.2)])
  (fun p => PEx (fun r : Row => r.Ok p.1.1.2.1 ∧ nextF p.1.1.2.1 p.1.1.2.2 r p.1.2 ≠ []) fun r => PD K (.tuple r.ds))
end
end K61
namespace K61
open PySem L2 Lh
abbrev rowD (r : Row) : PyData := .tuple r.ds
section
variable {K : PySem.W.Frag} {mg : Str → Option Value} {base : Heap} {P : Program} {w : World}
abbrev spLLog (K : PySem.W.Frag) (C : Addr) : Sp := SpF (α := { p : ((Addr × Addr) × List Int × List Int) × Int × Int // HouseOk p.1.2.1 p.1.2.2 ∧ (0 ≤ p.2.1 ∧ p.2.1 ≤ p.1.2.1.length) ∧ 0 ≤ p.2.2 ∧ p.2.2 ≤ 900 }) (fun p => MB p.1.1.1.1 p.1.1.1.2) (fun p => [Res.box p.1.1.1.1 p.1.1.1.2]) (fun p => [PV (.ref p.1.1.1.1), PHo K C p.1.1.2.1 p.1.1.2.2, PD K (.int p.1.2.1), PD K (.int p.1.2.2)])
  (fun p => PEx (fun rows : List Row => (∀ r ∈ rows, r.Ok p.1.1.2.1) ∧ (rows.length : Int) ≤ p.1.2.2) fun rows => PD K (logD rows))
end
end K61
namespace K61
open PySem L2 Lh
/-- does a way meet a floor here -/
def meetM (r : Row) (i e f : Int) (gb : Bool) : Bool := match r with
  | .go _ => if gb = true then decide (min i e ≤ f) && decide (f ≤ max i e) else decide (e = f)
  | _ => decide (e = f)
section
variable {K : PySem.W.Frag} {mg : Str → Option Value} {base : Heap} {P : Program} {w : World}
abbrev spMeets (K : PySem.W.Frag) : Sp := SpP (α := Row × (Int × Int) × Int × Bool) (fun p => [PD K (rowD p.1), PD K (.int p.2.1.1), PD K (.int p.2.1.2), PD K (.int p.2.2.1), PD K (.bool p.2.2.2)]) (fun p => PD K (.bool (meetM p.1 p.2.1.1 p.2.1.2 p.2.2.1 p.2.2.2)))
theorem ok_meets (T : Txt K mg) : FnOk P w K mg base CX0 1 T.f_meets T.d_meets ["row", "begin", "end", "floor", "goes_by"] (spMeets K) := by
  refine fn_F T.F_meets sc_meets (fun _ => rfl) fun ⟨r, ⟨i, e⟩, f, gb⟩ Z0 Z Q X qX hQ => ?_
  obtain ⟨cdv, A, outer, s, E, rfl, hr⟩ := qX
  refine xs_if (B := Is (gb && decide (r.kind = "go"))) (YT.eq (xt_andB (xt_bool (K := K) (xe_var 4)) fun _ => xt_eqS (K := K) (xe_ixT (xe_var 0) xe_int r.k0) xe_str) rfl) (fun hb => ?_) fun hb => xs_then ?_
  · have hb' : true = (gb && decide (r.kind = "go")) := hb
    have hb2 : gb = true ∧ decide (r.kind = "go") = true := by simpa using hb'.symm
    obtain ⟨h1, h2⟩ := hb2
    obtain ⟨s', rfl⟩ := Row.is_go (of_decide_eq_true h2)
    refine xs_ret (YE.dat (xe_lele (K := K) (xe_min2 T.z_min (xe_var 1) (xe_var 2)) (xe_var 3) (xe_max2 T.z_max (xe_var 1) (xe_var 2))) (congrArg PyData.bool ?_)) fun v H0 H s k hv => hQ v H0 H s k hv
    show _ = if gb = true then _ else _
    rw [if_pos h1]
  · refine xs_ret (YE.dat (xe_eqI (K := K) (xe_var 2) (xe_var 3)) (congrArg PyData.bool ?_)) fun v H0 H s k hv => hQ v H0 H s k hv
    have hb' : false = (gb && decide (r.kind = "go")) := hb
    cases r with
    | go s' =>
      have h : gb = false := by
        have h2 : decide ((Row.go s').kind = "go") = true := by
          show decide (("go" : Str) = "go") = true
          decide +kernel
        rw [h2] at hb'
        simpa using hb'.symm
      subst h
      rfl
    | _ => rfl
end
end K61
namespace K61
open PySem L2 Lh
def withoutM (r : Row) (i : Int) (es : List Int) (f : Int) (gb : Bool) : List Int := es.filter fun e => !meetM r i e f gb
/-- the links of a row without a floor: of each floor its ends -/
def rowWithout (r : Row) (l : List (List Int)) (f : Int) (gb : Bool) : List (List Int) := ((List.range l.length).zipWith (fun (i : Nat) es => withoutM r (i : Int) es f gb) l)
section
variable {K : PySem.W.Frag} {mg : Str → Option Value} {base : Heap} {P : Program} {w : World}
abbrev spEndsW (K : PySem.W.Frag) : Sp := SpP (α := { p : Row × (Int × List Int) × Int × Bool // p.2.1.2.length ≤ 1000 }) (fun p => [PD K (rowD p.1.1), PD K (.int p.1.2.1.1), PD K (eL p.1.2.1.2), PD K (.int p.1.2.2.1), PD K (.bool p.1.2.2.2)]) (fun p => PD K (eL (withoutM p.1.1 p.1.2.1.1 p.1.2.1.2 p.1.2.2.1 p.1.2.2.2)))
theorem ok_ends_without (T : Txt K mg) : FnOk P w K mg base CX0 2 T.f_ends_without T.d_ends_without ["row", "begin", "ends", "floor", "goes_by"] (spEndsW K) := by
  refine fn_F T.F_ends_without sc_ends_without (fun _ => rfl) fun ⟨⟨r, ⟨i, es⟩, f, gb⟩, hz⟩ Z0 Z Q X qX hQ => ?_
  obtain ⟨cdv, A, outer, s, E, rfl, hr⟩ := qX
  have hz' : es.length ≤ 1000 := hz
  have hz2 : es.length ≤ 100000 := by omega
  exact xs_ret (YE.dat (xe_filtI 5 (fun n => .int n) (fun e => !meetM r i e f gb) (xi_list (xe_var 2)) (fun e he s0 H0 C cl fp => by
      exact xt_notB (xt_bool (K := K) (xe_callD (ok_meets T) (r, (i, e), f, gb) hr T.g_meets T.F_meets.kp T.b_meets (xa_cons (xe_var 0) (xa_cons (xe_var 1) (xa_cons (xe_var 5) (xa_cons (xe_var 3) (xa_1 (xe_var 4))))))))) (fun e he _ s0 H0 C cl fp => by exact xe_var 5) sc_ends_without.nd (blkOk_by rfl) hz2 cov0 (fun _ _ _ _ _ => pg_name (i := 5) sc_ends_without.nd rfl (Or.inl rfl))) rfl) fun v H0 H s k hv => hQ v H0 H s k hv
theorem rowW_at {r : Row} {l : List (List Int)} {f : Int} {gb : Bool} {i : Nat} {es : List Int} (h : l[i]? = some es) : (rowWithout r l f gb)[i]? = some (withoutM r (i : Int) es f gb) := by
  obtain ⟨h1, h2⟩ := List.getElem?_eq_some_iff.mp h
  unfold rowWithout
  rw [List.getElem?_zipWith, List.getElem?_range h1, h]
theorem rowW_len {r : Row} {l : List (List Int)} {f : Int} {gb : Bool} : (rowWithout r l f gb).length = l.length := by simp [rowWithout]
def linksW (rows : List Row) (ls : List (List (List Int))) (f : Int) (gb : Bool) : List (List (List Int)) := rows.zipWith (fun r l => rowWithout r l f gb) ls
abbrev spLinksW (K : PySem.W.Frag) : Sp := SpP (α := { p : (List Row × List (List (List Int))) × Int × Bool // p.1.1.length ≤ 1000 ∧ ∀ l ∈ p.1.2, l.length ≤ 1000 ∧ ∀ es ∈ l, es.length ≤ 1000 }) (fun p => [PD K (logD p.1.1.1), PD K (eLLL p.1.1.2), PD K (.int p.1.2.1), PD K (.bool p.1.2.2)]) (fun p => PD K (eLLL (linksW p.1.1.1 p.1.1.2 p.1.2.1 p.1.2.2)))
theorem ok_links_without (T : Txt K mg) : FnOk P w K mg base CX0 3 T.f_links_without T.d_links_without ["log", "links", "floor", "goes_by"] (spLinksW K) := by
  refine fn_F T.F_links_without sc_links_without (fun _ => rfl) fun ⟨⟨⟨rows, ls⟩, f, gb⟩, hz, hl⟩ Z0 Z Q X qX hQ => ?_
  obtain ⟨cdv, A, outer, s, E, rfl, hr⟩ := qX
  have hz' : rows.length ≤ 1000 := hz
  have hl' : ∀ l ∈ ls, l.length ≤ 1000 ∧ ∀ es ∈ l, es.length ≤ 1000 := hl
  have hwl : (linksW rows ls f gb).length ≤ 1000 := by
    unfold linksW
    rw [List.length_zipWith]
    omega
  refine xs_newL 4 (ds := []) xa_nil (by simp) (fun q => ?_) cov0 sc_links_without.nd
  refine xs_forP 5 6 (xi_zip T.z_zip (xe_var 0) (xe_var 1)) (fun t Γ1 Rs1 => (∃ a5 a6 a7 a8, Γ1 = [some (PD K (logD rows)), some (PD K (eLLL ls)), some (PD K (.int f)), some (PD K (.bool gb)), some (PV (.ref q)), a5, a6, a7, a8]) ∧ Rs1 = [Res.lst Z q ((((linksW rows ls f gb).take t).map eLL).map (PD K))]) ⟨⟨none, none, none, none, rfl⟩, rfl⟩ ?_ ?_ sc_links_without.nd
  · rintro t Qt Γ1 Rs1 hq ⟨⟨a5, a6, a7, a8, rfl⟩, rfl⟩
    obtain ⟨d, e, hd, he, rfl⟩ := zip_at hq
    refine ⟨_, _, rfl, fun Hs => ?_⟩
    obtain ⟨r, hrr, rfl⟩ := enc_at hd
    obtain ⟨l, hll, rfl⟩ := enc_at he
    obtain ⟨hl1, hl2⟩ := hl' l (List.mem_of_getElem? hll)
    have hat : (linksW rows ls f gb)[t]? = some (rowWithout r l f gb) := by
      have e1 : rows[t]? = some r := hrr
      have e2 : ls[t]? = some l := hll
      unfold linksW
      rw [List.getElem?_zipWith, e1, e2]
    refine xs_app (q := q) (P := PD K (eLL (rowWithout r l f gb))) (xe_var 4) (YE.imp (xe_lcP (K := K) 7 8 (by decide) (xi_enum T.z_enumerate (xe_var 6)) (fun i ds => ds = ((rowWithout r l f gb).take i).map eL) rfl (fun i Qi hqi => ?_) sc_links_without.nd (blkOk_by rfl) (by rw [List.length_zipWith, List.length_range, List.length_map]; omega) cov0 (fun _ _ _ _ _ => pg_tup rfl (pgs_cons (pg_name (i := 7) sc_links_without.nd rfl (Or.inl rfl)) (pgs_cons (pg_name (i := 8) sc_links_without.nd rfl (Or.inl rfl)) pgs_nil)))) (fun v H h => ?_)) (by
        rw [List.length_map, List.length_map, List.length_take]
        omega) (xs_turn (fun σ H h => h) ⟨⟨_, _, _, _, rfl⟩, ?_⟩) (pe_bm PySem.F.plainAttrs_list PySem.F.slot_list_append PySem.F.type_list_append mt_append pe_wp (pa_cons pe_wp pa_nil))
    · obtain ⟨d2, hd2, rfl⟩ := enum_at hqi
      obtain ⟨es, hes, rfl⟩ := enc_at hd2
      refine ⟨_, _, rfl, fun s0 H0 C cl fp => ?_⟩
      refine YE.imp (xe_callD (ok_ends_without T) ⟨(r, ((i : Int), es), f, gb), hl2 es (List.mem_of_getElem? hes)⟩ hr T.g_ends_without T.F_ends_without.kp T.b_ends_without (xa_cons (xe_var 5) (xa_cons (xe_var 7) (xa_cons (xe_var 8) (xa_cons (xe_var 2) (xa_1 (xe_var 3))))))) fun v H h => ⟨_, fun ds _ e => ?_, h⟩
      dsimp only at e ⊢
      rw [e, List.take_add_one, rowW_at hes]
      simp
    · obtain ⟨ds, ⟨e, _⟩, hv⟩ := h
      have hlen : ((List.range (l.map eL).length).zipWith (fun i d => PT2 K (PD K (.int (i : Nat))) (PD K d)) (l.map eL)).length = l.length := by
        rw [List.length_zipWith, List.length_range, List.length_map]
        omega
      have e2 : ds = ((rowWithout r l f gb).take ((List.range (l.map eL).length).zipWith (fun i d => PT2 K (PD K (.int (i : Nat))) (PD K d)) (l.map eL)).length).map eL := e
      rw [hlen, ← rowW_len (r := r) (f := f) (gb := gb), List.take_length] at e2
      subst e2
      exact hv
    · rw [List.take_add_one, hat]
      simp
  · rintro Γ1 Rs1 ⟨⟨a5, a6, a7, a8, rfl⟩, rfl⟩
    refine xs_frzK 4 rfl rfl ?_
    refine xs_ret (YE.dat (xe_var 4) ?_) fun v H0 H s k hv => hQ v H0 H s k hv
    have e : (List.zipWith (fun d e => PT2 K (PD K d) (PD K e)) (rows.map fun r => PyData.tuple r.ds) (ls.map eLL)).length = (linksW rows ls f gb).length := by
      unfold linksW
      simp
    show PyData.list (((linksW rows ls f gb).take (List.zipWith (fun d e => PT2 K (PD K d) (PD K e)) (rows.map fun r => PyData.tuple r.ds) (ls.map eLL)).length).map eLL) = _
    rw [e, List.take_length]
end
end K61
namespace K61
open PySem L2 Lh
theorem linksW_ok {n : Nat} {rows : List Row} {ls : List (List (List Int))} {f : Int} {gb : Bool} (h : LinksOk n ls) : LinksOk n (linksW rows ls f gb) where
  size := by
    have := h.size
    unfold linksW
    rw [List.length_zipWith]
    omega
  wide := fun l hl => by
    obtain ⟨i, hi⟩ := List.getElem?_of_mem hl
    unfold linksW at hi
    rw [List.getElem?_zipWith] at hi
    cases e1 : rows[i]? with
    | none =>
      rw [e1] at hi
      cases hi
    | some r =>
      cases e2 : ls[i]? with
      | none =>
        rw [e1, e2] at hi
        cases hi
      | some l' =>
        rw [e1, e2] at hi
        have e3 : rowWithout r l' f gb = l := Option.some.inj hi
        rw [← e3, rowW_len]
        exact h.wide l' (List.mem_of_getElem? e2)
  ends := fun l hl es hes => by
    obtain ⟨i, hi⟩ := List.getElem?_of_mem hl
    unfold linksW at hi
    rw [List.getElem?_zipWith] at hi
    cases e1 : rows[i]? with
    | none =>
      rw [e1] at hi
      cases hi
    | some r =>
      cases e2 : ls[i]? with
      | none =>
        rw [e1, e2] at hi
        cases hi
      | some l' =>
        rw [e1, e2] at hi
        have e3 : rowWithout r l' f gb = l := Option.some.inj hi
        rw [← e3] at hes
        obtain ⟨k, hk⟩ := List.getElem?_of_mem hes
        have hlt : k < l'.length := by
          have := (List.getElem?_eq_some_iff.mp hk).1
          rw [rowW_len] at this
          exact this
        rw [rowW_at (List.getElem?_eq_getElem hlt)] at hk
        have e4 := Option.some.inj hk
        obtain ⟨q1, q2⟩ := h.ends l' (List.mem_of_getElem? e2) l'[k] (List.getElem_mem hlt)
        rw [← e4]
        exact ⟨Nat.le_trans (List.length_filter_le _ _) q1, fun e he => q2 e (List.mem_filter.mp he).1⟩
section
variable {K : PySem.W.Frag} {mg : Str → Option Value} {base : Heap} {P : Program} {w : World}
abbrev spNumberFromL (K : PySem.W.Frag) : Sp := SpP (α := { p : List Int × List Int × List (List Int) // p.1.length ≤ 1000 ∧ ∀ x ∈ p.1, 0 ≤ x ∧ x < p.2.1.length }) (fun p => [PD K (eL p.1.1), PD K (eLL (p.1.2.1 :: p.1.2.2))]) (fun p => PD K (.int (sumAt p.1.2.1 p.1.1)))
theorem ok_number_fromL (T : Txt K mg) : FnOk P w K mg base CX0 1 T.f_number_from T.d_number_from ["floors", "numbers"] (spNumberFromL K) := by
  refine fn_F T.F_number_from sc_number_from (fun _ => rfl) fun ⟨⟨fl, v, vs⟩, hz, hf⟩ Z0 Z Q X qX hQ => ?_
  obtain ⟨cdv, A, outer, s, E, rfl, hr⟩ := qX
  have hz' : fl.length ≤ 1000 := hz
  have hz2 : fl.length ≤ 100000 := by omega
  have hix : atI ((v :: vs).map eL) 0 = some (eL v) := by
    have : ((v :: vs).map eL)[0]? = some (eL v) := rfl
    exact atI_nat this
  refine xs_ret (xe_sumL T.z_sum (YE.dat (xe_mapI 2 (fun f => .int (gtI v f)) (xi_list (xe_var 0)) (fun n hn s0 H0 C cl fp => by
    have h := hf n hn
    exact xe_ixL (xe_ixL (d := eL v) (xe_var 1) xe_int hix) (xe_var 2) (atI_ints h.1 h.2)) sc_number_from.nd (blkOk_by rfl) hz2 cov0 (fun _ _ _ _ _ => pg_name (i := 2) sc_number_from.nd rfl (Or.inl rfl))) (?_ : _ = PyData.list (li (fl.map fun f => gtI v f))))) fun v H0 H s k hv => hQ v H0 H s k hv
  unfold li
  rw [List.map_map]
  rfl
/-- ways that avoid a floor -/
def countW (g b st : List Int) (rows : List Row) (f : Int) (gb : Bool) : Int := sumAt ((numsM (g.length + 1) (linksW rows (linksM g b rows) f gb)).headD []) (st.filter fun x => !decide (x = f))
def verdictM (g b st : List Int) (rows : List Row) (f : Int) (gb : Bool) : Str := if countW g b st rows f gb = 0 then "surely" else if countW g b st rows f gb = countM g b st rows then "never" else "perhaps"
abbrev spVerdict (K : PySem.W.Frag) (C : Addr) : Sp := SpP (α := { p : (List Int × List Int) × (List Int × List Row) × Int × Bool // HearOk p.1.1 p.2.1.1 p.2.1.2 ∧ (0 ≤ p.2.2.1 ∧ p.2.2.1 ≤ p.1.1.length) ∧ ¬ countM p.1.1 p.1.2 p.2.1.1 p.2.1.2 = 0 }) (fun p => [PHo K C p.1.1.1 p.1.1.2, PD K (.tuple (li p.1.2.1.1)), PD K (logD p.1.2.1.2), PD K (.int p.1.2.2.1), PD K (.bool p.1.2.2.2)]) (fun p => PD K (.str (verdictM p.1.1.1 p.1.1.2 p.1.2.1.1 p.1.2.1.2 p.1.2.2.1 p.1.2.2.2)))
theorem ok_verdict (T : Txt K mg) : FnOk P w K mg base CX0 7 T.f_verdict T.d_verdict ["house", "start", "log", "floor", "goes_by"] (spVerdict K T.C_House) := by
  refine fn_F T.F_verdict sc_verdict (fun _ => rfl) fun ⟨⟨⟨g, b⟩, ⟨st, rows⟩, f, gb⟩, hok, hf, hn⟩ Z0 Z Q X qX hQ => ?_
  obtain ⟨cdv, A, outer, s, E, rfl, hr⟩ := qX
  have hk : HearOk g st rows := hok
  have hf' : 0 ≤ f ∧ f ≤ g.length := hf
  have hn' : ¬ countM g b st rows = 0 := hn
  have h9 := hk.nine
  have hl := linksM_ok (g := g) (b := b) hk.rows
  have hw := linksW_ok (rows := rows) (f := f) (gb := gb) hl
  obtain ⟨r, hr2⟩ := numsM_cons (g.length + 1) (linksM g b rows)
  obtain ⟨r3, hr3⟩ := numsM_cons (g.length + 1) (linksW rows (linksM g b rows) f gb)
  have hh3 := head_wide hw.wide
  refine xs_expr (xe_callD (ok_check_hearing T) ⟨((g, b), st, rows), hk.log, hk.nine, hk.start⟩ (hr.mono (by decide)) T.g_check_hearing T.F_check_hearing.kp T.b_check_hearing (xa_cons (xe_var 0) (xa_cons (xe_var 1) (xa_1 (xe_var 2))))) ?_
  refine xs_expr (xe_callD (ok_check_floors T) ⟨((g, b), [f]), fun x hx => by
    have e : x = f := by simpa using hx
    rw [e]
    exact hf'⟩ (hr.mono (by decide)) T.g_check_floors T.F_check_floors.kp T.b_check_floors (xa_cons (xe_var 0) (xa_1 (xe_tup (ds := [.int f]) (xa_1 (xe_var 3)) (by simp))))) ?_
  refine xs_asg 5 (xe_callD (ok_links_of T) ⟨((g, b), rows), hk.nine, hk.rows⟩ hr T.g_links_of T.F_links_of.kp T.b_links_of (xa_cons (xe_var 0) (xa_1 (xe_var 2)))) ?_ sc_verdict.nd
  refine xs_asg 6 (P := PD K (.int (countM g b st rows))) (xe_callD (ok_number_from T) ⟨(st, headM g b rows, r), hk.size, fun x hx => by
    have := hk.start x hx
    show 0 ≤ x ∧ x < (headM g b rows).length
    rw [headM_len hk.rows]
    omega⟩ (hr.mono (by decide)) T.g_number_from T.F_number_from.kp T.b_number_from (xa_cons (xe_var 1) (xa_1 (YE.dat (xe_callD (ok_numbers_ahead T) ⟨((g, b), linksM g b rows), hk.nine, hl⟩ (hr.mono (by decide)) T.g_numbers_ahead T.F_numbers_ahead.kp T.b_numbers_ahead (xa_cons (xe_var 0) (xa_1 (xe_var 5)))) (?_ : eLL _ = eLL _))))) ?_ sc_verdict.nd
  · exact congrArg eLL hr2
  refine xs_skip (YT.eq (xt_eqI (K := K) (xe_var 6) xe_int) (decide_eq_false hn')) ?_
  refine xs_filtG PyData.int st 7 8 (fun n => .int n) (fun x => !decide (x = f)) (xi_tup (xe_var 1)) (fun x hx s0 H0 C cl fp => by exact xt_neI (K := K) (xe_var 8) (xe_var 3)) (fun x hx _ s0 H0 C cl fp => by exact xe_var 8) ?_ sc_verdict.nd (blkOk_by rfl) (by have := hk.size; omega) cov0 (fun _ _ _ _ _ => pg_name (i := 8) sc_verdict.nd rfl (Or.inl rfl)) rfl
  refine xs_asg 9 (P := PD K (.int (countW g b st rows f gb))) (xe_callD (ok_number_fromL T) ⟨(st.filter fun x => !decide (x = f), (numsM (g.length + 1) (linksW rows (linksM g b rows) f gb)).headD [], r3), Nat.le_trans (List.length_filter_le _ _) hk.size, fun x hx => by
    have := hk.start x (List.mem_filter.mp hx).1
    show 0 ≤ x ∧ x < ((numsM (g.length + 1) (linksW rows (linksM g b rows) f gb)).headD []).length
    rw [hh3]
    omega⟩ (hr.mono (by decide)) T.g_number_from T.F_number_from.kp T.b_number_from (xa_cons (xe_var 7) (xa_1 (YE.dat (xe_callD (ok_numbers_ahead T) ⟨((g, b), linksW rows (linksM g b rows) f gb), hk.nine, hw⟩ (hr.mono (by decide)) T.g_numbers_ahead T.F_numbers_ahead.kp T.b_numbers_ahead (xa_cons (xe_var 0) (xa_1 (xe_callD (ok_links_without T) ⟨((rows, linksM g b rows), f, gb), hk.rows, fun l hl2 => ⟨by rw [hl.wide l hl2]; omega, fun es hes => by have := (hl.ends l hl2 es hes).1; omega⟩⟩ (hr.mono (by decide)) T.g_links_without T.F_links_without.kp T.b_links_without (xa_cons (xe_var 2) (xa_cons (xe_var 5) (xa_cons (xe_var 3) (xa_1 (xe_var 4))))))))) (?_ : eLL _ = eLL _))))) ?_ sc_verdict.nd
  · exact congrArg eLL hr3
  refine xs_if (xt_eqI (K := K) (xe_var 9) xe_int) (fun hb => ?_) fun hb => xs_then ?_
  · have hb' : countW g b st rows f gb = 0 := of_decide_eq_true hb.symm
    refine xs_ret (YE.dat (xe_str (K := K)) (congrArg PyData.str ?_)) fun v H0 H s k hv => hQ v H0 H s k hv
    show _ = verdictM g b st rows f gb
    unfold verdictM
    rw [if_pos hb']
  · have hb' : ¬ countW g b st rows f gb = 0 := of_decide_eq_false hb.symm
    refine xs_ret (P := PD K (.str (verdictM g b st rows f gb))) (xe_ifx (xt_eqI (K := K) (xe_var 9) (xe_var 6)) (fun h => ?_) fun h => ?_) fun v H0 H s k hv => hQ v H0 H s k hv
    · have h' : countW g b st rows f gb = countM g b st rows := of_decide_eq_true h.symm
      refine YE.dat (xe_str (K := K)) (congrArg PyData.str ?_)
      unfold verdictM
      rw [if_neg hb', if_pos h']
    · have h' : ¬ countW g b st rows f gb = countM g b st rows := of_decide_eq_false h.symm
      refine YE.dat (xe_str (K := K)) (congrArg PyData.str ?_)
      unfold verdictM
      rw [if_neg hb', if_neg h']
abbrev spJudged (K : PySem.W.Frag) (C : Addr) : Sp := SpP (α := { p : (List Int × List Int) × (List Int × List Row) × Int // HearOk p.1.1 p.2.1.1 p.2.1.2 ∧ (0 ≤ p.2.2 ∧ p.2.2 ≤ p.1.1.length) ∧ ¬ countM p.1.1 p.1.2 p.2.1.1 p.2.1.2 = 0 }) (fun p => [PHo K C p.1.1.1 p.1.1.2, PD K (.tuple (li p.1.2.1.1)), PD K (logD p.1.2.1.2), PD K (.int p.1.2.2)]) (fun p => PD K (.str (verdictM p.1.1.1 p.1.1.2 p.1.2.1.1 p.1.2.1.2 p.1.2.2 false)))
theorem ok_judged (T : Txt K mg) : FnOk P w K mg base CX0 8 T.f_judged T.d_judged ["house", "start", "log", "floor"] (spJudged K T.C_House) := by
  refine fn_F T.F_judged sc_judged (fun _ => rfl) fun ⟨⟨⟨g, b⟩, ⟨st, rows⟩, f⟩, hok, hf, hn⟩ Z0 Z Q X qX hQ => ?_
  obtain ⟨cdv, A, outer, s, E, rfl, hr⟩ := qX
  exact xs_ret (xe_callD (ok_verdict T) ⟨((g, b), (st, rows), f, false), hok, hf, hn⟩ hr T.g_verdict T.F_verdict.kp T.b_verdict (xa_cons (xe_var 0) (xa_cons (xe_var 1) (xa_cons (xe_var 2) (xa_cons (xe_var 3) (xa_1 xe_bl)))))) fun v H0 H s k hv => hQ v H0 H s k hv
end
end K61
namespace K61
open PySem L2 Lh
/-- the floors behind a row, from some floors -/
def behR (g b : List Int) (r : Row) (fl : List Int) : List Int := (rgI 0 (g.length + 1)).filter fun o => fl.any fun f => decide (o ∈ nextF g b r f)
def behM (g b : List Int) (rows : List Row) (fl : List Int) : List Int := rows.foldl (fun fl r => behR g b r fl) fl
/-- the first row that cannot be -/
def wrongM (g b : List Int) : List Row → List Int → Option Nat
  | [], _ => none
  | r :: rs, fl => if behR g b r fl = [] then some 0 else (wrongM g b rs (behR g b r fl)).map (· + 1)
def wrongD : Option Nat → PyData
  | none => .none
  | some i => .int (i : Nat)
theorem behR_in {g b : List Int} {r : Row} {fl : List Int} : ∀ x ∈ behR g b r fl, 0 ≤ x ∧ x ≤ g.length := fun x hx => fl_in (List.mem_filter.mp hx).1
theorem behR_len {g b : List Int} {r : Row} {fl : List Int} : (behR g b r fl).length ≤ g.length + 1 := by
  have := List.length_filter_le (fun o => fl.any fun f => decide (o ∈ nextF g b r f)) (rgI 0 (g.length + 1))
  rw [rgI_len] at this
  exact this
theorem behM_take {g b : List Int} {rows : List Row} {fl : List Int} {t : Nat} {r : Row} (h : rows[t]? = some r) : behM g b (rows.take (t + 1)) fl = behR g b r (behM g b (rows.take t) fl) := by
  unfold behM
  rw [List.take_add_one, h]
  simp
section
variable {K : PySem.W.Frag} {mg : Str → Option Value} {base : Heap} {P : Program} {w : World}
abbrev spBehR (K : PySem.W.Frag) (C : Addr) : Sp := SpP (α := { p : (List Int × List Int) × Row × List Int // p.1.1.length ≤ 9 ∧ p.2.2.length ≤ 1000 ∧ ∀ x ∈ p.2.2, 0 ≤ x ∧ x ≤ p.1.1.length }) (fun p => [PHo K C p.1.1.1 p.1.1.2, PD K (rowD p.1.2.1), PD K (eL p.1.2.2)]) (fun p => PD K (eL (behR p.1.1.1 p.1.1.2 p.1.2.1 p.1.2.2)))
abbrev spBeh (K : PySem.W.Frag) (C : Addr) : Sp := SpP (α := { p : (List Int × List Int) × List Int × List Row // HearOk p.1.1 p.2.1 p.2.2 }) (fun p => [PHo K C p.1.1.1 p.1.1.2, PD K (.tuple (li p.1.2.1)), PD K (logD p.1.2.2)]) (fun p => PD K (eL (behM p.1.1.1 p.1.1.2 p.1.2.2 p.1.2.1)))
/-- what the floors are on the way -/
theorem behM_ok {g b st : List Int} {rows : List Row} (hk : HearOk g st rows) : ∀ t, (behM g b (rows.take t) st).length ≤ 1000 ∧ ∀ x ∈ behM g b (rows.take t) st, 0 ≤ x ∧ x ≤ g.length
  | 0 => ⟨hk.size, hk.start⟩
  | t + 1 => by
    cases h : rows[t]? with
    | none =>
      have e : rows.take (t + 1) = rows.take t := by
        rw [List.take_add_one, h]
        simp
      rw [e]
      exact behM_ok hk t
    | some r =>
      rw [behM_take h]
      exact ⟨by have := behR_len (g := g) (b := b) (r := r) (fl := behM g b (rows.take t) st); have := hk.nine; omega, behR_in⟩
theorem ok_floors_behind (T : Txt K mg) (FB : FnOk P w K mg base CX0 6 T.f_floors_behind_row T.d_floors_behind_row ["house", "row", "floors"] (spBehR K T.C_House)) : FnOk P w K mg base CX0 7 T.f_floors_behind T.d_floors_behind ["house", "start", "log"] (spBeh K T.C_House) := by
  refine fn_F T.F_floors_behind sc_floors_behind (fun _ => rfl) fun ⟨⟨⟨g, b⟩, st, rows⟩, hok⟩ Z0 Z Q X qX hQ => ?_
  obtain ⟨cdv, A, outer, s, E, rfl, hr⟩ := qX
  have hk : HearOk g st rows := hok
  refine xs_expr (xe_callD (ok_check_hearing T) ⟨((g, b), st, rows), hk.log, hk.nine, hk.start⟩ (hr.mono (by decide)) T.g_check_hearing T.F_check_hearing.kp T.b_check_hearing (xa_cons (xe_var 0) (xa_cons (xe_var 1) (xa_1 (xe_var 2))))) ?_
  refine xs_asg 3 (xe_listT T.z_list (xe_var 1)) ?_ sc_floors_behind.nd
  refine xs_forN 4 (xi_list (xe_var 2)) (fun t Γ1 Rs1 => Rs1 = [] ∧ ∃ a, Γ1 = [some (PHo K T.C_House g b), some (PD K (.tuple (li st))), some (PD K (logD rows)), some (PD K (eL (behM g b (rows.take t) st))), a]) ⟨rfl, none, rfl⟩ ?_ ?_ sc_floors_behind.nd
  · rintro t Qt Γ1 Rs1 hq ⟨rfl, a, rfl⟩ Hs
    obtain ⟨d, hd, rfl⟩ := map_at hq
    obtain ⟨r, hrr, rfl⟩ := enc_at hd
    have hrr' : rows[t]? = some r := hrr
    obtain ⟨q1, q2⟩ := behM_ok (b := b) hk t
    refine xs_asg 3 (P := PD K (eL (behM g b (rows.take (t + 1)) st))) (YE.dat (xe_callD FB ⟨((g, b), r, behM g b (rows.take t) st), hk.nine, q1, q2⟩ hr T.g_floors_behind_row T.F_floors_behind_row.kp T.b_floors_behind_row (xa_cons (xe_var 0) (xa_cons (xe_var 4) (xa_1 (xe_var 3))))) (congrArg eL (behM_take hrr').symm)) (xs_turn (fun σ H h => h) ⟨rfl, _, rfl⟩) sc_floors_behind.nd
  · rintro Γ1 Rs1 ⟨rfl, a, rfl⟩
    refine xs_ret (YE.dat (xe_var 3) ?_) fun v H0 H s k hv => hQ v H0 H s k hv
    have e : ((rows.map fun r => PyData.tuple r.ds).map (PD K)).length = rows.length := by simp
    show eL (behM g b (rows.take ((rows.map fun r => PyData.tuple r.ds).map (PD K)).length) st) = _
    rw [e, List.take_length]
abbrev spWrong (K : PySem.W.Frag) (C : Addr) : Sp := SpP (α := { p : (List Int × List Int) × List Int × List Row // HearOk p.1.1 p.2.1 p.2.2 }) (fun p => [PHo K C p.1.1.1 p.1.1.2, PD K (.tuple (li p.1.2.1)), PD K (logD p.1.2.2)]) (fun p => PD K (wrongD (wrongM p.1.1.1 p.1.1.2 p.1.2.2 p.1.2.1)))
end
end K61
namespace K61
open PySem L2 Lh
theorem behR_mem {g b : List Int} {r : Row} {fl : List Int} (hfl : ∀ f ∈ fl, 0 ≤ f ∧ f ≤ g.length) {o : Int} : o ∈ behR g b r fl ↔ ∃ f ∈ fl, o ∈ nextF g b r f := by
  unfold behR
  rw [List.mem_filter, List.any_eq_true]
  constructor
  · rintro ⟨_, f, hf, h⟩
    exact ⟨f, hf, of_decide_eq_true h⟩
  · rintro ⟨f, hf, h⟩
    have := nextF_in (hfl f hf) h
    exact ⟨mem_rgI.mpr (by omega), f, hf, decide_eq_true h⟩
theorem beh_app {g b : List Int} {one other : List Row} {fl : List Int} : behM g b (one ++ other) fl = behM g b other (behM g b one fl) := by
  unfold behM
  rw [List.foldl_append]
end K61
namespace K61
open PySem L2 Lh
section
variable {K : PySem.W.Frag} {mg : Str → Option Value} {base : Heap} {P : Program} {w : World}
theorem ok_floors_behind_row (T : Txt K mg) : FnOk P w K mg base CX0 6 T.f_floors_behind_row T.d_floors_behind_row ["house", "row", "floors"] (spBehR K T.C_House) := by
  refine fn_F T.F_floors_behind_row sc_floors_behind_row (fun _ => rfl) fun ⟨⟨⟨g, b⟩, r, fl⟩, h9, hz, hr2⟩ Z0 Z Q X qX hQ => ?_
  obtain ⟨cdv, A, outer, s, E, rfl, hr⟩ := qX
  have h9' : g.length ≤ 9 := h9
  have hf : ∀ x ∈ fl, 0 ≤ x ∧ x ≤ g.length := hr2
  have hl : ((li fl).map (PD K)).length = fl.length := by simp [li]
  refine xs_ret (xe_sortSx 3 4 (by decide) T.z_sorted (xi_list (xe_var 2)) (fun n => nextF g b r (fl.getD n 0)) (behR g b r fl) ((rgI_up _).sublist List.filter_sublist) (by
    have := behR_len (g := g) (b := b) (r := r) (fl := fl)
    omega) (fun z => ?_) (fun n Qn hn => ?_) (fun n Qn hn z hzm => ?_) sc_floors_behind_row.nd (blkOk_by rfl) cov0 (fun _ _ _ _ _ => pg_name (i := 3) sc_floors_behind_row.nd rfl (Or.inl rfl)) (fun _ _ _ _ _ => pg_name (i := 4) sc_floors_behind_row.nd rfl (Or.inl rfl))) fun v H0 H s k hv => hQ v H0 H s k hv
  · rw [behR_mem hf]
    show _ ↔ ∃ n, n < ((li fl).map (PD K)).length ∧ z ∈ nextF g b r (fl.getD n 0)
    rw [hl]
    constructor
    · rintro ⟨f, hfm, ho⟩
      obtain ⟨n, h1, h2⟩ := List.getElem_of_mem hfm
      refine ⟨n, h1, ?_⟩
      rw [List.getD_eq_getElem?_getD, List.getElem?_eq_getElem h1, h2]
      exact ho
    · rintro ⟨n, h1, ho⟩
      rw [List.getD_eq_getElem?_getD, List.getElem?_eq_getElem h1] at ho
      exact ⟨_, List.getElem_mem h1, ho⟩
  · obtain ⟨d, hd, rfl⟩ := map_at hn
    obtain ⟨f, hfn, rfl⟩ := li_at hd
    have e : fl.getD n 0 = f := by rw [List.getD_eq_getElem?_getD, hfn]; rfl
    rw [e]
    have hfr := hf f (List.mem_of_getElem? hfn)
    have e2 : ((nextF g b r f).map fun z => PD K (.int z)) = (li (nextF g b r f)).map (PD K) := by simp [li]
    intro z0 G0 C cl fp
    show XI M0 _ _ _ _ _ ((nextF g b r f).map fun z => PD K (.int z))
    rw [e2]
    exact xi_list (xe_callD (ok_next_floors T) ⟨((g, b), r, f), hfr, h9'⟩ hr T.g_next_floors T.F_next_floors.kp T.b_next_floors (xa_cons (xe_var 0) (xa_cons (xe_var 1) (xa_1 (xe_var 3)))))
  · intro z0 G0 C cl fp
    exact xe_var 4
end
end K61
namespace K61
open PySem L2 Lh
theorem gtI_nn {v : List Int} (h : ∀ x ∈ v, 0 ≤ x) (i : Int) : 0 ≤ gtI v i := by
  unfold gtI
  rw [List.getD_eq_getElem?_getD]
  cases e : v[i.toNat]? with
  | none => simp
  | some x => exact h x (List.mem_of_getElem? e)
theorem sum_nn : ∀ {l : List Int}, (∀ x ∈ l, 0 ≤ x) → 0 ≤ l.sum
  | [], _ => by simp
  | x :: l, h => by
    have h1 := h x List.mem_cons_self
    have h2 := sum_nn (l := l) fun y hy => h y (List.mem_cons_of_mem _ hy)
    rw [List.sum_cons]
    omega
theorem sumAt_nn {v : List Int} (h : ∀ x ∈ v, 0 ≤ x) (fl : List Int) : 0 ≤ sumAt v fl := sum_nn fun x hx => by
  obtain ⟨f, _, rfl⟩ := List.mem_map.mp hx
  exact gtI_nn h f
theorem rowAt_map {n : Nat} (h : Int → List Int) {f : Int} (h0 : 0 ≤ f) (h1 : f < n) : rowAt ((rgI 0 n).map h) f = h f := by
  have hlt : f.toNat < n := by omega
  have e : max f 0 = f := by omega
  unfold rowAt rgI
  simp [hlt, h0, e]
theorem headM_cons {g b : List Int} {r : Row} {rs : List Row} : headM g b (r :: rs) = stepM ((rgI 0 (g.length + 1)).map fun f => nextF g b r f) (headM g b rs) := rfl
theorem headM_at {g b : List Int} {r : Row} {rs : List Row} {f : Int} (h0 : 0 ≤ f) (h1 : f ≤ g.length) : gtI (headM g b (r :: rs)) f = sumAt (headM g b rs) (nextF g b r f) := by
  rw [headM_cons, stepM_at h0 (by rw [List.length_map, rgI_len]; omega), rowAt_map _ h0 (by omega)]
theorem headM_nn {g b : List Int} : ∀ rows, ∀ x ∈ headM g b rows, 0 ≤ x
  | [], x, hx => by
    have := List.eq_of_mem_replicate (show x ∈ List.replicate (g.length + 1) (1 : Int) from hx)
    omega
  | r :: rs, x, hx => by
    rw [headM_cons] at hx
    obtain ⟨es, _, rfl⟩ := List.mem_map.mp hx
    exact sumAt_nn (headM_nn rs) es
theorem headM_nil_at {g b : List Int} {f : Int} (h0 : 0 ≤ f) (h1 : f ≤ g.length) : gtI (headM g b []) f = 1 := by
  have hlt : f.toNat < g.length + 1 := by omega
  show gtI (List.replicate (g.length + 1) 1) f = 1
  unfold gtI
  simp [hlt]
theorem nextF_sub {g b : List Int} {r : Row} {f : Int} (hf : 0 ≤ f ∧ f ≤ g.length) : (nextF g b r f).Sublist (rgI 0 (g.length + 1)) := by
  have hm : f ∈ rgI 0 (g.length + 1) := mem_rgI.mpr (by omega)
  have h1 : [f].Sublist (rgI 0 (g.length + 1)) := List.singleton_sublist.mpr hm
  cases r with
  | go s => exact List.filter_sublist
  | gap => exact List.Sublist.refl _
  | door => exact h1
  | bell u =>
    show (if decide (f ∈ b) = u then [f] else []).Sublist _
    split
    · exact h1
    · exact List.nil_sublist _
  | look l =>
    show (if f ∈ l then [f] else []).Sublist _
    split
    · exact h1
    · exact List.nil_sublist _
theorem nextF_up {g b : List Int} {r : Row} {f : Int} (hf : 0 ≤ f ∧ f ≤ g.length) : (nextF g b r f).Pairwise (· < ·) := (rgI_up _).sublist (nextF_sub hf)
theorem filter_of_sub : ∀ {s l : List Int}, s.Sublist l → l.Nodup → l.filter (fun x => decide (x ∈ s)) = s
  | _, _, .slnil, _ => rfl
  | s, x :: l, .cons _ h, nd => by
    obtain ⟨h1, h2⟩ := List.nodup_cons.mp nd
    have : x ∉ s := fun hx => h1 (h.subset hx)
    rw [List.filter_cons, if_neg (by simpa using this)]
    exact filter_of_sub h h2
  | x :: s, _ :: l, .cons₂ _ h, nd => by
    obtain ⟨h1, h2⟩ := List.nodup_cons.mp nd
    rw [List.filter_cons, if_pos (by simp)]
    congr 1
    have e : l.filter (fun y => decide (y ∈ x :: s)) = l.filter (fun y => decide (y ∈ s)) := by
      refine List.filter_congr fun y hy => ?_
      have : y ≠ x := fun e => h1 (e ▸ hy)
      simp [this]
    rw [e]
    exact filter_of_sub h h2
theorem sum_bits (S : Int → Int) (p : Int → Bool) : ∀ l : List Int, (l.map fun m => b2n (p m) * S m).sum = ((l.filter p).map S).sum
  | [] => rfl
  | x :: l => by
    rw [List.map_cons, List.sum_cons, sum_bits S p l, List.filter_cons]
    cases p x with
    | true =>
      rw [if_pos rfl, List.map_cons, List.sum_cons]
      show (1 : Int) * S x + _ = _
      omega
    | false =>
      rw [if_neg (by simp)]
      show (0 : Int) * S x + _ = _
      omega
theorem sum_add (f h : Int → Int) : ∀ l : List Int, (l.map fun x => f x + h x).sum = (l.map f).sum + (l.map h).sum
  | [] => rfl
  | x :: l => by
    rw [List.map_cons, List.map_cons, List.map_cons, List.sum_cons, List.sum_cons, List.sum_cons, sum_add f h l]
    omega
theorem sum_mul (c : Int) (f : Int → Int) : ∀ l : List Int, (l.map fun x => c * f x).sum = c * (l.map f).sum
  | [] => by simp
  | x :: l => by
    rw [List.map_cons, List.map_cons, List.sum_cons, List.sum_cons, sum_mul c f l, Int.mul_add]
theorem sum_zero : ∀ l : List Int, (l.map fun _ => (0 : Int)).sum = 0
  | [] => rfl
  | x :: l => by
    rw [List.map_cons, List.sum_cons, sum_zero l]
    rfl
theorem sum_swap (c : Int → Int) (d : Int → Int → Int) (ks : List Int) : ∀ ms : List Int, (ks.map fun k => (ms.map fun m => c m * d m k).sum).sum = (ms.map fun m => c m * (ks.map (d m)).sum).sum
  | [] => sum_zero ks
  | m :: ms => by
    have e : (ks.map fun k => ((m :: ms).map fun m => c m * d m k).sum) = ks.map fun k => c m * d m k + (ms.map fun m => c m * d m k).sum := by
      refine List.map_congr_left fun k _ => ?_
      rw [List.map_cons, List.sum_cons]
    rw [e, sum_add (fun k => c m * d m k), sum_mul, sum_swap c d ks ms, List.map_cons, List.sum_cons]
/-! ### the number of a way -/
def before (v fl : List Int) (f : Int) : Int := ((fl.filter fun x => decide (x < f)).map (gtI v)).sum
/-- what is known of a way that is drawn: its number so far -/
structure Trail (g b st : List Int) (rows : List Row) (t : Nat) (way : List Int) (w N : Int) : Prop where
  len : way.length = t + 1
  last : way.getLast? = some w
  rng : 0 ≤ w ∧ w ≤ g.length
  nn : 0 ≤ N
  pos : 0 < gtI (headM g b (rows.drop t)) w
  top : N + gtI (headM g b (rows.drop t)) w ≤ countM g b st rows
  num : ∀ i, 0 ≤ i → i < gtI (headM g b (rows.drop t)) w → atM g b st rows (N + i) = way ++ wayM (g.length + 1) (linksM g b (rows.drop t)) w i
end K61
namespace K61
open PySem L2 Lh
/-- the ways of a log from a floor -/
abbrev S (g b : List Int) (rows : List Row) (f : Int) : Int := gtI (headM g b rows) f
theorem sum_swap2 (a : Int → Int → Int) (c : Int → Int) (ms : List Int) : ∀ ls : List Int, (ls.map fun o => (ms.map fun m => a o m * c m).sum).sum = (ms.map fun m => (ls.map fun o => a o m).sum * c m).sum
  | [] => by
    have e : (ms.map fun m => (([] : List Int).map fun o => a o m).sum * c m) = ms.map fun _ => (0 : Int) := List.map_congr_left fun m _ => by simp
    rw [e, sum_zero]
    rfl
  | o :: ls => by
    rw [List.map_cons, List.sum_cons, sum_swap2 a c ms ls]
    have e : (ms.map fun m => ((o :: ls).map fun o => a o m).sum * c m) = ms.map fun m => a o m * c m + (ls.map fun o => a o m).sum * c m := List.map_congr_left fun m _ => by
      rw [List.map_cons, List.sum_cons, Int.add_mul]
    rw [e, sum_add (fun m => a o m * c m)]
theorem pick_one (c : Int → Int) {m : Int} : ∀ {l : List Int}, l.Nodup → m ∈ l → (l.map fun x => (if m = x then (1 : Int) else 0) * c x).sum = c m
  | [], _, h => by cases h
  | x :: l, nd, h => by
    obtain ⟨h1, h2⟩ := List.nodup_cons.mp nd
    rw [List.map_cons, List.sum_cons]
    by_cases e : m = x
    · subst e
      have z : (l.map fun x => (if m = x then (1 : Int) else 0) * c x) = l.map fun _ => (0 : Int) := List.map_congr_left fun y hy => by
        have : ¬ m = y := fun e => h1 (e ▸ hy)
        simp [this]
      rw [z, sum_zero, if_pos rfl]
      omega
    · rw [if_neg e, pick_one c h2 ((List.mem_cons.mp h).resolve_left e)]
      omega
/-- to look at one floor only -/
theorem S_look {g b : List Int} {m f : Int} (hf : 0 ≤ f ∧ f ≤ g.length) : S g b [.look [m]] f = if f = m then 1 else 0 := by
  show gtI (headM g b [.look [m]]) f = _
  rw [headM_at hf.1 hf.2]
  by_cases e : f = m
  · subst e
    have : nextF g b (.look [f]) f = [f] := by
      show (if f ∈ [f] then [f] else []) = _
      simp
    rw [this, if_pos rfl]
    show (([f] : List Int).map fun x => gtI (headM g b []) x).sum = 1
    simp only [List.map_cons, List.map_nil, List.sum_cons, List.sum_nil]
    rw [headM_nil_at hf.1 hf.2]
    rfl
  · have : nextF g b (.look [m]) f = [] := by
      show (if f ∈ [m] then [f] else []) = _
      simp [e]
    rw [this, if_neg e]
    rfl
/-- a log in two parts, by the floor between -/
theorem S_parts {g b : List Int} {other : List Row} : ∀ (one : List Row) {f : Int}, 0 ≤ f ∧ f ≤ g.length → S g b (one ++ other) f = ((rgI 0 (g.length + 1)).map fun m => S g b (one ++ [.look [m]]) f * S g b other m).sum
  | [], f, hf => by
    have e : ((rgI 0 (g.length + 1)).map fun m => S g b ([] ++ [.look [m]]) f * S g b other m) = (rgI 0 (g.length + 1)).map fun m => (if f = m then (1 : Int) else 0) * S g b other m := List.map_congr_left fun m _ => by
      show S g b [.look [m]] f * S g b other m = _
      rw [S_look hf]
    rw [e, pick_one (S g b other) ((rgI_up _).imp fun h e => by omega) (mem_rgI.mpr (by omega))]
    rfl
  | r :: one, f, hf => by
    show gtI (headM g b (r :: (one ++ other))) f = _
    rw [headM_at hf.1 hf.2]
    have e : ((nextF g b r f).map fun o => S g b (one ++ other) o) = (nextF g b r f).map fun o => ((rgI 0 (g.length + 1)).map fun m => S g b (one ++ [.look [m]]) o * S g b other m).sum := List.map_congr_left fun o ho => S_parts one (nextF_in hf ho)
    show ((nextF g b r f).map fun o => S g b (one ++ other) o).sum = _
    rw [e, sum_swap2]
    congr 1
    refine List.map_congr_left fun m _ => ?_
    have e2 : S g b (r :: one ++ [.look [m]]) f = ((nextF g b r f).map fun o => S g b (one ++ [.look [m]]) o).sum := by
      show gtI (headM g b (r :: (one ++ [.look [m]]))) f = _
      rw [headM_at hf.1 hf.2]
      rfl
    rw [e2]
theorem count_parts {g b st : List Int} {one other : List Row} (hs : ∀ x ∈ st, 0 ≤ x ∧ x ≤ g.length) : countM g b st (one ++ other) = ((rgI 0 (g.length + 1)).map fun m => countM g b st (one ++ [.look [m]]) * countM g b [m] other).sum := by
  have e : (st.map fun f => S g b (one ++ other) f) = st.map fun f => ((rgI 0 (g.length + 1)).map fun m => S g b (one ++ [.look [m]]) f * S g b other m).sum := List.map_congr_left fun f hf => S_parts one (hs f hf)
  show (st.map fun f => S g b (one ++ other) f).sum = _
  rw [e, sum_swap2]
  congr 1
  refine List.map_congr_left fun m _ => ?_
  have e2 : countM g b [m] other = S g b other m := by
    show (([m] : List Int).map fun f => S g b other f).sum = _
    simp
  rw [e2]
  rfl
end K61
namespace K61
open PySem L2 Lh
/-- the ways of a log from a floor to a floor -/
abbrev Pt (g b : List Int) (rows : List Row) (f m : Int) : Int := S g b (rows ++ [.look [m]]) f
theorem Pt_cons {g b : List Int} {r : Row} {rows : List Row} {f m : Int} (hf : 0 ≤ f ∧ f ≤ g.length) : Pt g b (r :: rows) f m = ((nextF g b r f).map fun o => Pt g b rows o m).sum := by
  show gtI (headM g b (r :: (rows ++ [.look [m]]))) f = _
  rw [headM_at hf.1 hf.2]
  rfl
/-- one row: is it a step -/
theorem Pt_one {g b : List Int} {r : Row} {f m : Int} (hf : 0 ≤ f ∧ f ≤ g.length) : Pt g b [r] f m = if m ∈ nextF g b r f then 1 else 0 := by
  rw [Pt_cons hf]
  have e : ((nextF g b r f).map fun o => Pt g b [] o m) = (nextF g b r f).map fun o => (if m = o then (1 : Int) else 0) * 1 := List.map_congr_left fun o ho => by
    show S g b [.look [m]] o = _
    rw [S_look (nextF_in hf ho)]
    by_cases h : o = m
    · rw [if_pos h, if_pos h.symm]
      rfl
    · rw [if_neg h, if_neg fun e => h e.symm]
      rfl
  rw [e]
  have nd : (nextF g b r f).Nodup := (nextF_up hf).imp fun h e => by omega
  by_cases h : m ∈ nextF g b r f
  · rw [if_pos h, pick_one (fun _ => 1) nd h]
  · rw [if_neg h]
    have z : ((nextF g b r f).map fun o => (if m = o then (1 : Int) else 0) * 1) = (nextF g b r f).map fun _ => (0 : Int) := List.map_congr_left fun o ho => by
      have : ¬ m = o := fun e => h (e ▸ ho)
      simp [this]
    rw [z, sum_zero]
end K61
namespace K61
open PySem L2 Lh
theorem sum_pos {c : Int → Int} : ∀ {l : List Int}, (∀ x ∈ l, 0 ≤ c x) → (0 < (l.map c).sum ↔ ∃ x ∈ l, 0 < c x)
  | [], _ => by simp
  | x :: l, h => by
    have h1 := h x List.mem_cons_self
    have h2 := sum_pos (c := c) (l := l) fun y hy => h y (List.mem_cons_of_mem _ hy)
    have h3 : 0 ≤ (l.map c).sum := sum_nn fun y hy => by
      obtain ⟨z, hz, rfl⟩ := List.mem_map.mp hy
      exact h z (List.mem_cons_of_mem _ hz)
    rw [List.map_cons, List.sum_cons]
    constructor
    · intro q
      by_cases e : 0 < c x
      · exact ⟨x, List.mem_cons_self, e⟩
      · obtain ⟨y, hy, hp⟩ := h2.mp (by omega)
        exact ⟨y, List.mem_cons_of_mem _ hy, hp⟩
    · rintro ⟨y, hy, hp⟩
      rcases List.mem_cons.mp hy with e | hy2
      · subst e
        omega
      · have := h2.mpr ⟨y, hy2, hp⟩
        omega
theorem S_nn {g b : List Int} {rows : List Row} (f : Int) : 0 ≤ S g b rows f := gtI_nn (headM_nn rows) f
/-- the floors behind a log are those to which a way leads -/
theorem beh_iff {g b : List Int} {m : Int} : ∀ (rows : List Row) {fl : List Int}, (∀ f ∈ fl, 0 ≤ f ∧ f ≤ g.length) → (m ∈ behM g b rows fl ↔ 0 < countM g b fl (rows ++ [.look [m]]))
  | [], fl, hfl => by
    show m ∈ fl ↔ 0 < (fl.map fun f => S g b [.look [m]] f).sum
    rw [sum_pos fun x _ => S_nn x]
    constructor
    · intro h
      refine ⟨m, h, ?_⟩
      show 0 < S g b [.look [m]] m
      rw [S_look (hfl m h), if_pos rfl]
      decide
    · rintro ⟨f, hf, hp⟩
      have hp' : 0 < S g b [.look [m]] f := hp
      rw [S_look (hfl f hf)] at hp'
      by_cases e : f = m
      · exact e ▸ hf
      · rw [if_neg e] at hp'
        exact absurd hp' (by decide)
  | r :: rows, fl, hfl => by
    have ih := beh_iff (g := g) (b := b) (m := m) rows (fl := behR g b r fl) behR_in
    have e1 : behM g b (r :: rows) fl = behM g b rows (behR g b r fl) := rfl
    rw [e1, ih]
    show 0 < ((behR g b r fl).map fun o => Pt g b rows o m).sum ↔ 0 < (fl.map fun f => Pt g b (r :: rows) f m).sum
    rw [sum_pos fun x _ => S_nn x, sum_pos fun x _ => S_nn x]
    constructor
    · rintro ⟨o, ho, hp⟩
      obtain ⟨f, hf, hn⟩ := (behR_mem hfl).mp ho
      refine ⟨f, hf, ?_⟩
      show 0 < Pt g b (r :: rows) f m
      rw [Pt_cons (hfl f hf), sum_pos fun x _ => S_nn x]
      exact ⟨o, hn, hp⟩
    · rintro ⟨f, hf, hp⟩
      have hp1 : 0 < Pt g b (r :: rows) f m := hp
      rw [Pt_cons (hfl f hf), sum_pos fun x _ => S_nn x] at hp1
      obtain ⟨o, hn, hp2⟩ := hp1
      exact ⟨o, (behR_mem hfl).mpr ⟨f, hf, hn⟩, hp2⟩
end K61
namespace K61
open PySem L2 Lh
/-! ### the first row that cannot be -/
theorem count_pos {g b st : List Int} {rows : List Row} (hs : ∀ x ∈ st, 0 ≤ x ∧ x ≤ g.length) : 0 < countM g b st rows ↔ behM g b rows st ≠ [] := by
  have nn : ∀ m, 0 ≤ countM g b st (rows ++ [.look [m]]) := fun m => sumAt_nn (headM_nn _) st
  have e := count_parts (g := g) (b := b) (st := st) (one := rows) (other := []) hs
  rw [List.append_nil] at e
  have e1 : ((rgI 0 (g.length + 1)).map fun m => countM g b st (rows ++ [.look [m]]) * countM g b [m] []) = (rgI 0 (g.length + 1)).map fun m => countM g b st (rows ++ [.look [m]]) := List.map_congr_left fun m hm => by
    have hm' := fl_in hm
    have : countM g b [m] [] = 1 := by
      show (([m] : List Int).map fun f => gtI (headM g b []) f).sum = 1
      simp only [List.sum_cons, List.sum_nil, List.map_cons, List.map_nil]
      rw [headM_nil_at hm'.1 hm'.2]
      rfl
    rw [this, Int.mul_one]
  rw [e1] at e
  rw [e, sum_pos fun m _ => nn m]
  constructor
  · rintro ⟨m, _, h⟩ z
    have := (beh_iff rows hs).2 h
    rw [z] at this
    cases this
  · intro h
    obtain ⟨m, hm⟩ := List.exists_mem_of_ne_nil _ h
    have h2 : 0 ≤ m ∧ m ≤ g.length := by
      cases rows with
      | nil => exact hs m hm
      | cons r rows =>
        rw [show r :: rows = (r :: rows).dropLast ++ [(r :: rows).getLast (by simp)] from (List.dropLast_concat_getLast (by simp)).symm, beh_app] at hm
        exact behR_in m hm
    exact ⟨m, mem_rgI.mpr (by omega), (beh_iff rows hs).1 hm⟩
/-! ### a way -/
/-- from a floor: the floors behind the rows, one by one -/
def Way (g b : List Int) : List Row → Int → List Int → Prop
  | [], _, l => l = []
  | r :: rs, f, l => ∃ o l', l = o :: l' ∧ o ∈ nextF g b r f ∧ Way g b rs o l'
theorem Way.len {g b : List Int} : ∀ {rows : List Row} {f : Int} {l : List Int}, Way g b rows f l → l.length = rows.length
  | [], _, _, h => by
    have h' : _ = [] := h
    rw [h']
    rfl
  | r :: rs, f, l, ⟨o, l', e, _, h⟩ => by
    rw [e, List.length_cons, h.len]
    rfl
/-- its floor at a moment lies in the floors behind the rows until then -/
theorem Way.beh {g b : List Int} : ∀ {rows : List Row} {f : Int} {l fl : List Int}, Way g b rows f l → f ∈ fl → (∀ x ∈ fl, 0 ≤ x ∧ x ≤ g.length) → ∀ (k : Nat) (x : Int), (f :: l)[k]? = some x → x ∈ behM g b (rows.take k) fl
  | rows, f, l, fl, _, hf, _, 0, x, h => by
    have e : f = x := Option.some.inj h
    rw [List.take_zero]
    exact e ▸ hf
  | [], f, l, fl, h, hf, _, k + 1, x, hk => by
    have h' : l = [] := h
    rw [h'] at hk
    simp at hk
  | r :: rs, f, l, fl, ⟨o, l', e, ho, h⟩, hf, hr, k + 1, x, hk => by
    rw [e] at hk
    have hk' : (o :: l')[k]? = some x := hk
    show x ∈ behM g b (rs.take k) (behR g b r fl)
    exact h.beh ((behR_mem hr).2 ⟨f, hf, ho⟩) behR_in k x hk'
theorem Way.pos {g b : List Int} : ∀ {rows : List Row} {f : Int} {l : List Int}, (0 ≤ f ∧ f ≤ g.length) → Way g b rows f l → 0 < S g b rows f
  | [], f, l, hf, _ => by
    show 0 < gtI (headM g b []) f
    rw [headM_nil_at hf.1 hf.2]
    decide
  | r :: rs, f, l, hf, ⟨o, l', _, ho, h⟩ => by
    show 0 < gtI (headM g b (r :: rs)) f
    rw [headM_at hf.1 hf.2]
    exact (sum_pos fun x _ => S_nn x).2 ⟨o, ho, h.pos (nextF_in hf ho)⟩
theorem sum_le {c d : Int → Int} : ∀ {l : List Int}, (∀ x ∈ l, c x ≤ d x) → (l.map c).sum ≤ (l.map d).sum
  | [], _ => Int.le_refl _
  | x :: l, h => by
    have h1 := h x List.mem_cons_self
    have h2 := sum_le (l := l) fun y hy => h y (List.mem_cons_of_mem _ hy)
    rw [List.map_cons, List.map_cons, List.sum_cons, List.sum_cons]
    omega
theorem sum_lt {c d : Int → Int} {a : Int} : ∀ {l : List Int}, (∀ x ∈ l, c x ≤ d x) → a ∈ l → c a < d a → (l.map c).sum < (l.map d).sum
  | x :: l, h, ha, hlt => by
    have h1 := h x List.mem_cons_self
    have h2 := sum_le (l := l) fun y hy => h y (List.mem_cons_of_mem _ hy)
    rw [List.map_cons, List.map_cons, List.sum_cons, List.sum_cons]
    rcases List.mem_cons.mp ha with q | ha
    · subst q
      omega
    · have h3 := sum_lt (l := l) (fun y hy => h y (List.mem_cons_of_mem _ hy)) ha hlt
      omega
/-- without a floor: as a sum over all of them -/
theorem sum_without (c : Int → Int) (x : Int) : ∀ l : List Int, ((l.filter fun o => !decide (o = x)).map c).sum = (l.map fun o => if o = x then 0 else c o).sum
  | [] => rfl
  | o :: l => by
    have ih := sum_without c x l
    rw [List.filter_cons, List.map_cons, List.sum_cons, ← ih]
    by_cases e : o = x
    · rw [if_neg (by simp [e]), if_pos e]
      omega
    · rw [if_pos (by simp [e]), if_neg e, List.map_cons, List.sum_cons]
/-! ### how many there can be -/
theorem sum_cap {c : Int → Int} {m : Int} : ∀ {l : List Int}, (∀ x ∈ l, c x ≤ m) → (l.map c).sum ≤ l.length * m
  | [], _ => by simp
  | x :: l, h => by
    have h1 := h x List.mem_cons_self
    have h2 := sum_cap (l := l) fun y hy => h y (List.mem_cons_of_mem _ hy)
    rw [List.map_cons, List.sum_cons, List.length_cons]
    have e : ((l.length + 1 : Nat) : Int) * m = l.length * m + m := by
      rw [Int.natCast_add, Int.add_mul]
      simp
    rw [e]
    omega
theorem log_cap {c : Int} {n : Nat} (h0 : 0 < c) (h : c ≤ (10 : Int) ^ (n + 1)) (hn : n ≤ 2000) : c.natAbs.log2 < 9000 := by
  have h1 : c.natAbs < 2 ^ (4 * (n + 1)) := by
    have e : (2 : Nat) ^ (4 * (n + 1)) = 16 ^ (n + 1) := by rw [Nat.pow_mul]
    have h2 : (10 : Nat) ^ (n + 1) < 16 ^ (n + 1) := Nat.pow_lt_pow_left (by decide) (by omega)
    have h3 : c.natAbs ≤ 10 ^ (n + 1) := by
      have : (c.natAbs : Int) ≤ ((10 ^ (n + 1) : Nat) : Int) := by
        rw [Int.natCast_pow]
        have : (c.natAbs : Int) = c := by omega
        rw [this]
        exact h
      exact Int.ofNat_le.mp this
    omega
  exact (wide_div (i := 0) h0 h1 (by omega) (by omega)).2
end K61
namespace K61
open PySem L2 Lh
/-! ### how many ways lead to each floor -/
def addAll (k : Int) (es : List Int) (v : List Int) : List Int := es.foldl (fun v e => v.set e.toNat (v.getD e.toNat 0 + k)) v
/-- behind a row: from the numbers v, by the ends l -/
def stepB (n : Nat) (ps : List (Int × List Int)) : List Int := ps.foldl (fun w p => addAll p.1 p.2 w) (List.replicate n 0)
theorem addAll_len (k : Int) : ∀ (es v : List Int), (addAll k es v).length = v.length
  | [], v => rfl
  | e :: es, v => by
    show (addAll k es (v.set e.toNat (v.getD e.toNat 0 + k))).length = _
    rw [addAll_len k es, List.length_set]
theorem addAll_snoc {k : Int} {es v : List Int} {e : Int} : addAll k (es ++ [e]) v = (addAll k es v).set e.toNat ((addAll k es v).getD e.toNat 0 + k) := by
  unfold addAll
  rw [List.foldl_append]
  rfl
theorem gt_set {v : List Int} {e x k : Int} (he : 0 ≤ e ∧ e < v.length) (hx : 0 ≤ x ∧ x < v.length) : gtI (v.set e.toNat k) x = if x = e then k else gtI v x := by
  have h1 : e.toNat < v.length := by omega
  have h2 : x.toNat < v.length := by omega
  unfold gtI
  rw [List.getD_eq_getElem?_getD, List.getD_eq_getElem?_getD, List.getElem?_set]
  by_cases h : x = e
  · subst h
    rw [if_pos rfl, if_pos rfl, if_pos h1]
    rfl
  · rw [if_neg (by omega), if_neg h]
theorem addAll_at {k : Int} : ∀ {es v : List Int} {x : Int}, es.Nodup → (∀ e ∈ es, 0 ≤ e ∧ e < v.length) → (0 ≤ x ∧ x < v.length) → gtI (addAll k es v) x = gtI v x + if x ∈ es then k else 0
  | [], v, x, _, _, _ => by
    show gtI v x = _
    rw [if_neg (by simp)]
    omega
  | e :: es, v, x, hn, he, hx => by
    obtain ⟨n1, n2⟩ := List.nodup_cons.mp hn
    have h1 := he e List.mem_cons_self
    have ih := addAll_at (k := k) (es := es) (v := v.set e.toNat (v.getD e.toNat 0 + k)) (x := x) n2 (fun y hy => by
      rw [List.length_set]
      exact he y (List.mem_cons_of_mem _ hy)) (by rw [List.length_set]; exact hx)
    show gtI (addAll k es (v.set e.toNat (v.getD e.toNat 0 + k))) x = _
    rw [ih, gt_set h1 hx]
    by_cases h : x = e
    · subst h
      rw [if_pos rfl, if_neg n1, if_pos List.mem_cons_self]
      show gtI v x + k + 0 = gtI v x + k
      omega
    · rw [if_neg h]
      by_cases h2 : x ∈ es
      · rw [if_pos h2, if_pos (List.mem_cons_of_mem _ h2)]
      · rw [if_neg h2, if_neg fun q => (List.mem_cons.mp q).elim h h2]
theorem foldB_len : ∀ (ps : List (Int × List Int)) (w : List Int), (ps.foldl (fun w p => addAll p.1 p.2 w) w).length = w.length
  | [], w => rfl
  | p :: ps, w => by
    show (ps.foldl (fun w p => addAll p.1 p.2 w) (addAll p.1 p.2 w)).length = _
    rw [foldB_len ps, addAll_len]
theorem stepB_len {n : Nat} {ps : List (Int × List Int)} : (stepB n ps).length = n := by
  unfold stepB
  rw [foldB_len, List.length_replicate]
theorem foldB_at {x : Int} : ∀ {ps : List (Int × List Int)} {w : List Int}, (∀ p ∈ ps, p.2.Nodup ∧ ∀ e ∈ p.2, 0 ≤ e ∧ e < w.length) → (0 ≤ x ∧ x < w.length) → gtI (ps.foldl (fun w p => addAll p.1 p.2 w) w) x = gtI w x + (ps.map fun p => if x ∈ p.2 then p.1 else 0).sum
  | [], w, _, _ => by
    show gtI w x = _
    simp
  | p :: ps, w, h, hx => by
    obtain ⟨h1, h2⟩ := h p List.mem_cons_self
    have ih := foldB_at (x := x) (ps := ps) (w := addAll p.1 p.2 w) (fun q hq => by
      rw [addAll_len]
      exact h q (List.mem_cons_of_mem _ hq)) (by rw [addAll_len]; exact hx)
    show gtI (ps.foldl (fun w p => addAll p.1 p.2 w) (addAll p.1 p.2 w)) x = _
    rw [ih, addAll_at h1 h2 hx, List.map_cons, List.sum_cons]
    omega
theorem gt_rep {n : Nat} {x : Int} : gtI (List.replicate n 0) x = 0 := by
  unfold gtI
  rw [List.getD_eq_getElem?_getD]
  by_cases h : x.toNat < n
  · simp [h]
  · rw [List.getElem?_eq_none (by simpa using h)]
    rfl
theorem as_map {n : Nat} {w : List Int} (h : w.length = n) : w = (rgI 0 n).map (gtI w) := by
  refine List.ext_getElem? fun i => ?_
  rw [List.getElem?_map]
  by_cases hi : i < n
  · have e : (rgI 0 n)[i]? = some (i : Int) := by
      unfold rgI
      simp [hi]
    rw [e, List.getElem?_eq_getElem (by omega)]
    show _ = some (gtI w (i : Int))
    unfold gtI
    rw [List.getD_eq_getElem?_getD, Int.toNat_natCast, List.getElem?_eq_getElem (by omega)]
    rfl
  · rw [List.getElem?_eq_none (by omega), List.getElem?_eq_none (by rw [rgI_len]; omega)]
    rfl
/-- the ways that lead to a floor at a moment -/
def upM (g b st : List Int) (rows : List Row) (t : Nat) (f : Int) : Int := countM g b st (rows.take t ++ [Row.look [f]])
def upL (g b st : List Int) (rows : List Row) (t : Nat) : List Int := (rgI 0 (g.length + 1)).map (upM g b st rows t)
theorem rg_at {n : Nat} {h : Int → Int} {f : Int} (h0 : 0 ≤ f) (h1 : f < n) : gtI ((rgI 0 n).map h) f = h f := by
  have hlt : f.toNat < n := by omega
  have e : (rgI 0 n)[f.toNat]? = some f := by
    unfold rgI
    simp [hlt]
    omega
  unfold gtI
  rw [List.getD_eq_getElem?_getD, List.getElem?_map, e]
  rfl
theorem upL_at {g b st : List Int} {rows : List Row} {t : Nat} {f : Int} (h0 : 0 ≤ f) (h1 : f ≤ g.length) : gtI (upL g b st rows t) f = upM g b st rows t f := rg_at h0 (by omega)
theorem up_zero {g b st : List Int} {rows : List Row} {f : Int} (hs : ∀ x ∈ st, 0 ≤ x ∧ x ≤ g.length) (nd : st.Nodup) (hf : 0 ≤ f ∧ f ≤ g.length) : upM g b st rows 0 f = if f ∈ st then 1 else 0 := by
  show (st.map fun x => S g b [Row.look [f]] x).sum = _
  have e : (st.map fun x => S g b [Row.look [f]] x) = st.map fun x => (if f = x then (1 : Int) else 0) * 1 := List.map_congr_left fun x hx => by
    rw [S_look (hs x hx)]
    by_cases h : x = f
    · rw [if_pos h, if_pos h.symm]
      rfl
    · rw [if_neg h, if_neg fun q => h q.symm]
      rfl
  rw [e]
  by_cases h : f ∈ st
  · rw [if_pos h, pick_one (fun _ => 1) nd h]
  · rw [if_neg h]
    have z : (st.map fun x => (if f = x then (1 : Int) else 0) * 1) = st.map fun _ => (0 : Int) := List.map_congr_left fun x hx => by
      have : ¬ f = x := fun q => h (q ▸ hx)
      simp [this]
    rw [z, sum_zero]
theorem up_step {g b st : List Int} {rows : List Row} {t : Nat} {r : Row} (hs : ∀ x ∈ st, 0 ≤ x ∧ x ≤ g.length) (hr : rows[t]? = some r) {f : Int} : upM g b st rows (t + 1) f = ((rgI 0 (g.length + 1)).map fun m => if f ∈ nextF g b r m then upM g b st rows t m else 0).sum := by
  unfold upM
  rw [List.take_add_one, hr, List.append_assoc, count_parts hs]
  congr 1
  refine List.map_congr_left fun m hm => ?_
  have hm' := fl_in hm
  have e : countM g b [m] ((some r).toList ++ [Row.look [f]]) = Pt g b [r] m f := by
    show (([m] : List Int).map fun x => S g b [r, Row.look [f]] x).sum = S g b ([r] ++ [Row.look [f]]) m
    simp
  rw [e, Pt_one hm']
  by_cases h : f ∈ nextF g b r m
  · rw [if_pos h, if_pos h, Int.mul_one]
  · rw [if_neg h, if_neg h, Int.mul_zero]
theorem upL_step {g b st : List Int} {rows : List Row} {t : Nat} {r : Row} (hs : ∀ x ∈ st, 0 ≤ x ∧ x ≤ g.length) (hr : rows[t]? = some r) : stepB (g.length + 1) ((upL g b st rows t).zip ((rgI 0 (g.length + 1)).map fun f => nextF g b r f)) = upL g b st rows (t + 1) := by
  rw [as_map (stepB_len (n := g.length + 1) (ps := (upL g b st rows t).zip ((rgI 0 (g.length + 1)).map fun f => nextF g b r f)))]
  unfold upL
  refine List.map_congr_left fun f hf => ?_
  have hf' := fl_in hf
  rw [up_step hs hr, List.zip_map']
  unfold stepB
  rw [foldB_at (fun p hp => ?_) (by rw [List.length_replicate]; omega), gt_rep, List.map_map, Int.zero_add]
  · congr 1
  · obtain ⟨m, hm, rfl⟩ := List.mem_map.mp hp
    refine ⟨(nextF_up (fl_in hm)).imp fun h e => by omega, fun e he => ?_⟩
    have := nextF_in (fl_in hm) he
    rw [List.length_replicate]
    omega
end K61
namespace K61
open PySem L2 Lh
/-! ### numbers by links of any kind -/
structure LsOk (n : Nat) (ls : List (List (List Int))) : Prop where
  ten : n ≤ 10
  size : ls.length ≤ 1000
  wide : ∀ l ∈ ls, l.length = n
  subs : ∀ l ∈ ls, ∀ es ∈ l, es.Sublist (rgI 0 n)
theorem rg_in {n : Nat} {x : Int} (h : x ∈ rgI 0 n) : 0 ≤ x ∧ x < n := by
  unfold rgI at h
  obtain ⟨i, hi, rfl⟩ := List.mem_map.mp h
  have := List.mem_range.mp hi
  constructor <;> omega
theorem rg_nodup {n : Nat} : (rgI 0 n).Nodup := (rgI_up n).imp fun h e => by omega
theorem LsOk.old {n : Nat} {ls : List (List (List Int))} (h : LsOk n ls) : LinksOk n ls where
  size := h.size
  wide := h.wide
  ends := fun l hl es he => ⟨by
    have := (h.subs l hl es he).length_le
    rw [rgI_len] at this
    exact this, fun e q => rg_in ((h.subs l hl es he).subset q)⟩
theorem LsOk.of_rows {g b : List Int} {rows : List Row} (h9 : g.length ≤ 9) (hz : rows.length ≤ 1000) : LsOk (g.length + 1) (linksM g b rows) where
  ten := by omega
  size := by
    unfold linksM
    rw [List.length_map]
    exact hz
  wide := (linksM_ok (g := g) (b := b) hz).wide
  subs := fun l hl es he => by
    obtain ⟨r, _, rfl⟩ := List.mem_map.mp hl
    obtain ⟨f, hf, rfl⟩ := List.mem_map.mp he
    exact nextF_sub (fl_in hf)
def v0 (n : Nat) (st : List Int) : List Int := (rgI 0 n).map fun f => if f ∈ st then 1 else 0
def upG (n : Nat) (st : List Int) (ls : List (List (List Int))) (t : Nat) : List Int := (ls.take t).foldl (fun v l => stepB n (v.zip l)) (v0 n st)
theorem upG_step {n : Nat} {st : List Int} {ls : List (List (List Int))} {t : Nat} {l : List (List Int)} (h : ls[t]? = some l) : upG n st ls (t + 1) = stepB n ((upG n st ls t).zip l) := by
  unfold upG
  rw [List.take_add_one, h, List.foldl_append]
  rfl
theorem v0_len {n : Nat} {st : List Int} : (v0 n st).length = n := by
  unfold v0
  rw [List.length_map, rgI_len]
theorem foldG_len {n : Nat} : ∀ (ks : List (List (List Int))) (v : List Int), v.length = n → (ks.foldl (fun v l => stepB n (v.zip l)) v).length = n
  | [], v, h => h
  | k :: ks, v, h => foldG_len ks _ stepB_len
theorem upG_len {n : Nat} {st : List Int} {ls : List (List (List Int))} {t : Nat} : (upG n st ls t).length = n := foldG_len _ _ v0_len
theorem row_map {n : Nat} {l : List (List Int)} (h : l.length = n) : l = (rgI 0 n).map (rowAt l) := by
  refine List.ext_getElem? fun i => ?_
  rw [List.getElem?_map]
  by_cases hi : i < n
  · have e : (rgI 0 n)[i]? = some (i : Int) := by
      unfold rgI
      simp [hi]
    rw [e, List.getElem?_eq_getElem (by omega)]
    show _ = some (rowAt l (i : Int))
    unfold rowAt
    rw [List.getD_eq_getElem?_getD, Int.toNat_natCast, List.getElem?_eq_getElem (by omega)]
    rfl
  · rw [List.getElem?_eq_none (by omega), List.getElem?_eq_none (by rw [rgI_len]; omega)]
    rfl
theorem row_sub {n : Nat} {l : List (List Int)} (h : l.length = n) (hs : ∀ es ∈ l, es.Sublist (rgI 0 n)) (m : Int) : (rowAt l m).Sublist (rgI 0 n) := by
  unfold rowAt
  rw [List.getD_eq_getElem?_getD]
  cases e : l[m.toNat]? with
  | none => exact List.nil_sublist _
  | some es => exact hs es (List.mem_of_getElem? e)
theorem stepB_at {n : Nat} {v : List Int} {l : List (List Int)} (hv : v.length = n) (hl : l.length = n) (hs : ∀ es ∈ l, es.Sublist (rgI 0 n)) {x : Int} (hx : 0 ≤ x ∧ x < n) :
    gtI (stepB n (v.zip l)) x = ((rgI 0 n).map fun m => if x ∈ rowAt l m then gtI v m else 0).sum := by
  have ez : v.zip l = (rgI 0 n).map fun m => (gtI v m, rowAt l m) := by
    conv => lhs; rw [as_map hv, row_map hl]
    rw [List.zip_map']
  rw [ez]
  unfold stepB
  rw [foldB_at (fun p hp => ?_) (by rw [List.length_replicate]; exact hx), gt_rep, List.map_map, Int.zero_add]
  · rfl
  · obtain ⟨m, _, rfl⟩ := List.mem_map.mp hp
    have h := row_sub hl hs m
    refine ⟨rg_nodup.sublist h, fun e he => ?_⟩
    rw [List.length_replicate]
    exact rg_in (h.subset he)
/-! how large they can be -/
theorem stepB_cap {n : Nat} {v : List Int} {l : List (List Int)} (h10 : n ≤ 10) (hv : v.length = n) (hl : l.length = n) (hs : ∀ es ∈ l, es.Sublist (rgI 0 n)) {c : Int} (h0 : 0 ≤ c) (hc : ∀ x, 0 ≤ x ∧ x < (n : Int) → 0 ≤ gtI v x ∧ gtI v x ≤ c) {x : Int} (hx : 0 ≤ x ∧ x < n) : 0 ≤ gtI (stepB n (v.zip l)) x ∧ gtI (stepB n (v.zip l)) x ≤ 10 * c := by
  rw [stepB_at hv hl hs hx]
  constructor
  · refine sum_nn fun y hy => ?_
    obtain ⟨m, hm, rfl⟩ := List.mem_map.mp hy
    have := (hc m (rg_in hm)).1
    split <;> omega
  · have h := sum_cap (c := fun m => if x ∈ rowAt l m then gtI v m else 0) (m := c) (l := rgI 0 n) fun m hm => by
      have := hc m (rg_in hm)
      show (if x ∈ rowAt l m then gtI v m else 0) ≤ c
      split <;> omega
    rw [rgI_len] at h
    exact Int.le_trans h (Int.mul_le_mul_of_nonneg_right (by omega) h0)
theorem upG_cap {n : Nat} {st : List Int} {ls : List (List (List Int))} (h : LsOk n ls) : ∀ {t : Nat}, t ≤ ls.length → ∀ {x : Int}, 0 ≤ x ∧ x < (n : Int) → 0 ≤ gtI (upG n st ls t) x ∧ gtI (upG n st ls t) x ≤ (10 : Int) ^ t
  | 0, _, x, hx => by
    show 0 ≤ gtI (v0 n st) x ∧ gtI (v0 n st) x ≤ 1
    unfold v0
    rw [rg_at hx.1 hx.2]
    split <;> constructor <;> omega
  | t + 1, ht, x, hx => by
    have hl : ls[t]? = some ls[t] := List.getElem?_eq_getElem (by omega)
    have hm : ls[t] ∈ ls := List.getElem_mem _
    rw [upG_step hl, Int.pow_succ, Int.mul_comm]
    exact stepB_cap h.ten upG_len (h.wide _ hm) (h.subs _ hm) (Int.pow_nonneg (by decide)) (fun y hy => upG_cap h (by omega) hy) hx
def headG (n : Nat) (ls : List (List (List Int))) : List Int := (numsM n ls).headD []
theorem headG_cons {n : Nat} {l : List (List Int)} {ls : List (List (List Int))} (hl : l.length = n) {x : Int} (hx : 0 ≤ x ∧ x < (n : Int)) : gtI (headG n (l :: ls)) x = sumAt (headG n ls) (rowAt l x) := stepM_at hx.1 (by omega)
theorem headG_nil {n : Nat} {x : Int} (hx : 0 ≤ x ∧ x < (n : Int)) : gtI (headG n []) x = 1 := by
  show gtI (List.replicate n 1) x = 1
  unfold gtI
  rw [List.getD_eq_getElem?_getD]
  have : x.toNat < n := by omega
  simp [this]
theorem headG_cap {n : Nat} : ∀ {ls : List (List (List Int))}, LsOk n ls → ∀ {x : Int}, 0 ≤ x ∧ x < (n : Int) → 0 ≤ gtI (headG n ls) x ∧ gtI (headG n ls) x ≤ (10 : Int) ^ ls.length
  | [], _, x, hx => by
    rw [headG_nil hx]
    exact ⟨by omega, by simp⟩
  | l :: ls, h, x, hx => by
    have hw := h.wide l List.mem_cons_self
    have hs := row_sub hw (h.subs l List.mem_cons_self) x
    have h2 : LsOk n ls := ⟨h.ten, by have := h.size; rw [List.length_cons] at this; omega, fun k hk => h.wide k (List.mem_cons_of_mem _ hk), fun k hk => h.subs k (List.mem_cons_of_mem _ hk)⟩
    have hlen := hs.length_le
    rw [rgI_len] at hlen
    have h10 := h.ten
    rw [headG_cons hw hx]
    constructor
    · refine sum_nn fun y hy => ?_
      obtain ⟨m, hm, rfl⟩ := List.mem_map.mp hy
      exact (headG_cap h2 (rg_in (hs.subset hm))).1
    · have h3 := sum_cap (c := gtI (headG n ls)) (m := (10 : Int) ^ ls.length) (l := rowAt l x) fun m hm => (headG_cap h2 (rg_in (hs.subset hm))).2
      have h4 : (0 : Int) ≤ (10 : Int) ^ ls.length := Int.pow_nonneg (by decide)
      rw [List.length_cons, Int.pow_succ, Int.mul_comm]
      exact Int.le_trans h3 (Int.mul_le_mul_of_nonneg_right (by omega) h4)
theorem LsOk.drop {n : Nat} {ls : List (List (List Int))} (h : LsOk n ls) (t : Nat) : LsOk n (ls.drop t) := ⟨h.ten, by
  rw [List.length_drop]
  have := h.size
  omega, fun k hk => h.wide k (List.mem_of_mem_drop hk), fun k hk => h.subs k (List.mem_of_mem_drop hk)⟩
theorem log10 {c : Int} {n : Nat} (h0 : 0 ≤ c) (h : c ≤ (10 : Int) ^ n) (hn : n ≤ 1000) : c.natAbs.log2 < 9000 := by
  by_cases z : c = 0
  · rw [z]
    decide
  · refine log_cap (n := n) (by omega) (Int.le_trans h ?_) (by omega)
    rw [Int.pow_succ]
    have : (0 : Int) ≤ (10 : Int) ^ n := Int.pow_nonneg (by decide)
    omega
/-! the ways through a floor at a moment -/
def thrG (n : Nat) (st : List Int) (ls : List (List (List Int))) (t : Nat) : List Int := (rgI 0 n).map fun f => gtI (upG n st ls t) f * gtI (headG n (ls.drop t)) f
def thrGs (n : Nat) (st : List Int) (ls : List (List (List Int))) (k : Nat) : List (List Int) := (List.range k).map (thrG n st ls)
def upGs (n : Nat) (st : List Int) (ls : List (List (List Int))) (k : Nat) : List (List Int) := (List.range k).map (upG n st ls)
theorem upGs_snoc {n k : Nat} {st : List Int} {ls : List (List (List Int))} : upGs n st ls (k + 1) = upGs n st ls k ++ [upG n st ls k] := by
  unfold upGs
  rw [List.range_succ, List.map_append]
  rfl
theorem thrGs_snoc {n k : Nat} {st : List Int} {ls : List (List (List Int))} : thrGs n st ls (k + 1) = thrGs n st ls k ++ [thrG n st ls k] := by
  unfold thrGs
  rw [List.range_succ, List.map_append]
  rfl
theorem thrG_len {n t : Nat} {st : List Int} {ls : List (List (List Int))} : (thrG n st ls t).length = n := by
  unfold thrG
  rw [List.length_map, rgI_len]
/-- how many ways there are -/
def totG (n : Nat) (st : List Int) (ls : List (List (List Int))) : Int := (thrG n st ls 0).sum
/-- the floors at a moment -/
def flG (n : Nat) (st : List Int) (ls : List (List (List Int))) (t : Nat) : List Int := (rgI 0 n).filter fun f => decide (0 < gtI (thrG n st ls t) f)
theorem sumAt_sub {n : Nat} {v es : List Int} (h : es.Sublist (rgI 0 n)) : sumAt v es = ((rgI 0 n).map fun x => if x ∈ es then gtI v x else 0).sum := by
  have e := sum_bits (gtI v) (fun x => decide (x ∈ es)) (rgI 0 n)
  rw [filter_of_sub h rg_nodup] at e
  show (es.map fun f => gtI v f).sum = _
  rw [show (es.map fun f => gtI v f).sum = (es.map (gtI v)).sum from rfl, ← e]
  congr 1
  refine List.map_congr_left fun x _ => ?_
  by_cases q : x ∈ es
  · rw [if_pos q]
    simp [b2n, q]
  · rw [if_neg q]
    simp [b2n, q]
theorem tot_step {n t : Nat} {st : List Int} {ls : List (List (List Int))} (h : LsOk n ls) (ht : t < ls.length) : (thrG n st ls (t + 1)).sum = (thrG n st ls t).sum := by
  have hl : ls[t]? = some ls[t] := List.getElem?_eq_getElem ht
  have hm : ls[t] ∈ ls := List.getElem_mem _
  have hd : ls.drop t = ls[t] :: ls.drop (t + 1) := List.drop_eq_getElem_cons ht
  generalize ls[t] = l at hl hm hd
  have hw := h.wide l hm
  have hs := h.subs l hm
  unfold thrG
  generalize hu : upG n st ls t = u
  have hul : u.length = n := by rw [← hu, upG_len]
  generalize hk : headG n (ls.drop (t + 1)) = k
  have e1 : ((rgI 0 n).map fun f => gtI (upG n st ls (t + 1)) f * gtI k f) = (rgI 0 n).map fun x => ((rgI 0 n).map fun m => gtI u m * (if x ∈ rowAt l m then gtI k x else 0)).sum := List.map_congr_left fun x hx => by
    rw [upG_step hl, hu, stepB_at hul hw hs (rg_in hx), Int.mul_comm, ← sum_mul]
    congr 1
    refine List.map_congr_left fun m _ => ?_
    by_cases q : x ∈ rowAt l m
    · rw [if_pos q, if_pos q, Int.mul_comm]
    · rw [if_neg q, if_neg q]
      simp
  have e2 : ((rgI 0 n).map fun f => gtI u f * gtI (headG n (ls.drop t)) f) = (rgI 0 n).map fun m => gtI u m * ((rgI 0 n).map fun x => if x ∈ rowAt l m then gtI k x else 0).sum := List.map_congr_left fun m hm2 => by
    rw [hd, headG_cons hw (rg_in hm2), hk, sumAt_sub (row_sub hw hs m)]
  rw [e1, e2]
  exact sum_swap (gtI u) (fun m x => if x ∈ rowAt l m then gtI k x else 0) (rgI 0 n) (rgI 0 n)
theorem tot_all {n : Nat} {st : List Int} {ls : List (List (List Int))} (h : LsOk n ls) : ∀ {t : Nat}, t ≤ ls.length → (thrG n st ls t).sum = totG n st ls
  | 0, _ => rfl
  | t + 1, ht => by rw [tot_step h (by omega), tot_all h (by omega)]
end K61
namespace Lh
open PySem L2
open Evl (Ex ex_l ex_t ex_rd fresh_back)
section
variable {M : Addr → Prop} {Γ Γ' : Ct} {Rs : List Res} {X : Cx} {Z0 Z Hl : Hp} {D : Ends} {K : PySem.W.Frag} {rest : List Stmt} {a b c e : Expr} {pos p : Pos} {i j : Int}
/-- z = [elt for x, y in pairs if c] -/
theorem xs_filtPr {τ : Type} (f1 f2 : τ → PyData) (ps : List τ) (n i0 j0 : Nat) (hij : i0 ≠ j0) {x y z : Str} {elt iter q : Expr} {scope : Scope} {xp yp tp zp spos : Pos} {kt : Nat} (h : τ → PyData) (t : τ → Bool) (hi : XI M Γ Rs X (.Tuple [.Name x xp, .Name y yp] kt tp) iter ((ps.map fun z => PyData.tuple [f1 z, f2 z]).map (PD X.K)))
    (hc' : ∀ z ∈ ps, Blk X scope fun Y => XT M (blkP Γ i0 j0 (PD X.K (f1 z)) (PD X.K (f2 z))) Rs Y q (Is (t z))) (ht : ∀ z ∈ ps, t z = true → Blk X scope fun Y => XE M (blkP Γ i0 j0 (PD X.K (f1 z)) (PD X.K (f2 z))) Rs Y elt (PD X.K (h z)))
    (k : XS M (Γ.set n (some (PD X.K (.list ((ps.filter t).map h))))) Rs X Z0 Z Hl D rest) (hN : X.N.Nodup)
    (ok : BlkOk X.N X.env.scope scope [(x, i0), (y, j0)]) (hz : ps.length ≤ 100000) (cv : Cov M Rs) (hg : ∀ (s : Shared) (H : Hp) (C : Addr) (cl : List (Str × Addr)) (fp : List Addr), PG (X.blk s H scope (compEnvC scope cl C X.env) fp) (.Tuple [.Name x xp, .Name y yp] kt tp) (gTup X.K 2 (gCons (gName i0) (gCons (gName j0) gNil))))
    (hsw : swapsWith (.ListComp elt [⟨.Tuple [.Name x xp, .Name y yp] kt tp, iter, [q], 0⟩] scope pos) (some (.Name z zp)) spos.line X.env = pure true) (hy : X.N[n]? = some z := by rfl) (hyl : X.env.scope.names.lookup z = some .local := by rfl)
    (hc : X.calm = true := by rfl) (hs : ∀ x, foldedSetIterable iter X.env x = pure x := by intro _; rfl) : XS M Γ Rs X Z0 Z Hl D (.Assign [.Name z zp] (.ListComp elt [⟨.Tuple [.Name x xp, .Name y yp] kt tp, iter, [q], 0⟩] scope pos) spos :: rest) := by
  refine xs_asgT (ps_setLc (own := [(x, i0), (y, j0)]) hc hN hy hyl hsw pi_wp ok hg (fun s H C cl fp => pts_one (blk_okT s H C cl fp)) blk_ok hs) (ye_lcP (K := X.K) hij hi cv (by simpa using hz) (fun n ds => ds = ((ps.take n).filter t).map h) rfl fun n Q hq => ?_) fun ds hR => ?_
  · rw [List.getElem?_map, List.getElem?_map] at hq
    obtain ⟨d, hd, rfl⟩ := Option.map_eq_some_iff.mp hq
    obtain ⟨w, hw, rfl⟩ := Option.map_eq_some_iff.mp hd
    have hm := List.mem_of_getElem? hw
    refine ⟨_, _, pd_pt2, Is (t w), yt_blk (hc' w hm), fun hb => ?_, fun hb ds hR => ?_⟩
    · have hb' : true = t w := hb
      exact ye_blk fun s0 H0 C cl fp => YE.imp (ht w hm hb'.symm s0 H0 C cl fp) fun v H hv => ⟨h w, fun ds _ hR => by rw [hR, List.take_add_one, hw]; simp [← hb'], hv⟩
    · have hb' : false = t w := hb
      rw [hR, List.take_add_one, hw]
      simp [← hb']
  · have e : ds = (ps.filter t).map h := by
      rw [hR.1, List.take_of_length_le (by simp)]
    subst e
    exact k
end
end Lh
namespace Lh
open PySem L2
open Evl (Ex ex_l ex_t ex_rd fresh_back)
section
variable {M : Addr → Prop} {Γ Γ' : Ct} {Rs : List Res} {X : Cx} {Z0 Z Hl : Hp} {D : Ends} {K : PySem.W.Frag} {rest : List Stmt} {a b c o e : Expr} {pos p : Pos} {i j k : Int}
theorem Rok.swap {r1 r2 : Res} {H0 H : Hp} (k : Rok (r1 :: r2 :: Rs) H0 H) : Rok (r2 :: r1 :: Rs) H0 H := by
  refine ⟨?_, fun r hr => k.2 r ?_⟩
  · have h := k.1
    rw [List.flatMap_cons, List.flatMap_cons] at h ⊢
    refine (List.Perm.nodup_iff ?_).mp h
    rw [← List.append_assoc, ← List.append_assoc]
    exact List.Perm.append_right _ List.perm_append_comm
  · obtain e | hr := List.mem_cons.mp hr
    · subst e
      simp
    · obtain e | hr := List.mem_cons.mp hr
      · subst e
        simp
      · simp [hr]
theorem ye_swap {r1 r2 : Res} {t : TE} {P : Pd} (h : YE M Γ (r2 :: r1 :: Rs) t P) : YE M Γ (r1 :: r2 :: Rs) t P := fun σ H0 H l e k Q q => h σ H0 H l e (Rok.swap k) Q fun v H0' H' s k' p => q v H0' H' s (Rok.swap k') p
end
end Lh
/-! Several lists at hand: one drawn from, one grown. -/
namespace Lh
open PySem L2
open Evl (Ex ex_l ex_t ex_rd fresh_back)
section
variable {M : Addr → Prop} {Γ Γ' : Ct} {Rs Rs' : List Res} {X : Cx} {Z0 Z Hl H0 H1 H G1 : Hp} {D : Ends} {K : PySem.W.Frag} {rest : List Stmt} {a b c o o1 o2 e : Expr} {pos p : Pos} {i j k : Int} {q q1 q2 : Addr} {Ps Ps' Ps1 Ps2 : List Pd} {vs ys : List V}
theorem Rok.perm (h : Rs.Perm Rs') (k : Rok Rs H0 H) : Rok Rs' H0 H := ⟨(h.flatMap_right Res.ad).nodup_iff.mp k.1, fun r hr => k.2 r (h.mem_iff.mpr hr)⟩
theorem xs_perm (p : Rs.Perm Rs') (h : XS M Γ Rs' X Z0 Z Hl D rest) : XS M Γ Rs X Z0 Z Hl D rest := fun σ H0 H l s b k => h σ H0 H l s b (Rok.perm p k)
theorem ye_perm {t : TE} {P : Pd} (p : Rs.Perm Rs') (h : YE M Γ Rs' t P) : YE M Γ Rs t P := fun σ H0 H l e k Q q => h σ H0 H l e (Rok.perm p k) Q fun v H0' H' s k' r => q v H0' H' s (Rok.perm p.symm k') r
theorem yt_perm {t : TT} {B : Bool → Prop} (p : Rs.Perm Rs') (h : YT M Γ Rs' t B) : YT M Γ Rs t B := fun σ H0 H l e k Q q => h σ H0 H l e (Rok.perm p k) Q fun v H0' H' s k' r => q v H0' H' s (Rok.perm p.symm k') r
/-- a list that is made anew stands at hand -/
theorem new_lst (t : Step M Z0 Z H1 G1) (k1 : Rok Rs H1 G1) (hp : G1 q = none) (a1 : DAll Ps vs H1) : Step M Z0 Z H1 (upd G1 q (.lst vs)) ∧ Rok (Res.lst Z q Ps :: Rs) H1 (upd G1 q (.lst vs)) := by
  have ne : ∀ r ∈ Rs, ∀ a ∈ r.ad, a ≠ q := fun r hr a ha e => by
    obtain ⟨⟨o, h1⟩, _⟩ := r.tr (k1.2 r hr) a ha
    rw [e, hp] at h1
    cases h1
  have hZ : Z q = none := by
    cases e : Z q with
    | none => rfl
    | some o =>
      obtain ⟨o', h'⟩ := t.th q o e
      rw [hp] at h'
      cases h'
  have aN := fresh_back t.le hp
  refine ⟨⟨fun a o hm ha => ?_, fun a o ha => ?_, t.ex, fun a o ha => ?_, t.nw⟩, ⟨?_, fun r hr => ?_⟩⟩
  · rw [upd_ne (ne_of_none ha hZ)]
    exact t.un a o hm ha
  · obtain ⟨o', h'⟩ := t.th a o ha
    exact ⟨o', by rw [upd_ne (ne_of_none h' hp)]; exact h'⟩
  · rw [upd_ne (ne_of_none (t.le a o ha) hp)]
    exact t.le a o ha
  · rw [List.flatMap_cons, List.nodup_append]
    refine ⟨by simp [Res.lst], k1.1, fun a ha c hc e => ?_⟩
    have e1 : a = q := by simpa [Res.lst] using ha
    obtain ⟨r, hr, hc⟩ := List.mem_flatMap.mp hc
    exact ne r hr c hc (e ▸ e1)
  · obtain e | hr := List.mem_cons.mp hr
    · subst e
      exact ⟨hZ, aN, vs, upd_same, a1⟩
    · exact (k1.wr ne).2 r hr
/-- a list at hand is written -/
theorem lst_wr (t : Step M Z0 Z H1 G1) (k1 : Rok (Res.lst Z q Ps :: Rs) H1 G1) (hy : DAll Ps' ys H1) : Step M Z0 Z H1 (upd G1 q (.lst ys)) ∧ Rok (Res.lst Z q Ps' :: Rs) H1 (upd G1 q (.lst ys)) := by
  obtain ⟨hz0, h0, xs, hq, hd⟩ := k1.2 _ List.mem_cons_self
  have nd := k1.1
  rw [List.flatMap_cons, List.nodup_append] at nd
  have ne : ∀ r ∈ Rs, ∀ a ∈ r.ad, a ≠ q := fun r hr a ha e => nd.2.2 q (by simp [Res.lst]) a (List.mem_flatMap.mpr ⟨r, hr, ha⟩) e.symm
  have kr : Rok Rs H1 G1 := ⟨nd.2.1, fun r hr => k1.2 r (List.mem_cons_of_mem _ hr)⟩
  refine ⟨⟨fun a o hm ha => ?_, fun a o ha => ?_, t.ex, fun a o ha => ?_, t.nw⟩, ⟨k1.1, fun r hr => ?_⟩⟩
  · rw [upd_ne (ne_of_none ha hz0)]
    exact t.un a o hm ha
  · obtain ⟨o', h'⟩ := t.th a o ha
    exact ⟨o', by rw [upd_ne (ne_of_none ha hz0)]; exact h'⟩
  · have na : a ≠ q := fun e => by
      rw [e, h0] at ha
      cases ha
    rw [upd_ne na]
    exact t.le a o ha
  · obtain e | hr := List.mem_cons.mp hr
    · subst e
      exact ⟨hz0, h0, _, upd_same, hy⟩
    · exact (kr.wr ne).2 r hr
theorem DAll.erase (h : DAll Ps vs H) (k : Nat) : DAll (Ps.eraseIdx k) (vs.eraseIdx k) H := by
  refine ⟨by rw [List.length_eraseIdx, List.length_eraseIdx, h.1], fun i P q => ?_⟩
  rw [List.getElem?_eraseIdx] at q ⊢
  by_cases e : i < k
  · rw [if_pos e] at q ⊢
    exact h.2 i P q
  · rw [if_neg e] at q ⊢
    exact h.2 (i + 1) P q
/-- list(range(a)), to be changed -/
theorem fe_listRg {n : Int} {p2 pos2 : Pos} (hm : X.mg "list" = none) (hm2 : X.mg "range" = none) (h : XE M Γ Rs X a (PD X.K (.int n))) (hn : 0 ≤ n ∧ n ≤ 1000000) (hc : X.calm = true := by rfl) (hg : Gl X "list" := by rfl) (hg2 : Gl X "range" := by rfl) (he : starEach [a] X.env = (false, eval a X.env) :: starEach [] X.env := by rfl)
    (he2 : starEach [.Call (.Name "range" p2) [a] [] pos2] X.env = (false, eval (.Call (.Name "range" p2) [a] [] pos2) X.env) :: starEach [] X.env := by rfl) : FE M Γ Rs (wpE X (.Call (.Name "list" p) [.Call (.Name "range" p2) [a] [] pos2] [] pos)) ((li (rgI 0 n.toNat)).map (PD X.K)) :=
  FE.wp (pe_listRg hc hg hm (prg_1 hg2 hm2 pe_wp he) he2) fun σ H0 H l e k Q q => h σ H0 H l e k _ fun v H1 G1 s1 k1 hv => ⟨n, hv, RgOk.of_le (by omega) (by omega) (by omega) (by omega), fun d hd => by
    rw [rgV_eq]
    exact q d _ H1 G1 s1 k1 hd (DdAll.of_ints _).da⟩
/-- x, y = a, [] : a new list and an empty one, both to be changed -/
theorem xs_parF (i j : Nat) {x y : Str} {px py pt pl : Pos} {kt k2 pt2} (ha : FE M Γ Rs (wpE X a) Ps) (h : ∀ p q, XS M ((Γ.set i (some (PV (.ref p)))).set j (some (PV (.ref q)))) (Res.lst Z q [] :: Res.lst Z p Ps :: Rs) X Z0 Z Hl D rest) (hN : X.N.Nodup) (hc : X.calm = true := by rfl) (hi : X.N[i]? = some x := by rfl) (hj : X.N[j]? = some y := by rfl) (hij : i ≠ j := by decide)
    (hx : X.env.scope.names.lookup x = some .local := by rfl) (hy : X.env.scope.names.lookup y = some .local := by rfl) (hw : swappedStores [.Tuple [.Name x px, .Name y py] kt pt] (.Tuple [a, .List [] pl] k2 pt2) X.env = pure (some [x, y]) := by rfl)
    (hs : swapsWithSole [.Tuple [.Name x px, .Name y py] kt pt] (.Tuple [a, .List [] pl] k2 pt2) pos.line X.env = pure false := by rfl) (he : starEach [a, .List [] pl] X.env = (false, eval a X.env) :: starEach [.List [] pl] X.env := by rfl) (he2 : starEach [.List [] pl] X.env = (false, eval (.List [] pl) X.env) :: starEach [] X.env := by rfl) : XS M Γ Rs X Z0 Z Hl D (.Assign [.Tuple [.Name x px, .Name y py] kt pt] (.Tuple [a, .List [] pl] k2 pt2) pos :: rest) :=
  xs_cons (ps_par hc hN hi hj hij hx hy (pa_cons pe_wp (pa_cons (pe_lst pa_nil) pa_nil he2) he) hw hs) fun σ H0 H l s b r => ha σ H0 H l s.le r _ fun p1 vs H1 G1 s1 k1 hp1 a1 => ⟨by decide, fun p hp => by
    obtain ⟨t1, k2⟩ := new_lst (s.trans s1) k1 hp1 a1
    obtain ⟨t2, k3⟩ := new_lst t1 k2 hp DAll.nil
    exact ⟨.ref p1, .ref p, rfl, h p1 p _ H1 _ (((l.ex s1.ex).set (P := PV (.ref p1)) rfl).set (P := PV (.ref p)) rfl) t2 (b.trans s1.ex) k3⟩⟩
/-- o != [], a list at hand -/
theorem xt_neN {ds : List PyData} {n : Nat} (eP : Ps = ds.map (PD X.K)) (hr : Room n X.A) (ho : XE M Γ (Res.lst Z q Ps :: Rs) X o (PV (.ref q))) (hs : SeqAt.shaped (.list ds) = true) {pl : Pos} : XT M Γ (Res.lst Z q Ps :: Rs) X (.Compare o [.NotEq] [.List [] pl] pos) (Is (!ds.isEmpty)) := by
  subst eP
  exact xt_cmp (K := X.K) (op_neD (room_u hr)) ho (xe_lst (ds := []) xa_nil (by simp)) (fun x y H0 H hx hy e r => by
    obtain ⟨_, _, xs, hq, hd⟩ := r.2 _ List.mem_cons_self
    have d1 : Dd X.K H (.list ds) x := ⟨q, xs, hx, hq, DdAll.ex e _ _ hd.dd⟩
    have ev : PyData.eqv (.list ds) (.list []) = ds.isEmpty := by cases ds <;> rfl
    refine (Yld.val (z := .bl (!ds.isEmpty)) (C := PD X.K (.bool (!ds.isEmpty))) e rfl fun Q k => ⟨_, _, Dd.dp _ x d1, Dd.dp _ y (Dd.ex e _ _ hy), hs, rfl, ?_⟩).pb
    rw [ev]
    exact k) (nomark _)
/-- o2.append(o1.pop(e)), at a drawn place -/
theorem xs_appPop {apos cpos apos2 cpos2 : Pos} (ho : XE M Γ (Res.lst Z q2 Ps2 :: Res.lst Z q1 Ps1 :: Rs) X o2 (PV (.ref q2))) (hl : XE M Γ (Res.lst Z q2 Ps2 :: Res.lst Z q1 Ps1 :: Rs) X o1 (PV (.ref q1))) (he : XE M Γ (Res.lst Z q2 Ps2 :: Res.lst Z q1 Ps1 :: Rs) X e (PIn X.K 0 Ps1.length)) (hz : Ps2.length < 1000000) (hz1 : Ps1.length < 1000000)
    (h : ∀ (k : Nat) (P : Pd), Ps1[k]? = some P → XS M Γ (Res.lst Z q2 (Ps2 ++ [P]) :: Res.lst Z q1 (Ps1.eraseIdx k) :: Rs) X Z0 Z Hl D rest)
    (hpe : PE X (.Call (.Attribute o2 "append" apos) [.Call (.Attribute o1 "pop" apos2) [e] [] cpos2] [] cpos) (tBM X.K "list" rAppend (wpE X o2) (tCons (tBM X.K "list" rPopAt (wpE X o1) (tCons (wpE X e) tNil)) tNil))) (hs : swapsWith (.Call (.Attribute o2 "append" apos) [.Call (.Attribute o1 "pop" apos2) [e] [] cpos2] [] cpos) none pos.line X.env = pure false := by rfl) :
    XS M Γ (Res.lst Z q2 Ps2 :: Res.lst Z q1 Ps1 :: Rs) X Z0 Z Hl D (.Expr (.Call (.Attribute o2 "append" apos) [.Call (.Attribute o1 "pop" apos2) [e] [] cpos2] [] cpos) pos :: rest) :=
  xs_cons (ps_expr hpe hs) fun σ H0 H l s b r => ho σ H0 H l s.le r _ fun v H1 G1 s1 k1 hv => by
    have hv' : v = .ref q2 := hv
    subst hv'
    obtain ⟨_, _, xa, ha, _⟩ := k1.2 _ List.mem_cons_self
    refine ⟨.inl ⟨rfl, xa, SqL.of ha⟩, ?_⟩
    refine hl σ H1 G1 (l.ex s1.ex) s1.le k1 _ fun v2 H2 G2 s2 k2 hv2 => ?_
    have hv2' : v2 = .ref q1 := hv2
    subst hv2'
    obtain ⟨_, _, xb, hb, _⟩ := k2.2 (Res.lst Z q1 Ps1) (by simp)
    refine ⟨.inl ⟨rfl, xb, SqL.of hb⟩, ?_⟩
    refine he σ H2 G2 (l.ex (s1.ex.trans s2.ex)) s2.le k2 _ fun y H3 G3 s3 k3 ⟨n, hn, hy⟩ => ?_
    have hy' : y = .int n := hy
    subst hy'
    have hn' : 0 ≤ n ∧ n < Ps1.length := hn
    obtain ⟨z2, f2, xs2, g2, d2⟩ := k3.2 _ List.mem_cons_self
    obtain ⟨z1, f1, xs1, g1, d1⟩ := k3.2 (Res.lst Z q1 Ps1) (by simp)
    have hlt : n.toNat < Ps1.length := by omega
    obtain ⟨w, hw1, hw2⟩ := d1.2 n.toNat _ (List.getElem?_eq_getElem hlt)
    have t := ((s.trans s1).trans s2).trans s3
    have hne : q2 ≠ q1 := fun e => by
      have nd := k3.1
      rw [List.flatMap_cons, List.nodup_append] at nd
      exact nd.2.2 q2 (by simp [Res.lst]) q1 (by simp [Res.lst]) e
    refine ⟨q1, xs1, n, n.toNat, w, rfl, rfl, g1, by omega, by omega, seqIndex_of hn'.1 (by rw [d1.1]; exact hn'.2), hw1, ?_⟩
    obtain ⟨t1, k4⟩ := lst_wr t (Rok.swap k3) (d1.erase n.toNat)
    refine ⟨q2, xs2, w, rfl, rfl, by rw [upd_ne hne]; exact g2, by rw [d2.1]; exact Nat.lt_of_lt_of_le hz (by decide), ?_⟩
    obtain ⟨t2, k5⟩ := lst_wr (Ps' := Ps2 ++ [Ps1[n.toNat]]) t1 (Rok.swap k4) (d2.app (DAll.cons hw2 DAll.nil))
    exact h n.toNat _ (List.getElem?_eq_getElem hlt) _ H3 _ (l.ex ((s1.ex.trans s2.ex).trans s3.ex)) t2 (b.trans ((s1.ex.trans s2.ex).trans s3.ex)) k5
end
end Lh
/-! a < b for data of one make; rows of ints in their order. -/
namespace Lh
open PySem L2
open Evl (Ex ex_l ex_t ex_rd fresh_back)
def rLtD (K : PySem.W.Frag) : R2 := fun x y H Q => ∃ d e, Dp K H x d ∧ Dp K H y e ∧ PySem.W.alike d e = true ∧ d ≠ .none ∧ d.depth ≤ 64 ∧ Q (.bl (PySem.W.dataLt d e)) H
section
variable {M : Addr → Prop} {Γ : Ct} {Rs : List Res} {X : Cx} {K : PySem.W.Frag} {a b : Expr} {pos : Pos}
end
section
variable {M : Addr → Prop} {Γ : Ct} {Rs : List Res} {X : Cx} {K : PySem.W.Frag} {a b : Expr} {pos : Pos}
end
/-! ### rows of ints in order -/
end Lh
/-! A law that holds a table from the start: its def, its box beside the table; an if that joins; lists of texts side by side. -/
namespace Lh
open PySem L2
open Evl (Ex ex_l ex_t ex_rd fresh_back)
section
variable {M : Addr → Prop} {Γ Γ' : Ct} {Rs : List Res} {X : Cx} {Z0 Z Hl : Hp} {D : Ends} {K : PySem.W.Frag} {rest : List Stmt} {a b c e : Expr} {pos p : Pos} {ns : List Int}
/-- box = begun(script), beside what there is -/
theorem xs_begunR {P' : Program} {w' : World} {K' : PySem.W.Frag} {mg' : Str → Option Value} {base' : Heap} (n : Nat) {x fn : Str} {f : Addr} {fd : FuncData} {ps : List Str} {kk : Nat} {pf p2 p3 : Pos} (F : FnOk P' w' K' mg' base' CX0 kk f fd ps (SpG (α := List Int) (fun ns => [PSc K' ns]) (fun _ => NewBox))) (hr : Room kk X.A) (hm : mg' fn = some (.ref f)) (hk : PySem.W.keepIn K' (.ref f) = true)
    (hb : Binds K' fd ps []) (ha : XE M Γ Rs X a (PSc X.K ns)) (h : ∀ b l, b ≠ l → Z b = none → Z l = none → XS M (Γ.set n (some (PV (.ref b)))) (Res.box b l :: Rs) X Z0 Z Hl D rest) (hN : X.N.Nodup) (hi : X.N[n]? = some x := by rfl) (hx : Loc X.env.scope x := by first | exact Or.inl rfl | exact Or.inr rfl)
    (hg : Gl X fn := by rfl) (hdb : (fn == ("__debug__" : Str)) = false := by decide) (he : starEach [a] X.env = (false, eval a X.env) :: starEach [] X.env := by rfl) (hs : swapsWith (.Call (.Name fn pf) [a] [] p2) (some (.Name x p3)) pos.line X.env = pure false := by rfl) (hf : X.fn x = true ∨ X.env.scope.names.lookup x = some .local := by first | exact .inl rfl | exact .inr rfl)
    (eP : X.prog = P' := by rfl) (ew : X.w = w' := by rfl) (eK : X.K = K' := by rfl) (em : X.mg = mg' := by rfl) (eb : X.base = base' := by rfl) : XS M Γ Rs X Z0 Z Hl D (.Assign [.Name x p3] (.Call (.Name fn pf) [a] [] p2) pos :: rest) := by
  subst eP ew eK em eb
  refine xs_cons (ps_set hN hi hx (pe_call F hr hg hm hk hb (dvs := []) .nil pass0 (pa_cons pe_wp pa_nil he) hdb he rfl) hs hf) fun σ H0 H l s b k => ha σ H0 H l s.le k _ fun v H1 G1 s1 k1 hv => ?_
  refine ⟨ns, H1, s1.le, ?_, fun u G2 nb => ?_⟩
  · exact DAll.cons hv DAll.nil
  · obtain ⟨q, c, ns2, z2, e1, hne, hq, hc, ex2, g1, g2⟩ := nb
    subst e1
    have t := s.trans s1
    have fr : ∀ a, G1 a = none → Z a = none := fun a ha => by
      cases hz : Z a with
      | none => rfl
      | some u =>
        obtain ⟨u', hu⟩ := t.th a u hz
        rw [ha] at hu
        cases hu
    have nr : ∀ r ∈ Rs, ∀ a ∈ r.ad, G1 a ≠ none := fun r hr a ha e => by
      obtain ⟨⟨o, h1⟩, _⟩ := r.tr (k1.2 r hr) a ha
      rw [e] at h1
      cases h1
    refine h q c hne (fr q hq) (fr c hc) _ H1 G2 ((l.ex s1.ex).set rfl) ⟨fun a u hm ha => ex2 a u (t.un a u hm ha), fun a u ha => ?_, t.ex, fun a u ha => ex2 a u (t.le a u ha), t.nw⟩ (b.trans s1.ex) ⟨?_, fun r hr => ?_⟩
    · obtain ⟨u', hu⟩ := t.th a u ha
      exact ⟨u', ex2 a u' hu⟩
    · rw [List.flatMap_cons, List.nodup_append]
      refine ⟨by simp [Res.box, hne], k1.1, fun a ha d hd e => ?_⟩
      subst e
      obtain ⟨r, hr, hd⟩ := List.mem_flatMap.mp hd
      have h2 : a = q ∨ a = c := by simpa [Res.box] using ha
      rcases h2 with e | e
      · exact nr r hr a hd (e ▸ hq)
      · exact nr r hr a hd (e ▸ hc)
    · rcases List.mem_cons.mp hr with e | hr
      · subst e
        exact ⟨ns2, z2, fresh_back t.le hq, fresh_back t.le hc, g1, g2⟩
      · refine r.st (Ex.refl _) (fun a ha => (r.tr (k1.2 r hr) a ha).2) (fun a ha => ?_) (k1.2 r hr)
        obtain ⟨⟨o, h1⟩, _⟩ := r.tr (k1.2 r hr) a ha
        rw [h1]
        exact ex2 a o h1
/-- if, both ways to one word -/
theorem xs_ifJ {c : Expr} {a b : List Stmt} {B : Bool → Prop} {pos : Pos} (J : Nat → Ct → List Res → Prop) (hc : XT M Γ Rs X c B)
    (ha : B true → ∀ nx : L2.St → Hp → Prop, (∀ σ H, KJ M Z0 Z Hl J 0 σ H → nx σ H) → XS M Γ Rs X Z0 Z Hl { D with nx := nx } a)
    (hb : B false → ∀ nx : L2.St → Hp → Prop, (∀ σ H, KJ M Z0 Z Hl J 0 σ H → nx σ H) → XS M Γ Rs X Z0 Z Hl { D with nx := nx } b)
    (hr : ∀ Γ1 Rs1, J 0 Γ1 Rs1 → XS M Γ1 Rs1 X Z0 Z Hl D rest) : XS M Γ Rs X Z0 Z Hl D (.If c a b pos :: rest) := by
  have hj : ∀ σ H, KJ M Z0 Z Hl J 0 σ H → wpB X rest D σ H := fun σ H ⟨Γ1, Rs1, H0, h, e, l, s, k⟩ => hr Γ1 Rs1 h σ H0 H l s e k
  exact xs_if hc (fun q => ha q _ hj) (fun q => hb q _ hj)
end
/-! ### lists of texts -/
/-! ### the law's own def, a table at PN -/
section
variable {K : PySem.W.Frag} {mg : Str → Option Value} {base : Heap} {P : Program} {w : World}
abbrev spLawT (K : PySem.W.Frag) (PN : Addr) : Sp := fun vs H Q _ => ∃ (a : Addr) (ns : List Int), vs = [.ref a] ∧ SqL K H a (ns.map V.int) ∧ H PN = some (.tbl #[]) ∧ ns.length ≤ 63 ∧ (∀ z ∈ ns, Builtin.Int.intBits z ≤ 1048576) ∧ ∀ H', Q (.bl true) H'
theorem fn_LT {x qual lq : Str} {st : Stmt} {f PN : Addr} {fd : FuncData} {N ps : List Str} {k : Nat} (F : Fun K x qual st f fd) (S : FnScope N ps (defScope st)) (len : ps.length = 1)
    (hb : ∀ (ns : List Int) (Z0 Z : Hp) (Q : VK) (X : Cx) (qX : ∃ (cdv : Value) (A : Around) (outer : List Env) (s : Shared) (E : XK), X = (cxOf CX0 P w K mg base N qual (defScope st) f cdv A outer s Z E).nox ∧ Room k X.A), (∀ H', Q (.bl true) H') →
      XS (fun a => a = PN) (ctOf N [PSc K ns]) [LhL.tabR PN lq] X Z0 Z Z0 { nx := fun _ H' => Q .non H', rt := Q } (defBody st)) : FnOk P w K mg base CX0 (k + 1) f fd ps (spLawT K PN) := by
  refine F.ok S (fun vs H Q E h => ?_) (fun cdv A outer s H vs Q E hr h => ?_)
  · obtain ⟨a, ns, e, _⟩ := h
    rw [e, len]
    rfl
  · obtain ⟨a, ns, e, h1, hP, _, _, q⟩ := h
    subst e
    have ex : Ex (fun a => if a = PN then none else H a) H := fun a o ha => by
      by_cases z : a = PN
      · have ha' : (none : Option HO) = some o := by
          have := ha
          simp only [if_pos z] at this
          exact this
        cases ha'
      · simpa [z] using ha
    have h2 : SqL K (fun a => if a = PN then none else H a) a (ns.map V.int) := by
      rcases h1 with h1 | h1
      · refine .inl ?_
        have na : a ≠ PN := fun z => by
          subst z
          rcases h1 with h1 | ⟨o, h1⟩
          · rw [hP] at h1
            cases h1
          · rw [hP] at h1
            cases h1
        rcases h1 with h1 | ⟨o, h1⟩
        · exact .inl (by simpa [na] using h1)
        · exact .inr ⟨o, by simpa [na] using h1⟩
      · exact .inr h1
    have rk : Rok [LhL.tabR PN lq] (fun a => if a = PN then none else H a) H := ⟨by simp [LhL.tabR], fun r hr => by
      have e : r = LhL.tabR PN lq := by simpa using hr
      subst e
      refine ⟨by simp, #[], hP, ?_⟩
      exact ⟨by trivial, fun pos cv h => by cases h⟩⟩
    exact ⟨_, pss_wp, hb ns _ H Q _ ⟨cdv, A, outer, s, E, rfl, hr⟩ q _ _ H (sl_start (DAll.cons ⟨a, rfl, h2⟩ DAll.nil)) (Step.rfl ex) (Ex.refl _) rk⟩
end
end Lh
/-! min of a list of data of one make; of pairs (int, row). -/
namespace Lh
open PySem L2
open Evl (Ex ex_l ex_t ex_rd fresh_back)
def rMinD (K : PySem.W.Frag) : List V → Hp → VK → Prop := fun vs H Q => ∃ (a : Addr) (xs : List V) (d : PyData) (ds : List PyData), vs = [V.ref a] ∧ SqL K H a xs ∧ DdAll K H (d :: ds) xs ∧ PySem.W.AlikeAll (d :: ds) ∧ PyData.depthAll (d :: ds) ≤ 60 ∧ ∀ (i : Nat) (y : V), xs[i]? = some y → (d :: ds)[i]? = some (PySem.W.minD d ds) → Q y H
section
variable {M : Addr → Prop} {Γ : Ct} {Rs : List Res} {X : Cx} {K : PySem.W.Frag} {a b : Expr} {p pos : Pos}
end
/-! ### pairs of an int and a row -/
abbrev prowD (p : Int × List Int) : PyData := .tuple [.int p.1, .tuple (li p.2)]
def ltP (p q : Int × List Int) : Bool := if p.1 = q.1 then HT.lexLt p.2 q.2 else decide (p.1 < q.1)
/-- the least of them -/
def leastP (x : Int × List Int) (xs : List (Int × List Int)) : Int × List Int := xs.foldl (fun a y => if ltP y a then y else a) x
section
variable {M : Addr → Prop} {Γ : Ct} {Rs : List Res} {X : Cx} {K : PySem.W.Frag} {a b : Expr} {p pos : Pos}
end
end Lh
/-! A tuple turned round: t[::-1], reversed(t). -/
namespace HT
open PySem PyProof.Rows
section
variable {s : Shared} {E : Value → Shared → Prop} {A : Around} {w : World} {prog : Program}
end
end HT
namespace Lh
open PySem PySem.Spec L2 PyProof.Rows
open Evl (Ex ex_l ex_t ex_rd fresh_back)
def tRevT (K : PySem.W.Frag) (te : TE) : TE := fun σ H Q => te σ H fun x H1 => ∃ a xs, x = .ref a ∧ SqT K H1 a xs ∧ ∀ p, H1 p = none → Q (.ref p) (upd H1 p (.tup xs.reverse))
section
variable {X : Cx}
end
section
variable {M : Addr → Prop} {Γ : Ct} {Rs : List Res} {X : Cx} {K : PySem.W.Frag} {a e : Expr} {pos : Pos}
theorem xe_revT {ds : List PyData} {kq : Nat} {q1 q2 q3 : Pos} (h : XE M Γ Rs X a (PD X.K (.tuple ds))) : XE M Γ Rs X (.Subscript a (.Slice none none (some (.UnaryOp .USub (.Constant (.int 1) kq q1) q2)) q3) pos) (PD X.K (.tuple ds.reverse)) := YE.wp (pe_revT pe_wp) fun σ H0 H l e k Q q =>
  h σ H0 H l e k _ fun v H1 G1 s1 k1 ⟨a, xs, e1, h1, h2⟩ => ⟨a, xs, e1, ex_t s1.le h1, fun p hp => q _ _ _ (s1.trans (Step.new s1.le hp)) (k1.step0 (Step.new s1.le hp)) ⟨p, _, rfl, SqT.of upd_same, DdAll.ex (Ex.new (fresh_back s1.le hp)) _ _ h2.rev⟩⟩
theorem wk_revT {b : Addr} {xs : List V} {ds : List PyData} {H0 : Hp} (h : SqT K H0 b xs) (hd : DdAll K H0 ds xs) : Wk (RT.ItvT K b xs.length) (ds.reverse.map (PD K)) H0 := fun H0' H u u' i => by
  have same := hd.len
  refine ⟨fun Q q => ?_, fun q => by show xs.length ≤ i; rw [same]; exact Nat.le_of_eq (by simpa using q)⟩
  have hlt : i < ds.length := by
    have := (List.getElem?_eq_some_iff.mp q).1
    simpa using this
  have place : ds[xs.length - 1 - i]? = some (ds[xs.length - 1 - i]'(by omega)) := List.getElem?_eq_getElem _
  have eQ : PD K (ds[xs.length - 1 - i]'(by omega)) = Q := by
    rw [List.getElem?_map, List.getElem?_reverse hlt] at q
    rw [show ds.length - 1 - i = xs.length - 1 - i by omega, place] at q
    exact Option.some.inj q
  subst eQ
  obtain ⟨v, h1, h2⟩ := hd.get place
  refine ⟨⟨by omega, xs, v, ex_t (u.trans u') h, h1⟩, fun x H' ⟨y1, y2⟩ => ?_⟩
  have ev : x = v := Option.some.inj ((y2 xs (ex_t (u.trans u') h)).symm.trans h1)
  subst ev y1
  exact ⟨H0', Step.rfl u', Dd.ex u _ _ h2⟩
theorem xi_revT {tg : Expr} {p : Pos} {ds : List PyData} (hm : X.mg "reversed" = none) (h : XE M Γ Rs X e (PD X.K (.tuple ds))) (hg : Gl X "reversed" := by rfl) (hs : starEach [e] X.env = (false, eval e X.env) :: starEach [] X.env := by rfl) :
    XI M Γ Rs X tg (.Call (.Name "reversed" p) [e] [] pos) (ds.reverse.map (PD X.K)) := fun σ H0 H l ex k R r => PI.wp (RT.pi_revA hg hm pe_wp hs) (h σ H0 H l ex k _ fun v H1 G1 s1 k1 ⟨b, xs, e3, h3, h4⟩ =>
  ⟨b, xs, e3, .inr ⟨ex_t s1.le h3, r _ H1 G1 s1 k1 (wk_revT h3 h4)⟩⟩)
end
end Lh
namespace K61
open PySem L2 Lh
section
variable {K : PySem.W.Frag} {mg : Str → Option Value} {base : Heap} {P : Program} {w : World}
/-- the links in a tuple -/
abbrev eLLT (l : List (List (List Int))) : PyData := .tuple (l.map eLL)
/-- house, start, links -/
abbrev ThG := { p : (List Int × List Int) × List Int × List (List (List Int)) // LsOk (p.1.1.length + 1) p.2.2 }
abbrev spNB (K : PySem.W.Frag) (C : Addr) : Sp := SpP (α := ThG) (fun p => [PHo K C p.1.1.1 p.1.1.2, PD K (.tuple (li p.1.2.1)), PD K (eLLT p.1.2.2)]) (fun p => PD K (eLL (upGs (p.1.1.1.length + 1) p.1.2.1 p.1.2.2 (p.1.2.2.length + 1))))
theorem ok_numbers_behind (T : Txt K mg) : FnOk P w K mg base CX0 3 T.f_numbers_behind T.d_numbers_behind ["house", "start", "links"] (spNB K T.C_House) := by
  refine fn_F T.F_numbers_behind sc_numbers_behind (fun _ => rfl) fun ⟨⟨⟨g, b⟩, st, ls⟩, hok⟩ Z0 Z Q X qX hQ => ?_
  obtain ⟨cdv, A, outer, s, E, rfl, hr⟩ := qX
  have hk : LsOk (g.length + 1) ls := hok
  have h9 : g.length ≤ 9 := by have := hk.ten; omega
  refine xs_newL 3 (ds := [eL (upG (g.length + 1) st ls 0)]) (xa_1 (YE.dat (xe_mapI 4 (fun f => .int (if f ∈ st then 1 else 0)) (xi_tup (xe_prop (ok_House_floors T) (g, b) (xe_var 0) rfl T.c_House T.m_House_floors (hr.mono (by decide)) T.b_House_floors)) (fun f hf s0 H0 C cl fp => by
      refine xe_ifx (xt_inT (xe_var 4) (xe_var 1)) (fun h => ?_) fun h => ?_
      · have h' : f ∈ st := of_decide_eq_true h.symm
        exact YE.dat xe_int (congrArg PyData.int (by rw [if_pos h']))
      · have h' : ¬ f ∈ st := of_decide_eq_false h.symm
        exact YE.dat xe_int (congrArg PyData.int (by rw [if_neg h']))) sc_numbers_behind.nd (blkOk_by rfl) (by simp only [rgI_len]; omega) cov0 (fun _ _ _ _ _ => pg_name (i := 4) sc_numbers_behind.nd rfl (Or.inl rfl))) ?_)) (by simp) (fun qn => ?_) cov0 sc_numbers_behind.nd
  · show PyData.list _ = PyData.list _
    rw [show upG (g.length + 1) st ls 0 = v0 (g.length + 1) st from rfl]
    unfold v0 li
    rw [List.map_map]
    rfl
  refine xs_forN 5 (xi_tup (xe_var 2)) (fun t Γ1 Rs1 => (∃ a4 a5 a6 a7 a8 a9, Γ1 = [some (PHo K T.C_House g b), some (PD K (.tuple (li st))), some (PD K (eLLT ls)), some (PV (.ref qn)), a4, a5, a6, a7, a8, a9]) ∧ Rs1 = [Res.lst Z qn (((upGs (g.length + 1) st ls (t + 1)).map eL).map (PD K))]) ⟨⟨none, none, none, none, none, none, rfl⟩, rfl⟩ ?_ ?_ sc_numbers_behind.nd
  · rintro t Qt Γ1 Rs1 hq ⟨⟨a4, a5, a6, a7, a8, a9, rfl⟩, rfl⟩ Hs
    obtain ⟨d, hd, rfl⟩ := map_at hq
    obtain ⟨l, hl, rfl⟩ := enc_at hd
    have hlt : t < ls.length := (List.getElem?_eq_some_iff.mp hl).1
    have hm := List.mem_of_getElem? hl
    have hlen : l.length = g.length + 1 := hk.wide l hm
    have hl1000 : ls.length ≤ 1000 := hk.size
    have hz : ∀ v : List Int, v = upG (g.length + 1) st ls t → v.length = g.length + 1 := fun v e => by rw [e, upG_len]
    obtain ⟨v, hv⟩ : ∃ v, v = upG (g.length + 1) st ls t := ⟨_, rfl⟩
    have hvl := hz v hv
    have hes : ∀ (m : Nat) (es : List Int), l[m]? = some es → es.Nodup ∧ ∀ e ∈ es, 0 ≤ e ∧ e ≤ g.length := fun m es hm2 => by
      have h := hk.subs l hm es (List.mem_of_getElem? hm2)
      exact ⟨rg_nodup.sublist h, fun x hx => by
        have := rg_in (h.subset hx)
        omega⟩
    refine xs_newF 6 (fe_rep (k := (g.length : Int) + 1) (xe_lst (ds := [.int 0]) (xa_1 xe_int) (by simp)) (xe_lenO (ok_House_len T) (g, b) T.z_len (xe_var 0) rfl rfl (by omega) T.m_House_len.at_ T.m_House_len.fn (hr.mono (by decide)) T.b_House_len) (by omega) (by simp; omega)) (fun qb => ?_) cov0 sc_numbers_behind.nd
    have hrep : ((List.replicate ((g.length : Int) + 1).toNat [PyData.int 0]).flatten.map (PD K)) = (li (List.replicate (g.length + 1) 0)).map (PD K) := by
      have e : ((g.length : Int) + 1).toNat = g.length + 1 := by omega
      rw [e, rep_one]
      simp [li]
    refine xs_swap ?_
    refine xs_forP 7 8 (xi_zip T.z_zip (YE.dat (d' := eL v) (xe_ixM (q := qn) (P := PD K (eL (upG (g.length + 1) st ls t))) (xe_var 3) (xe_neg xe_int) ?_) (by rw [hv])) (xe_var 5)) (fun u Γ2 Rs2 => (∃ a7 a8 a9, Γ2 = [some (PHo K T.C_House g b), some (PD K (.tuple (li st))), some (PD K (eLLT ls)), some (PV (.ref qn)), a4, some (PD K (eLL l)), some (PV (.ref qb)), a7, a8, a9]) ∧ Rs2 = [Res.lst Z qn (((upGs (g.length + 1) st ls (t + 1)).map eL).map (PD K)), Res.lst Z qb ((li (stepB (g.length + 1) ((v.zip l).take u))).map (PD K))]) ⟨⟨_, _, _, rfl⟩, ?_⟩ ?_ ?_ sc_numbers_behind.nd
    · rw [upGs_snoc, List.map_append, List.map_append]
      exact atI_last _ _
    · exact congrArg (fun z => [Res.lst Z qn (((upGs (g.length + 1) st ls (t + 1)).map eL).map (PD K)), Res.lst Z qb z]) hrep
    · rintro u Qu Γ2 Rs2 hq2 ⟨⟨a7, a8, a9, rfl⟩, rfl⟩
      obtain ⟨d1, d2, hd1, hd2, rfl⟩ := zip_at hq2
      obtain ⟨k, hk1, rfl⟩ := li_at hd1
      obtain ⟨es, hk2, rfl⟩ := enc_at hd2
      refine ⟨_, _, rfl, fun Hs2 => ?_⟩
      obtain ⟨hnd, hrg⟩ := hes u es hk2
      have hwl : (stepB (g.length + 1) ((v.zip l).take u)).length = g.length + 1 := stepB_len
      have hzip : (v.zip l).take (u + 1) = (v.zip l).take u ++ [(k, es)] := by
        have e : (v.zip l)[u]? = some (k, es) := by rw [List.getElem?_zip_eq_some]; exact ⟨hk1, hk2⟩
        rw [List.take_add_one, e]
        rfl
      have hnx : addAll k es (stepB (g.length + 1) ((v.zip l).take u)) = stepB (g.length + 1) ((v.zip l).take (u + 1)) := by
        rw [hzip]
        unfold stepB
        rw [List.foldl_append]
        rfl
      generalize stepB (g.length + 1) ((v.zip l).take u) = w0 at hwl hnx
      refine xs_swap ?_
      refine xs_forN 9 (xi_list (xe_var 8)) (fun c Γ3 Rs3 => (∃ a9, Γ3 = [some (PHo K T.C_House g b), some (PD K (.tuple (li st))), some (PD K (eLLT ls)), some (PV (.ref qn)), a4, some (PD K (eLL l)), some (PV (.ref qb)), some (PD K (.int k)), some (PD K (eL es)), a9]) ∧ Rs3 = [Res.lst Z qb ((li (addAll k (es.take c) w0)).map (PD K)), Res.lst Z qn (((upGs (g.length + 1) st ls (t + 1)).map eL).map (PD K))]) ⟨⟨_, rfl⟩, rfl⟩ ?_ ?_ sc_numbers_behind.nd
      · rintro c Qc Γ3 Rs3 hq3 ⟨⟨a9, rfl⟩, rfl⟩ Hs3
        obtain ⟨d3, hd3, rfl⟩ := map_at hq3
        obtain ⟨e, he, rfl⟩ := li_at hd3
        have her := hrg e (List.mem_of_getElem? he)
        refine xs_addS (k := e) (n := k) rfl (xe_var 6) (xe_var 9) (xe_var 7) (by rw [addAll_len, hwl]; omega) (xs_turn (fun σ H h => h) ⟨⟨_, rfl⟩, ?_⟩)
        rw [List.take_add_one, he]
        show _ = [Res.lst Z qb ((li (addAll k (es.take c ++ [e]) w0)).map (PD K)), _]
        rw [addAll_snoc]
        rfl
      · rintro Γ3 Rs3 ⟨⟨a9, rfl⟩, rfl⟩
        refine xs_swap (xs_turn (fun σ H h => h) ⟨⟨_, _, _, rfl⟩, ?_⟩)
        have e : ((li es).map (PD K)).length = es.length := by simp [li]
        show [_, Res.lst Z qb ((li (addAll k (es.take ((li es).map (PD K)).length) w0)).map (PD K))] = _
        rw [e, List.take_length, hnx]
    · rintro Γ2 Rs2 ⟨⟨a7, a8, a9, rfl⟩, rfl⟩
      have e : (List.zipWith (fun d e => PT2 K (PD K d) (PD K e)) (li v) (l.map eL)).length = g.length + 1 := by
        rw [List.length_zipWith, List.length_map, List.length_map, hvl, hlen]
        omega
      have hfin : stepB (g.length + 1) ((v.zip l).take (List.zipWith (fun d e => PT2 K (PD K d) (PD K e)) (li v) (l.map eL)).length) = upG (g.length + 1) st ls (t + 1) := by
        rw [e, List.take_of_length_le (by rw [List.length_zip, hvl, hlen]; omega), hv]
        exact (upG_step hl).symm
      refine xs_swap (xs_frzK 6 rfl rfl ?_)
      refine xs_app (q := qn) (P := PD K (eL (upG (g.length + 1) st ls (t + 1)))) (xe_var 3) (YE.dat (xe_var 6) (congrArg eL hfin)) (by rw [List.length_map, List.length_map]; unfold upGs; rw [List.length_map, List.length_range]; omega) (xs_turn (fun σ H h => h) ⟨⟨_, _, _, _, _, _, rfl⟩, ?_⟩) (pe_bm PySem.F.plainAttrs_list PySem.F.slot_list_append PySem.F.type_list_append mt_append pe_wp (pa_cons pe_wp pa_nil))
      rw [upGs_snoc (k := t + 1)]
      simp
  · rintro Γ1 Rs1 ⟨⟨a4, a5, a6, a7, a8, a9, rfl⟩, rfl⟩
    refine xs_frzK 3 rfl rfl ?_
    refine xs_ret (YE.dat (xe_var 3) ?_) fun v H0 H s k hv => hQ v H0 H s k hv
    have e : ((ls.map eLL).map (PD K)).length = ls.length := by simp
    show PyData.list ((upGs (g.length + 1) st ls (((ls.map eLL).map (PD K)).length + 1)).map eL) = _
    rw [e]
abbrev spNumsT (K : PySem.W.Frag) (C : Addr) : Sp := SpP (α := { p : (List Int × List Int) × List (List (List Int)) // p.1.1.length ≤ 9 ∧ LinksOk (p.1.1.length + 1) p.2 }) (fun p => [PHo K C p.1.1.1 p.1.1.2, PD K (eLLT p.1.2)]) (fun p => PD K (eLL (numsM (p.1.1.1.length + 1) p.1.2)))
theorem ok_numbers_aheadT (T : Txt K mg) : FnOk P w K mg base CX0 3 T.f_numbers_ahead T.d_numbers_ahead ["house", "links"] (spNumsT K T.C_House) := by
  refine fn_F T.F_numbers_ahead sc_numbers_ahead (fun _ => rfl) fun ⟨⟨⟨g, b⟩, ls⟩, h9, hok⟩ Z0 Z Q X qX hQ => ?_
  obtain ⟨cdv, A, outer, s, E, rfl, hr⟩ := qX
  have h9' : g.length ≤ 9 := h9
  have hok' : LinksOk (g.length + 1) ls := hok
  have hsz := hok'.size
  refine xs_newL 2 (ds := [eL (List.replicate (g.length + 1) 1)]) (xa_1 (YE.dat (xe_repL (k := ((g.length : Int) + 1)) (xe_lst (ds := [.int 1]) (xa_1 xe_int) (by simp)) (xe_lenO (ok_House_len T) (g, b) T.z_len (xe_var 0) rfl rfl (by omega) T.m_House_len.at_ T.m_House_len.fn (hr.mono (by decide)) T.b_House_len) (by omega) (by simp; omega)) ?_)) (by simp) (fun q => ?_) cov0 sc_numbers_ahead.nd
  · have e : ((g.length : Int) + 1).toNat = g.length + 1 := by omega
    rw [e, rep_one]
    simp [li]
  refine xs_forN 3 (xi_revT T.z_reversed (xe_var 1)) (fun t Γ1 Rs1 => (∃ x1 x2, Γ1 = [some (PHo K T.C_House g b), some (PD K (eLLT ls)), some (PV (.ref q)), x1, x2, none, none]) ∧ Rs1 = [Res.lst Z q (((numsM (g.length + 1) (ls.drop (ls.length - t))).reverse.map eL).map (PD K))]) ⟨⟨none, none, rfl⟩, ?_⟩ ?_ ?_ sc_numbers_ahead.nd
  · rw [Nat.sub_zero, List.drop_length]
    rfl
  · rintro t Qt Γ1 Rs1 hq ⟨⟨x1, x2, rfl⟩, rfl⟩ Hs
    obtain ⟨d, hd, rfl⟩ := map_at hq
    have hlt : t < ls.length := by
      have := (List.getElem?_eq_some_iff.mp hd).1
      simpa using this
    have hpos : ls.length - 1 - t < ls.length := by omega
    have hd2 : d = eLL (ls[ls.length - 1 - t]) := by
      rw [← List.map_reverse] at hd
      obtain ⟨l, hl, rfl⟩ := enc_at hd
      rw [List.getElem?_reverse hlt, List.getElem?_eq_getElem hpos] at hl
      rw [Option.some.inj hl]
    subst hd2
    have hmem : ls[ls.length - 1 - t] ∈ ls := List.getElem_mem _
    generalize hl : ls[ls.length - 1 - t] = l at hmem
    have hdrop : ls.drop (ls.length - (t + 1)) = l :: ls.drop (ls.length - t) := by
      have e1 : ls.length - (t + 1) = ls.length - 1 - t := by omega
      have e2 : ls.length - t = ls.length - 1 - t + 1 := by omega
      rw [e1, e2, List.drop_eq_getElem_cons hpos, hl]
    generalize hsuf : ls.drop (ls.length - t) = suf at hdrop
    have hsufw : ∀ l ∈ suf, l.length = g.length + 1 := fun l hl => hok'.wide l (List.mem_of_mem_drop (hsuf ▸ hl))
    obtain ⟨r, hr2⟩ := numsM_cons (g.length + 1) suf
    have hw := head_wide hsufw
    generalize hbeh : (numsM (g.length + 1) suf).headD [] = beh at hr2 hw
    have hends := hok'.ends l hmem
    have hwid := hok'.wide l hmem
    refine xs_asg 4 (xe_ixM (q := q) (P := PD K (eL beh)) (xe_var 2) (xe_neg xe_int) ?_) ?_ sc_numbers_ahead.nd
    · rw [hr2, List.reverse_cons, List.map_append, List.map_append]
      exact atI_last _ _
    refine xs_app (q := q) (P := PD K (eL (stepM l beh))) (xe_var 2) (YE.dat (xe_mapG eL l 6 (fun es => .int (sumAt beh es)) (xi_list (xe_var 3)) (fun es hes s0 H0 C cl fp => by
        refine xe_sumL T.z_sum (YE.dat (xe_mapI 5 (fun e => .int (gtI beh e)) (xi_list (xe_var 6)) (fun e he s1 H1 C1 cl1 fp1 => by
            refine xe_ixL (xe_var 4) (xe_var 5) (atI_ints ?_ ?_)
            · exact ((hends es hes).2 e he).1
            · have := ((hends es hes).2 e he).2
              omega) sc_numbers_ahead.nd (blkOk_by rfl) (by have := (hends es hes).1; omega) cov0 (fun _ _ _ _ _ => pg_name (i := 5) sc_numbers_ahead.nd rfl (Or.inl rfl))) ?_)
        unfold li
        rw [List.map_map]
        rfl) sc_numbers_ahead.nd (blkOk_by rfl) (by omega) cov0 (fun _ _ _ _ _ => pg_name (i := 6) sc_numbers_ahead.nd rfl (Or.inl rfl))) ?_) ?_ ?_ (pe_bm PySem.F.plainAttrs_list PySem.F.slot_list_append PySem.F.type_list_append mt_append pe_wp (pa_cons pe_wp pa_nil))
    · show PyData.list _ = PyData.list _
      unfold stepM li
      rw [List.map_map]
      rfl
    · rw [List.length_map, List.length_map, List.length_reverse, numsM_len]
      have : suf.length ≤ 1000 := by
        rw [← hsuf, List.length_drop]
        omega
      omega
    · refine xs_turn (fun σ H h => h) ⟨⟨_, _, rfl⟩, ?_⟩
      have e : numsM (g.length + 1) (l :: suf) = stepM l beh :: numsM (g.length + 1) suf := by
        show stepM l ((numsM (g.length + 1) suf).headD []) :: _ = _
        rw [hbeh]
      rw [hdrop, e, List.reverse_cons, List.map_append, List.map_append]
      rfl
  · rintro Γ1 Rs1 ⟨⟨x1, x2, rfl⟩, rfl⟩
    refine xs_frzK 2 rfl rfl ?_
    refine xs_ret (YE.dat (xe_revL (xe_var 2)) ?_) fun v H0 H s k hv => hQ v H0 H s k hv
    rw [← List.map_reverse, List.reverse_reverse]
    simp
abbrev spThr (K : PySem.W.Frag) (C : Addr) : Sp := SpP (α := ThG) (fun p => [PHo K C p.1.1.1 p.1.1.2, PD K (.tuple (li p.1.2.1)), PD K (eLLT p.1.2.2)]) (fun p => PD K (eLL (thrGs (p.1.1.1.length + 1) p.1.2.1 p.1.2.2 (p.1.2.2.length + 1))))
theorem ok_numbers_through (T : Txt K mg) : FnOk P w K mg base CX0 7 T.f_numbers_through T.d_numbers_through ["house", "start", "links"] (spThr K T.C_House) := by
  refine fn_F T.F_numbers_through sc_numbers_through (fun _ => rfl) fun ⟨⟨⟨g, b⟩, st, ls⟩, hok⟩ Z0 Z Q X qX hQ => ?_
  obtain ⟨cdv, A, outer, s, E, rfl, hr⟩ := qX
  have hk : LsOk (g.length + 1) ls := hok
  have h9 : g.length ≤ 9 := by have := hk.ten; omega
  have hsz := hk.size
  refine xs_newL 3 (ds := []) xa_nil (by simp) (fun q => ?_) cov0 sc_numbers_through.nd
  refine xs_forP 4 5 (xi_zip T.z_zip (xe_callD (ok_numbers_behind T) ⟨((g, b), st, ls), hk⟩ (hr.mono (by decide)) T.g_numbers_behind T.F_numbers_behind.kp T.b_numbers_behind (xa_cons (xe_var 0) (xa_cons (xe_var 1) (xa_1 (xe_var 2))))) (xe_callD (ok_numbers_aheadT T) ⟨((g, b), ls), h9, hk.old⟩ (hr.mono (by decide)) T.g_numbers_ahead T.F_numbers_ahead.kp T.b_numbers_ahead (xa_cons (xe_var 0) (xa_1 (xe_var 2))))) (fun t Γ1 Rs1 => (∃ a5 a6 a7 a8, Γ1 = [some (PHo K T.C_House g b), some (PD K (.tuple (li st))), some (PD K (eLLT ls)), some (PV (.ref q)), a5, a6, a7, a8]) ∧ Rs1 = [Res.lst Z q (((thrGs (g.length + 1) st ls t).map eL).map (PD K))]) ⟨⟨none, none, none, none, rfl⟩, rfl⟩ ?_ ?_ sc_numbers_through.nd
  · rintro t Qt Γ1 Rs1 hq ⟨⟨a5, a6, a7, a8, rfl⟩, rfl⟩
    obtain ⟨d, e, hd, he, rfl⟩ := zip_at hq
    obtain ⟨u, hu, rfl⟩ := enc_at hd
    obtain ⟨v, hv, rfl⟩ := enc_at he
    refine ⟨_, _, rfl, fun Hs => ?_⟩
    have hlt : t ≤ ls.length := by
      have h := (List.getElem?_eq_some_iff.mp hu).1
      have e : (upGs (g.length + 1) st ls (ls.length + 1)).length = ls.length + 1 := by
        unfold upGs
        rw [List.length_map, List.length_range]
      have h' : t < (upGs (g.length + 1) st ls (ls.length + 1)).length := h
      omega
    have eu : u = upG (g.length + 1) st ls t := by
      have h : (upGs (g.length + 1) st ls (ls.length + 1))[t]? = some u := hu
      unfold upGs at h
      rw [List.getElem?_map, List.getElem?_range (by omega)] at h
      exact (Option.some.inj h).symm
    have ev : v = headG (g.length + 1) (ls.drop t) := by
      have h : (numsM (g.length + 1) (ls))[t]? = some v := hv
      rw [numsM_at (g.length + 1) ls t hlt] at h
      exact (Option.some.inj h).symm
    have hul : u.length = g.length + 1 := by rw [eu, upG_len]
    have hvl : v.length = g.length + 1 := by exact ev ▸ head_wide fun k hk2 => hk.wide k (List.mem_of_mem_drop hk2)
    have hthr : (thrG (g.length + 1) st ls t).length = g.length + 1 := by
      unfold thrG
      rw [List.length_map, rgI_len]
    have hzl : (List.zipWith (fun d e => PT2 K (PD K d) (PD K e)) (li u) (li v)).length = g.length + 1 := by
      rw [List.length_zipWith, List.length_map, List.length_map, hul, hvl]
      omega
    refine xs_app (q := q) (P := PD K (eL (thrG (g.length + 1) st ls t))) (xe_var 3) (YE.imp (xe_lcP (K := K) 6 7 (by decide) (xi_zip T.z_zip (xe_var 4) (xe_var 5)) (fun i ds => ds = li ((thrG (g.length + 1) st ls t).take i)) rfl (fun i Qi hqi => ?_) sc_numbers_through.nd (blkOk_by rfl) (by rw [List.length_zipWith, List.length_map, List.length_map, hul, hvl]; omega) cov0 (fun _ _ _ _ _ => pg_tup rfl (pgs_cons (pg_name (i := 6) sc_numbers_through.nd rfl (Or.inl rfl)) (pgs_cons (pg_name (i := 7) sc_numbers_through.nd rfl (Or.inl rfl)) pgs_nil)))) (fun v1 H h => ?_)) (by
        rw [List.length_map, List.length_map]
        unfold thrGs
        rw [List.length_map, List.length_range]
        omega) (xs_turn (fun σ H h => h) ⟨⟨_, _, _, _, rfl⟩, ?_⟩) (pe_bm PySem.F.plainAttrs_list PySem.F.slot_list_append PySem.F.type_list_append mt_append pe_wp (pa_cons pe_wp pa_nil))
    · obtain ⟨d2, e2, hd2, he2, rfl⟩ := zip_at hqi
      obtain ⟨x, hx, rfl⟩ := li_at hd2
      obtain ⟨y, hy, rfl⟩ := li_at he2
      refine ⟨_, _, rfl, fun s0 H0 C cl fp => ?_⟩
      have hi : i < g.length + 1 := by
        have h := (List.getElem?_eq_some_iff.mp hx).1
        have h' : i < u.length := h
        omega
      have ex : x = gtI (upG (g.length + 1) st ls t) (i : Int) := by
        have h : gtI u (i : Int) = x := by
          unfold gtI
          rw [List.getD_eq_getElem?_getD, Int.toNat_natCast, hx]
          rfl
        rw [← h, eu]
      have ey : y = gtI (headG (g.length + 1) (ls.drop t)) (i : Int) := by
        have h : gtI v (i : Int) = y := by
          unfold gtI
          rw [List.getD_eq_getElem?_getD, Int.toNat_natCast, hy]
          rfl
        rw [← h, ev]
      have hmul : CMulW x y := by
        have c1 := upG_cap (st := st) hk hlt (x := (i : Int)) (by omega)
        have c2 := headG_cap (hk.drop t) (x := (i : Int)) (by omega)
        have h1 := log10 c1.1 c1.2 (by omega)
        have h2 := log10 c2.1 c2.2 (by rw [List.length_drop]; omega)
        rw [ex, ey]
        unfold CMulW
        omega
      have hat : (thrG (g.length + 1) st ls t)[i]? = some (x * y) := by
        unfold thrG
        rw [List.getElem?_map]
        have e : (rgI 0 (g.length + 1))[i]? = some (i : Int) := by
          unfold rgI
          simp [hi]
        rw [e, ex, ey]
        rfl
      refine YE.imp (xe_mul (xe_var 6) (xe_var 7) hmul) fun v2 H h => ⟨_, fun ds _ e => ?_, h⟩
      have e' : ds = li ((thrG (g.length + 1) st ls t).take i) := e
      show ds ++ [PyData.int (x * y)] = li ((thrG (g.length + 1) st ls t).take (i + 1))
      rw [e', List.take_add_one, hat]
      simp [li]
    · obtain ⟨ds, ⟨e, _⟩, h2⟩ := h
      have e2 : ds = li ((thrG (g.length + 1) st ls t).take (List.zipWith (fun d e => PT2 K (PD K d) (PD K e)) (li u) (li v)).length) := e
      rw [hzl, List.take_of_length_le (by rw [hthr]; exact Nat.le_refl _)] at e2
      subst e2
      exact h2
    · rw [thrGs_snoc]
      simp
  · rintro Γ1 Rs1 ⟨⟨a5, a6, a7, a8, rfl⟩, rfl⟩
    refine xs_frzK 3 rfl rfl ?_
    refine xs_ret (YE.dat (xe_var 3) ?_) fun v H0 H s k hv => hQ v H0 H s k hv
    have e : (List.zipWith (fun d e => PT2 K (PD K d) (PD K e)) ((upGs (g.length + 1) st ls (ls.length + 1)).map eL) ((numsM (g.length + 1) (ls)).map eL)).length = ls.length + 1 := by
      rw [List.length_zipWith, List.length_map, List.length_map, numsM_len]
      unfold upGs
      simp
    show PyData.list ((thrGs (g.length + 1) st ls (List.zipWith (fun d e => PT2 K (PD K d) (PD K e)) ((upGs (g.length + 1) st ls (ls.length + 1)).map eL) ((numsM (g.length + 1) (ls)).map eL)).length).map eL) = _
    rw [e]
end
end K61
namespace Lh
open PySem L2
open Evl (Ex ex_l ex_t ex_rd fresh_back)
section
variable {M : Addr → Prop} {Γ Γ' : Ct} {Rs : List Res} {X : Cx} {Z0 Z Hl : Hp} {D : Ends} {K : PySem.W.Frag} {rest : List Stmt} {a b c e : Expr} {es : List Expr} {pos p : Pos}
/-- list(t), to be changed -/
theorem fe_listT {ds : List PyData} (hm : X.mg "list" = none) (h : XE M Γ Rs X a (PD X.K (.tuple ds))) (hg : Gl X "list" := by rfl) (he : starEach [a] X.env = (false, eval a X.env) :: starEach [] X.env := by rfl) : FE M Γ Rs (wpE X (.Call (.Name "list" p) [a] [] pos)) (ds.map (PD X.K)) :=
  FE.wp (pe_callTy call_list_of hg hm (by decide +kernel) (pa_cons pe_wp pa_nil he) (by decide) (by decide) he rfl) fun σ H0 H l e k Q q => h σ H0 H l e k _ fun v H1 G1 s1 k1 ⟨b, xs, e1, h1, h2⟩ => by
    subst e1
    exact ⟨b, xs, rfl, .inr (ex_t s1.le h1), fun d hd => q d _ H1 G1 s1 k1 hd h2.da⟩
end
end Lh
/-! An own error over ValueError whose __init__ begins with super().__init__(..). -/
namespace LhX
open PySem L2 PySem.W PyProof.Rows PySem.Calls Lh
/-- the frame of such an __init__ -/
abbrev envI (qual : Str) (scope : Scope) (L f : Addr) (cda cc : Addr) : Env := envX qual scope L f (.ref cda) [("__class__", cc)]
/-- the context of its body -/
def cxI (CX : CXT) (P : Program) (w : World) (K : Frag) (mg : Str → Option Value) (base : Heap) (N : List Str) (env : Env) (A : Around) (outer : List Env) (s : Shared) (H : Hp) (E : XK) : Cx where
  prog := P
  w := w
  K := K
  mg := mg
  base := base
  A := A.deeper env
  N := N
  s_0 := s
  H_0 := H
  env := env
  outer := outer
  stack := env :: outer
  ex := []
  fn := fun _ => false
  calm := true
  pn := []
  xe := fun e s' => wpAny (model P w) (A.deeper env) (leaving env e) (fun _ s'' => CX outer H s E e s'') (fun e' s'' => CX outer H s E e' s'') s'
/-- what the written part says of the class at C, its __init__ at f -/
structure SupD (P : Program) (K : Frag) (mg : Str → Option Value) (C : Addr) (qual : Str) (st : Stmt) (f : Addr) (fd : FuncData) : Prop where
  lk : ∃ (oc kV doc pm ct ccl cl : Value) (od an cdd cld : Option Addr) (osl ccs csl : Array (Option Value)) (cda cc : Addr) (vs : Array Value) (file : Str) (tf : Tok),
    fd = fnX "__init__" qual (defArgs st) (defBody st) (defScope st) [("__class__", cc)] .none kV doc pm an (.ref cda) ct ∧ K.lookup f = some ⟨oc, od, .func fd, osl⟩ ∧ codeIn K (.ref cda) qual = true ∧
    K.lookup cda = some ⟨ccl, cdd, .fields vs, ccs⟩ ∧ vs[2]? = some (.str file tf) ∧ ((P.main.file : Str) == file) = true ∧ K.lookup cc = some ⟨cl, cld, .cell (some (.ref C)), csl⟩
  top : (P.main.scope.names.lookup ("super" : Str)).isSome = false
  sup : mg "super" = none
  opq : nsIn K cStatics "thirdparty.any" = some none
  ini : ks_superIn K C C "__init__" = some (some (.builtin "ValueError.__init__"))
  isV : subIn K (.ref C) (.type "ValueError") = some true
  inC : mroIn K C (.ref C) = some true
  oex : OexC K C
/-- what its scope must be -/
structure SupS (ps : List Str) (st : Stmt) : Prop where
  kind : (defScope st).kind = .function
  co : (defScope st).isCoroutine = false
  gen : (defScope st).isGenerator = false
  nd : ps.Nodup
  par : ∀ x ∈ ps, (defScope st).names.lookup x = some .local
  nocell : ∀ y ∈ (defScope st).names, y.2 ≠ .cell
  free : ∀ y, (defScope st).names.lookup y = some .free → y = "__class__"
  cls : (defScope st).names.lookup ("__class__" : Str) = some .free
  sup : (defScope st).names.lookup ("super" : Str) = some .globalImplicit
  self : ps[0]? = some ("self" : Str)
  arg : ((defArgs st).posonlyargs ++ (defArgs st).args).head?.map (·.arg) = some ("self" : Str)
section
variable {P : Program} {w : World} {K : Frag} {mg : Str → Option Value} {base : Heap} {C f : Addr} {qual : Str} {st : Stmt} {fd : FuncData} {ps : List Str}
end
end LhX
/-! for x, (y, z) in iter. -/
namespace Lh
open PySem L2
open Evl (Ex ex_l ex_t ex_rd fresh_back)
section
variable {M : Addr → Prop} {Γ Γ' : Ct} {Rs : List Res} {X : Cx} {Z0 Z Hl : Hp} {D : Ends} {K : PySem.W.Frag} {rest : List Stmt} {a b c e : Expr} {es : List Expr} {pos p : Pos}
theorem xt_or3B {u v w : Bool} (h : XT M Γ Rs X a (Is u)) (h' : u = false → XT M Γ Rs X b (Is v)) (h'' : u = false → v = false → XT M Γ Rs X c (Is w)) : XT M Γ Rs X (.BoolOp .Or [a, b, c] pos) (Is (u || (v || w))) := (xt_or3 h (fun z => h' z.symm) fun z z' => h'' z.symm z'.symm).imp fun t ht => by
  rcases ht with ⟨q, rfl⟩ | ⟨q, ⟨q1, rfl⟩ | ⟨q1, q2⟩⟩
  · have q' : true = u := q
    rw [← q']
    rfl
  · have q' : false = u := q
    have r' : true = v := q1
    rw [← q', ← r']
    rfl
  · have q' : false = u := q
    have r' : false = v := q1
    have s' : t = w := q2
    show t = _
    rw [← q', ← r', s']
    rfl
end
end Lh
namespace Lh
open PySem L2
open Evl (Ex ex_l ex_t ex_rd fresh_back)
section
variable {M : Addr → Prop} {Γ Γ' : Ct} {Rs : List Res} {X : Cx} {Z0 Z Hl : Hp} {D : Ends} {K : PySem.W.Frag} {rest : List Stmt} {a b c e : Expr} {es : List Expr} {pos p : Pos}
end
end Lh
/-! Tuples of any length taken apart, with names that may be captured further in. -/
namespace Lh
open PySem L2
open Evl (Ex ex_l ex_t ex_rd fresh_back)
def gNames : List Nat → TGs
  | [] => gNil
  | i :: is => gCons (gName i) (gNames is)
def setAll (Γ : Ct) : List Nat → List Pd → Ct
  | i :: is, P :: Ps => setAll (Γ.set i (some P)) is Ps
  | _, _ => Γ
theorem gv_names : ∀ {is : List Nat} {Ps : List Pd} {Γ : Ct} {xs : List V} {σ : L2.St} {H0 H : Hp} {R : L2.St → Hp → Prop}, is.length = Ps.length → DAll Ps xs H0 → Sl Γ σ H0 → (∀ σ', Sl (setAll Γ is Ps) σ' H0 → R σ' H) → gNames is xs σ H R
  | [], [], Γ, xs, σ, H0, H, R, _, hd, l, r => ⟨hd.nil_inv, r σ l⟩
  | [], _ :: _, _, _, _, _, _, _, hl, _, _, _ => by cases hl
  | _ :: _, [], _, _, _, _, _, _, hl, _, _, _ => by cases hl
  | i :: is, P :: Ps, Γ, xs, σ, H0, H, R, hl, hd, l, r => by
    obtain ⟨x, w, e, h1, h2⟩ := hd.inv
    subst e
    exact ⟨x, w, rfl, gv_names (by simpa using hl) h2 (l.set h1) r⟩
section
variable {M : Addr → Prop} {Γ Γ' : Ct} {Rs : List Res} {X : Cx} {Z0 Z Hl : Hp} {D : Ends} {K : PySem.W.Frag} {rest : List Stmt} {a b c e : Expr} {es ts : List Expr} {pos p : Pos}
theorem pgN_nil : PGs X [] (gNames []) := pgs_nil
theorem pgN_cons {i : Nat} {x : Str} {px : Pos} {is : List Nat} (h : PGs X ts (gNames is)) (hN : X.N.Nodup) (hi : X.N[i]? = some x := by rfl) (hx : Loc X.env.scope x := by first | exact Or.inl rfl | exact Or.inr rfl)
    (hf : X.fn x = true ∨ X.env.scope.names.lookup x = some .local := by first | exact .inl rfl | exact .inr rfl)
    (hs : (assignEach (.Name x px :: ts) X.env).map (·.2) = assign (.Name x px) X.env :: (assignEach ts X.env).map (·.2) := by rfl) : PGs X (.Name x px :: ts) (gNames (i :: is)) := pgs_cons (pg_name hN hi hx hf) h hs
/-- a tuple of data as a tuple of things -/
theorem pts_of : ∀ {ds : List PyData} {v : V} {H : Hp}, (PD K (.tuple ds)).p v H → (PTs K (ds.map (PD K))).p v H := fun {ds v H} ⟨a, xs, e, h1, h2⟩ => ⟨a, xs, e, h1, h2.da⟩
theorem xe_pts {ds : List PyData} (h : XE M Γ Rs X e (PD X.K (.tuple ds))) : XE M Γ Rs X e (PTs X.K (ds.map (PD X.K))) := h.imp fun _ _ => pts_of
end
end Lh
/-! Texts of errors; errors made and raised; promises of defs that raise. -/
namespace LhX
open PySem L2 PySem.W PyProof.Rows PySem.Calls Lh
open Evl (Ex ex_l ex_t ex_rd fresh_back)
/-! ### f-strings: nothing is told of them but that they are short -/
def PShort (K : Frag) (n : Nat) : Pd := PEx (fun s : Str => s.length ≤ n) fun s => PD K (.str s)
section
variable {M : Addr → Prop} {Γ : Ct} {Rs : List Res} {X : Cx} {K : Frag} {e : Expr} {es : List Expr} {pos : Pos}
/-- the parts -/
inductive XJ (M : Addr → Prop) (Γ : Ct) (Rs : List Res) (X : Cx) (K : Frag) : List Expr → Prop where
  | nil : XJ M Γ Rs X K []
  | cons {e : Expr} {es : List Expr} (h : XE M Γ Rs X e (PShort K 2000)) (r : XJ M Γ Rs X K es) : XJ M Γ Rs X K (e :: es)
end
/-! ### what an error bears -/
/-- a field's value: a small int or a short text -/
inductive Fm : V → Prop where
  | int (i : Int) : i.natAbs.log2 < 1920 → Fm (.int i)
  | str (y : Str) : y.length ≤ 2000 → Fm (.str y)
def dOf : V → PyData
  | .int i => .int i
  | .str y => .str y
  | _ => .none
/-- an error made: its object at a, its dict at dx -/
structure MadeE (H : Hp) (a C dx : Addr) (fs : List (Str × V)) (H2 : Hp) : Prop where
  obj : H2 a = some (exo a C (some dx))
  dct : H2 dx = some (exd dx fs)
  new : H dx = none
  old : ∀ b o, b ≠ a → H b = some o → H2 b = some o
abbrev spI1 (C : Addr) (k1 : Str) : Sp := fun vs H Q _ => ∃ (a : Addr) (v : V), vs = [.ref a, v] ∧ Fm v ∧ H a = some (exo a C none) ∧ ∀ dx H2, MadeE H a C dx [(k1, v)] H2 → Q .non H2
abbrev spI2 (C : Addr) (k1 k2 : Str) : Sp := fun vs H Q _ => ∃ (a : Addr) (v1 v2 : V), vs = [.ref a, v1, v2] ∧ Fm v1 ∧ Fm v2 ∧ H a = some (exo a C none) ∧ ∀ dx H2, MadeE H a C dx [(k2, v2), (k1, v1)] H2 → Q .non H2
section
variable {P : Program} {w : World} {K : Frag} {mg : Str → Option Value} {base : Heap} {C f : Addr} {qual : Str} {st : Stmt} {fd : FuncData}
end
end LhX
/-! Raising: errors made and raised, promises of defs that raise, calls that raise. -/
namespace LhX
open PySem L2 PySem.W PyProof.Rows PySem.Calls Lh
open Evl (Ex ex_l ex_t ex_rd fresh_back)
/-- an error of the class at C with these fields -/
def ErrIs (C : Addr) (fs : List (Str × V)) : XK := fun cls d H => cls = .ref C ∧ ((fs = [] ∧ d = none) ∨ ∃ dd, d = some dd ∧ H dd = some (.xd fs))
section
variable {X : Cx} {x : Str} {e : Expr} {es : List Expr} {p pos : Pos} {C : Addr} {ta : TA}
end
/-- a class of the program over ValueError -/
structure ErrC (K : Frag) (mg : Str → Option Value) (x : Str) (C : Addr) : Prop where
  gC : mg x = some (.ref C)
  kC : keepIn K (.ref C) = true
  ra1 : subIn K (.ref C) (.type "BaseException") = some true
  ra2 : typeIn K (.ref C) = some (.type "type")
/-- .. without __init__ -/
structure Err0 (K : Frag) (mg : Str → Option Value) (x : Str) (C : Addr) : Prop extends ErrC K mg x C where
  ex : excIn K C PySem.HandSPX.veTail "ValueError.__new__" = true
/-- .. with an __init__ of the program's -/
structure ErrI (P : Program) (w : World) (K : Frag) (mg : Str → Option Value) (base : Heap) (x : Str) (C fI : Addr) (fd : FuncData) (ps : List Str) (sp : Sp) : Prop extends ErrC K mg x C where
  oex : OexC K C
  iC : findIn K (.ref C) "__init__" = some (some (.ref fI))
  tI : typeIn K (.ref fI) = some (.type "function")
  ini : FnOk P w K mg base L2.CX0 2 fI fd ps sp
  bnd : Binds K fd ps []
section
variable {M : Addr → Prop} {Γ : Ct} {Rs : List Res} {X : Cx} {Z0 Z Hl : Hp} {D : Ends} {rest : List Stmt} {e : Expr} {es : List Expr} {p pos pos' : Pos} {C : Addr} {x : Str} {W : WX} {K : Frag} {mg : Str → Option Value}
end
/-! ### promises of defs that raise -/
/-- from things as pre tells: the error as exc tells -/
def SpX {α : Type} (pre : α → List Pd) (exc : α → XK) : Sp := fun vs H _ E => ∃ (y : α) (H0 : Hp), Ex H0 H ∧ DAll (pre y) vs H0 ∧ ∀ cls d H0' H', Lh.Step M0 H0 H H0' H' → exc y cls d H0' → E cls d H'
/-- .. of an __init__ -/
def SpIX {α : Type} (C : Addr) (pre : α → List Pd) (exc : α → XK) : Sp := fun vs H _ E => ∃ (y : α) (x dx : Addr) (H0 : Hp) (ws : List V), vs = .ref x :: ws ∧ Ex H0 H ∧ Rok [Res.ob C x dx []] H0 H ∧ DAll (pre y) ws H0 ∧ ∀ cls d H0' H', Lh.Step (MX x) H0 H H0' H' → exc y cls d H0' → E cls d H'
def noEnd : Ends := { nx := fun _ _ => False, rt := fun _ _ => False }
section
variable {K : Frag} {mg : Str → Option Value} {base : Heap} {P : Program} {w : World}
end
end LhX
/-! Expressions that raise. -/
namespace LhX
open PySem L2 PySem.W PyProof.Rows PySem.Calls Lh
open Evl (Ex ex_l ex_t ex_rd fresh_back)
/-- a reading that ends in an error: Q is never asked -/
def YR (M : Addr → Prop) (Γ : Ct) (Rs : List Res) (Z0 Z : Hp) (t : TE) : Prop := ∀ (σ : L2.St) (H0 H : Hp), Sl Γ σ H0 → Lh.Step M Z0 Z H0 H → Rok Rs H0 H → ∀ Q : VK, t σ H Q
abbrev XR (M : Addr → Prop) (Γ : Ct) (Rs : List Res) (X : Cx) (Z0 Z : Hp) (e : Expr) : Prop := YR M Γ Rs Z0 Z (wpE X e)
def XAR (M : Addr → Prop) (Γ : Ct) (Rs : List Res) (X : Cx) (Z0 Z : Hp) (es : List Expr) : Prop := ∀ (σ : L2.St) (H0 H : Hp), Sl Γ σ H0 → Lh.Step M Z0 Z H0 H → Rok Rs H0 H → ∀ Q : List V → Hp → Prop, wpA X es σ H Q
section
variable {M : Addr → Prop} {Γ : Ct} {Rs : List Res} {X : Cx} {Z0 Z Hl : Hp} {D : Ends} {rest : List Stmt} {e : Expr} {es : List Expr} {p pos pos' : Pos} {C : Addr} {x : Str} {W : WX} {K : Frag} {mg : Str → Option Value}
/-! ### statements -/
/-! ### arguments -/
/-! ### calls -/
end
/-! ### an __init__ that raises -/
section
variable {K : Frag} {mg : Str → Option Value} {base : Heap} {P : Program} {w : World}
end
end LhX
/-! Within an except suite: the error's class, its fields; count and index of lists of data. -/
namespace LhX
open PySem L2 PySem.W PyProof.Rows PySem.Calls Lh
open Evl (Ex ex_l ex_t ex_rd fresh_back)
/-- the caught error: at a, its dict d -/
def PErr (a : Addr) (fs : List (Str × V)) (d : Option Addr) : Pd := ⟨fun v H => v = .ref a ∧ ((fs = [] ∧ d = none) ∨ ∃ dd, d = some dd ∧ H dd = some (.xd fs)), fun e ⟨h1, h2⟩ => ⟨h1, h2.imp id fun ⟨dd, q1, q2⟩ => ⟨dd, q1, e _ _ q2⟩⟩⟩
def rIsX (K : Frag) (D a : Addr) (d : Option Addr) : List V → Hp → VK → Prop := fun xs H Q => ∃ (c : V) (cv : Value) (b : Bool), xs = [.ref a, c] ∧ (d = none ∨ ∃ dd fs, d = some dd ∧ H dd = some (.xd fs)) ∧ (∀ u, RelV c u → u = cv) ∧ kitOne K (.ref D) cv = some b ∧ Q (.bl b) H
section
variable {M : Addr → Prop} {Γ : Ct} {Rs : List Res} {X : Cx} {a D : Addr} {oe : Obj} {d : Option Addr} {pn : List (Addr × Obj)} {fs : List (Str × V)} {o c : Expr} {p pos : Pos} {K : Frag}
end
/-! ### l.count(x), l.index(x) -/
section
variable {X : Cx}
def rCntD (K : Frag) : V → List V → Hp → VK → Prop := fun x xs H Q => ∃ (a : Addr) (y : V) (d : PyData) (ds : List PyData), x = V.ref a ∧ xs = [y] ∧ Dp K H (V.ref a) (.list ds) ∧ Dp K H y d ∧ SeqAt.shaped (.list ds) = true ∧ SeqAt.shaped d = true ∧ Q (.int ((ds.countP fun z => PyData.eqv z d : Nat) : Int)) H
end
section
variable {M : Addr → Prop} {Γ : Ct} {Rs : List Res} {X : Cx} {o e : Expr} {apos pos : Pos} {ds : List PyData} {d : PyData}
end
end LhX
/-! x(lambda: body), where x tries what it got and tells of the error. -/
namespace LhX
open PySem L2 PySem.W PyProof.Rows PySem.Calls Lh LamX
open LhL (tabR Made Known made_step lam_new)
open Evl (Ex ex_l ex_t ex_rd fresh_back)
/-- the classes of a program over ValueError, by their names -/
structure Ers (K : Frag) (mg : Str → Option Value) (A : Str → Addr) (names : List Str) (L : Str) : Prop where
  gl : ∀ x ∈ names, mg x = some (.ref (A x))
  glL : mg L = some (.ref (A L))
  exc : ∀ x ∈ names, ExcC K (A x)
  xf : ∀ x ∈ names, XfC K (A x)
  exm : ∀ x ∈ names, exmOne K (.ref (A x)) (.ref (A L)) = some true
  kit : ∀ x ∈ names, ∀ y ∈ names, kitOne K (.ref (A x)) (.ref (A y)) = some (decide (x = y))
  kitV : ∀ x ∈ names, kitOne K (.ref (A x)) (.type "ValueError") = some true
/-- what a def makes of the thunk that it got: good: what it tells of an error (x, its fields); none: what of none -/
def TErr (K : Frag) (A : Str → Addr) (ok : Str → List (Str × V) → Prop) (ans : Str → List (Str × V) → PyData) (back : VK → V → Hp → Prop) : (XK → Hp → VK → Prop) → Hp → VK → Prop := fun tl H Q => ∀ Qb : VK, (∀ v H', back Q v H' → Qb v H') →
  tl (fun cls d H' => ∃ (x : Str) (fs : List (Str × V)) (H0' : Hp), Ex H0' H' ∧ ok x fs ∧ ErrIs (A x) fs cls d H0' ∧ ∀ v G0 G, Lh.Step M0 H0' H' G0 G → (PD K (ans x fs)).p v G0 → Q v G) H Qb
/-- a lambda's frame -/
def IsLam (X : Cx) (scope : Scope) (E : XK) (k : Nat) (Y : Cx) : Prop := ∃ (A : Around) (outer : List Env) (s : Shared) (H : Hp) (f c' : Addr), Y = lamCx X A outer s H E scope f c' ∧ Room k Y.A
/-- the lambda's reading: whatever frame it gets -/
def tLamb (X : Cx) (scope : Scope) (body : Expr) (k : Nat) (E : XK) : TE := fun σ H Q => ∀ Y, IsLam X scope E k Y → wpE Y body σ H Q
section
variable {M : Addr → Prop} {Γ : Ct} {Rs : List Res} {X : Cx} {K : Frag}
end
/-! ### the def that tries -/
section
variable {X : Cx}
end
end LhX
/-! Lambdas that are kept: made, tracked, called later; one parameter with an int as its default may stand in them. -/
namespace LhX
open PySem L2 PySem.W PyProof.Rows PySem.Calls Lh LamX
open LhL (tabR Made Known made_step)
open Evl (Ex ex_l ex_t ex_rd fresh_back)
/-! ### names -/
/-- captured names, globals, and locals that are none of N -/
structure LamD (sc scope : Scope) (N : List Str) : Prop where
  kind : scope.kind = .function
  co : scope.isCoroutine = false
  gen : scope.isGenerator = false
  cel : ∀ y ∈ scope.names, y.2 ≠ .cell
  loc : ∀ y ∈ scope.names, y.2 = .local → y.1 ∉ N
  free : ∀ y ∈ scope.names, y.2 = .free → sc.names.lookup y.1 = some .cell ∨ sc.names.lookup y.1 = some .free
def lamDB (sc scope : Scope) (N : List Str) : Bool :=
  decide (scope.kind = .function) && (!scope.isCoroutine && (!scope.isGenerator && scope.names.all fun y => !decide (y.2 = .cell) && ((!decide (y.2 = .local) || !decide (y.1 ∈ N)) && (!decide (y.2 = .free) || (decide (sc.names.lookup y.1 = some .cell) || decide (sc.names.lookup y.1 = some .free))))))
/-! ### the object -/
def Dfl (H : Hp) (dV : Value) : Option Int → Prop
  | none => dV = .none
  | some i => ∃ t, dV = .ref t ∧ H t = some (.tup [.int i])
/-- the object at f is this lambda -/
def LmO (f : Addr) (ob : Obj) : HO := .ext fun h => h.get? f = some ob
/-- a lambda, its closure taken from these cells -/
def PLm (cells : List (Str × Addr)) (q : Str) (params : Arguments) (body : Expr) (scope : Scope) (o : Option Int) : Pd where
  p := fun v H => ∃ (f c' : Addr) (dV doc pm ctv : Value), v = .ref f ∧ H f = some (LmO f (kdv_obj "<lambda>" q params (.expr body) scope (cloFrom cells scope.names []) dV doc pm c' ctv)) ∧ H c' = some (CodeO c' q) ∧ Dfl H dV o
  m := fun e ⟨f, c', dV, doc, pm, ctv, h1, h2, h3, h4⟩ => ⟨f, c', dV, doc, pm, ctv, h1, e _ _ h2, e _ _ h3, h4.ex e⟩
/-- what its parameters ask of a call without arguments -/
def LmB (params : Arguments) (body : Expr) (scope : Scope) : Option Int → Prop
  | none => ∀ (q : Str) (cl : List (Str × Addr)) (doc pm cdv ctv : Value), bindArgs (kdv_fn "<lambda>" q params (.expr body) scope cl .none doc pm cdv ctv) ⟨[], []⟩ = pure []
  | some _ => ∃ p : Str, scope.names.lookup p = some .local ∧ ∀ (q : Str) (cl : List (Str × Addr)) (dV doc pm cdv ctv : Value), ∃ k : Option (Array Value) → Sem (List (Str × Value)), bindArgs (kdv_fn "<lambda>" q params (.expr body) scope cl dV doc pm cdv ctv) ⟨[], []⟩ = seqItems? dV >>= k ∧ ∀ v, k (some #[v]) = pure [(p, v)]
section
variable {M : Addr → Prop} {Γ : Ct} {Rs : List Res} {X : Cx}
end
end LhX
/-! A kept lambda is called. -/
namespace LhX
open PySem L2 PySem.W PyProof.Rows PySem.Calls Lh LamX
open LhL (tabR Made Known made_step)
open Evl (Ex ex_l ex_t ex_rd fresh_back)
section
variable {X : Cx} {pins : List (Addr × Obj)} {σ : L2.St} {H HZ : Hp} {z z1 : Shared}
/-- the def that calls what it got: what must be known of it is Kn -/
def GivesK (X : Cx) (Ng : List Str) (x : Str) (sg : Scope) (g : Addr) (cdg : Value) (bg : List Stmt) (a : Str) (TT : (XK → Hp → VK → Prop) → Hp → VK → Prop) : Prop :=
  ∀ (f : Addr) (Kn : Pd) (s : Shared) (H : Hp) (Q : VK) (tl : XK → Hp → VK → Prop),
    (∀ (W : WX) (pn : List (Addr × Obj)) (xe : Value → Shared → Prop) (E : XK) (p1 p2 : Pos), Takes ((cxOf C8.CX0 X.prog X.w X.K X.mg X.base Ng x sg g cdg X.A X.stack s H C8.E0).tr pn xe) W → (∀ cls d σ' H', E cls d H' → W cls d σ' H') →
      PE ((cxOf C8.CX0 X.prog X.w X.K X.mg X.base Ng x sg g cdg X.A X.stack s H C8.E0).tr pn xe) (.Call (.Name a p1) [] [] p2) (fun σZ HZ Q => σZ[0]? = some (some (.ref f)) ∧ Kn.p (.ref f) HZ ∧ tl E HZ Q)) →
    Kn.p (.ref f) H → TT tl H Q →
    ∃ t, PSs (cxOf C8.CX0 X.prog X.w X.K X.mg X.base Ng x sg g cdg X.A X.stack s H C8.E0).nox bg t ∧ t { nx := fun _ H' => Q .non H', rt := Q } (L2.start Ng [.ref f]) H
end
end LhX
/-! The def that tries: return a(), or what it tells of the error. -/
namespace LhX
open PySem L2 PySem.W PyProof.Rows PySem.Calls Lh LamX
open LhL (tabR Made Known made_step)
open Evl (Ex ex_l ex_t ex_rd fresh_back)
section
variable {X : Cx}
end
/-! ### over a list of them -/
/-- an element's reading in the comprehension's block, the maker's own state at hand -/
def wpEbW (X : Cx) (scope : Scope) (vs : List Nat) (e : Expr) : TE := fun σ H Q => ∀ (s0 : Shared) (H0 : Hp) (C : Addr) (cl : List (Str × Addr)) (fp : List Addr) (pins0 : List (Addr × Obj)) (σ0 : L2.St), Inv X pins0 σ0 H0 s0 → (∀ b ∈ fp, FpOk X pins0 H0 b) → L2.wipe σ vs = L2.wipe σ0 vs →
  wpE (X.blk s0 H0 scope (compEnvC scope cl C X.env) fp) e σ H Q
section
variable {X : Cx}
end
end LhX
/-! [x(y) for y in lambdas], where x tries what it gets. -/
namespace LhX
open PySem L2 PySem.W PyProof.Rows PySem.Calls Lh LamX
open LhL (tabR Made Known made_step)
open Evl (Ex ex_l ex_t ex_rd fresh_back)
section
variable {M : Addr → Prop} {Γ : Ct} {Rs : List Res} {X : Cx}
/-- what the lambda's body is to give, to a def of the reading TT -/
def GivesD (M : Addr → Prop) (Γ : Ct) (Rs : List Res) (X : Cx) (scope : Scope) (body : Expr) (k : Nat) (TT : (XK → Hp → VK → Prop) → Hp → VK → Prop) (T : Pd) : Prop :=
  ∀ (σ : L2.St) (H0 H : Hp), Sl Γ σ H0 → Ex H0 H → Rok Rs H0 H → ∀ Q : VK, (∀ v H0' H', Lh.Step M H0 H H0' H' → Rok Rs H0' H' → T.p v H0' → Q v H') → TT (fun E H' Q' => tLamb X scope body k E σ H' Q') H Q
/-- one of the list -/
structure FailOne (M : Addr → Prop) (Γ : Ct) (Rs : List Res) (X : Cx) (q0 : Str) (k : Nat) (TT : (XK → Hp → VK → Prop) → Hp → VK → Prop) (Q : Pd) (d : PyData) : Prop where
  ex : ∃ (params : Arguments) (body : Expr) (scope : Scope) (o : Option Int), Q = PLm X.env.cells q0 params body scope o ∧ LamD X.env.scope scope X.N ∧ LmB params body scope o ∧ GivesD M Γ Rs X scope body k TT (PD X.K d)
end
end LhX
/-! l.extend(..), l a list at hand. -/
namespace Lh
open PySem L2
open Evl (Ex ex_l ex_t ex_rd fresh_back)
section
variable {M : Addr → Prop} {Γ Γ' : Ct} {Rs : List Res} {X : Cx} {Z0 Z Hl : Hp} {D : Ends} {K : PySem.W.Frag} {rest : List Stmt} {a b c e : Expr} {es : List Expr} {pos p : Pos}
end
end Lh
/-! x, y = [..], [] (both change further on); x, l[k] = e. -/
namespace Lh
open PySem L2
open Evl (Ex ex_l ex_t ex_rd fresh_back)
theorem DAll.set {Ps : List Pd} {xs : List V} {H : Hp} (h : DAll Ps xs H) (k : Nat) {P : Pd} {v : V} (hv : P.p v H) : DAll (Ps.set k P) (xs.set k v) H := by
  refine ⟨by rw [List.length_set, List.length_set]; exact h.1, fun i Q q => ?_⟩
  by_cases hk : k = i
  · subst hk
    have hl : k < Ps.length := by
      have := (List.getElem?_eq_some_iff.mp q).1
      rwa [List.length_set] at this
    rw [List.getElem?_set_self hl] at q
    obtain rfl := Option.some.inj q
    exact ⟨v, List.getElem?_set_self (by rw [h.1]; exact hl), hv⟩
  · rw [List.getElem?_set_ne hk] at q
    obtain ⟨u, h1, h2⟩ := h.2 i Q q
    exact ⟨u, by rw [List.getElem?_set_ne hk]; exact h1, h2⟩
section
variable {M : Addr → Prop} {Γ Γ' : Ct} {Rs : List Res} {X : Cx} {Z0 Z Hl : Hp} {D : Ends} {K : PySem.W.Frag} {rest : List Stmt} {a b c e o : Expr} {es : List Expr} {pos p : Pos}
end
end Lh
/-! Lists of things: walked; a + b; x = a + b, to be changed. -/
namespace Lh
open PySem L2
open Evl (Ex ex_l ex_t ex_rd fresh_back)
section
variable {M : Addr → Prop} {Γ Γ' : Ct} {Rs : List Res} {X : Cx} {Z0 Z Hl : Hp} {D : Ends} {K : PySem.W.Frag} {rest : List Stmt} {a b c e o : Expr} {es : List Expr} {pos p : Pos}
end
end Lh
/-! The head of a law with a lambda: what is held behind the top, without the empty tables; properties and their getters. -/
namespace LhH
open PySem PySem.Spec PyProof.Rows L2 He
/-- a property of a class, its getter -/
structure GetD where
  cls : Str
  nm : Str
  qual : Str
  params : Arguments
  body : List Stmt
  scope : Scope
def pAd (K : PySem.W.Frag) (d : GetD) : Addr := ma K (ga K d.cls) d.nm
def gAd (K : PySem.W.Frag) (d : GetD) : Addr := match PySem.W.recIn K (pAd K d) "property" with
  | some (.ref f :: _) => f
  | _ => 0
def isProp (K : PySem.W.Frag) (d : GetD) : Bool := match PySem.W.recIn K (pAd K d) "property" with
  | some (.ref _ :: _) => true
  | _ => false
def gW (K : PySem.W.Frag) (d : GetD) : FnW := match K.lookup (gAd K d) with
  | some ⟨_, _, .func k, _⟩ =>
    some (k.name, k.qualname, k.params,
      k.body, k.scope, k.globals, k.closure, k.builtins)
  | _ => none
def GetD.val (d : GetD) : FnW := some (d.nm, d.qual, d.params, .stmts d.body, d.scope, mainGlobals, [], builtinsNs)
def codeB (K : PySem.W.Frag) (d : GetD) : Bool := match K.lookup (gAd K d) with
  | some ⟨_, _, .func fd, _⟩ => PySem.W.codeIn K fd.code d.qual && (dflB K fd.defaults [] && kwdB K fd.kwdefaults [])
  | _ => false
def GetD.ok (K : PySem.W.Frag) (d : GetD) : Bool := eqO (PySem.W.findIn K (.ref (ga K d.cls)) d.nm) (some (some (.ref (pAd K d)))) && (eqO (PySem.W.specialIn K (.ref (pAd K d)) "__get__") (some (some (.builtin "property.__get__"))) && (decide (PySem.W.takesIn K (.ref (pAd K d)) = some true) && (isProp K d && (PySem.W.keepIn K (.ref (gAd K d)) && codeB K d))))
theorem GetD.prop {K : PySem.W.Frag} {d : GetD} (c : d.ok K = true) : PropOf K (ga K d.cls) d.nm (pAd K d) (gAd K d) := by
  obtain ⟨c1, c2⟩ := ba c
  obtain ⟨c3, c4⟩ := ba c2
  obtain ⟨c5, c6⟩ := ba c4
  obtain ⟨c7, _⟩ := ba c6
  refine ⟨eqO_ok c1, eqO_ok c3, of_decide_eq_true c5, ?_⟩
  unfold isProp at c7
  unfold gAd
  split at c7
  · rename_i f r e
    rw [e]
    exact ⟨r, rfl⟩
  · cases c7
theorem GetD.funD {K : PySem.W.Frag} {d : GetD} (e : gW K d = d.val) (c : d.ok K = true) : ∃ fd, FunD K d.nm d.qual d.params d.body d.scope [] [] (gAd K d) fd := by
  obtain ⟨_, c2⟩ := ba c
  obtain ⟨_, c4⟩ := ba c2
  obtain ⟨_, c6⟩ := ba c4
  obtain ⟨_, c8⟩ := ba c6
  obtain ⟨kp, c9⟩ := ba c8
  unfold gW at e
  unfold codeB at c9
  cases q : K.lookup (gAd K d) with
  | none =>
    rw [q] at c9
    cases c9
  | some o =>
    obtain ⟨oc, od, dt, osl⟩ := o
    rw [q] at c9 e
    cases dt with
    | func fd =>
      obtain ⟨w1, w2, w3, w4, w5, w6, w7, w8, w9, w10, w11, w12, w13, w14, w15⟩ := fd
      have e2 : (some (w1, w2, w3, w4, w5, w6, w7, w15) : FnW) = some (d.nm, d.qual, d.params, .stmts d.body, d.scope, mainGlobals, [], builtinsNs) := e
      simp only [Prod.mk.injEq, Option.some.injEq] at e2
      obtain ⟨u1, u2, u3, u4, u5, u6, u7, u8⟩ := e2
      subst u1 u2 u3 u4 u5 u6 u7 u8
      have c3 : (PySem.W.codeIn K w13 d.qual && (dflB K w8 [] && kwdB K w9 [])) = true := c9
      obtain ⟨k1, k2⟩ := ba c3
      obtain ⟨k3, k4⟩ := ba k2
      exact ⟨_, ⟨oc, od, w8, w9, w10, w11, w12, w13, w14, osl, rfl, q, k1, dflB_ok k3, kwdB_ok k4⟩, kp⟩
    | _ => cases c9
theorem fun_of {K : PySem.W.Frag} {x qual : Str} {st : Stmt} {f : Addr} {fd : FuncData} (F : FunD K x qual (defArgs st) (defBody st) (defScope st) [] [] f fd) : Fun K x qual st f fd := by
  obtain ⟨⟨oc, od, dV, kV, doc, pm, an, cdv, ct, osl, e, lk, c, hD, _⟩, kp⟩ := F
  rcases hD with ⟨_, e2⟩ | ⟨e2, _⟩
  · subst e2
    exact ⟨⟨oc, od, kV, doc, pm, an, cdv, ct, osl, e, lk, c⟩, kp⟩
  · exact absurd rfl e2
theorem code_of {K : PySem.W.Frag} {x qual : Str} {st : Stmt} {p : Defn} {fd : FuncData} (F : FunD K x qual (defArgs st) (defBody st) (defScope st) [] [] (fAd K p) fd) : LhL.CodeAt K x qual st (fAd K p) fd (cT K p).1 := by
  obtain ⟨⟨oc, od, dV, kV, doc, pm, an, cdv, ct, osl, e, lk, c, hD, _⟩, kp⟩ := F
  obtain ⟨u, rfl⟩ := codeIn_ref c
  rcases hD with ⟨_, e2⟩ | ⟨e2, _⟩
  · subst e2
    have e3 : (cT K p).1 = u := codeOf_eq lk (by rw [e])
    rw [e3]
    exact ⟨oc, od, kV, doc, pm, an, ct, osl, e, lk, c⟩
  · exact absurd rfl e2
/-! ### a part without its empty tables -/
def bare (K0 : PySem.W.Frag) : PySem.W.Frag := K0.filter fun q => !emptyTab q.2
def ndB : List Addr → Bool
  | [] => true
  | a :: r => r.all (fun b => !Nat.beq a b) && ndB r
/-- what is asked of a part: facts, defs, getters, one def's table -/
def asked (fa : List Fa) (fn : List DefD) (gs : List GetD) (p : Defn) (ex : PySem.W.Frag → Bool) (K0 : PySem.W.Frag) : AlD × List FnW × Bool :=
  (obsD fa fn (bare K0), gs.map (gW (bare K0)), ex (bare K0) && (gs.all (GetD.ok (bare K0)) && (PySem.W.codeHdIn (bare K0) (cT (bare K0) p).1 (cT (bare K0) p).2 && (match K0.lookup (cT (bare K0) p).2 with
    | some o => emptyTab o
    | none => false))))
structure Told (fa : List Fa) (fn : List DefD) (gs : List GetD) (p : Defn) (ex : PySem.W.Frag → Bool) (h : Heap) (K : PySem.W.Frag) : Prop where
  in_ : K.In h
  d : SaysD fa fn K
  gw : gs.map (gW K) = gs.map GetD.val
  gok : ∀ d ∈ gs, d.ok K = true
  more : ex K = true
  hd : PySem.W.codeHdIn K (cT K p).1 (cT K p).2 = true
  out : K.lookup (cT K p).2 = none
  empty : h.get? (cT K p).2 = some { cls := .none, data := .fields #[] }
/-- .. of a part that holds no table, the tables' places told beside it -/
def askedM (fa : List Fa) (fn : List DefD) (gs : List GetD) (p : Defn) (ex : PySem.W.Frag → Bool) (ts : List Addr) (K : PySem.W.Frag) : AlD × List FnW × Bool :=
  (obsD fa fn K, gs.map (gW K), ex K && (gs.all (GetD.ok K) && (PySem.W.codeHdIn K (cT K p).1 (cT K p).2 && ((K.lookup (cT K p).2).isNone && ts.contains (cT K p).2))))
theorem toldM {fa : List Fa} {fn : List DefD} {gs : List GetD} {p : Defn} {ex : PySem.W.Frag → Bool} {ts : List Addr} {K : PySem.W.Frag} {h : Heap} (X : K.In h) (hT : ∀ P ∈ ts, h.get? P = some { cls := .none, data := .fields #[] }) (e : askedM fa fn gs p ex ts K = (valD fn, gs.map GetD.val, true)) : Told fa fn gs p ex h K := by
  have e1 : obsD fa fn K = valD fn := congrArg (fun z : AlD × List FnW × Bool => z.1) e
  have e2 : gs.map (gW K) = gs.map GetD.val := congrArg (fun z : AlD × List FnW × Bool => z.2.1) e
  have e3 := congrArg (fun z : AlD × List FnW × Bool => z.2.2) e
  obtain ⟨h1, h2⟩ := ba e3
  obtain ⟨h3, h4⟩ := ba h2
  obtain ⟨h5, h6⟩ := ba h4
  obtain ⟨h7, h8⟩ := ba h6
  exact ⟨X, e1, e2, fun d hd => List.all_eq_true.mp h3 d hd, h1, h5, Option.isNone_iff_eq_none.mp h7, hT _ (List.contains_iff_mem.mp h8)⟩
theorem Told.get {fa : List Fa} {fn : List DefD} {gs : List GetD} {p : Defn} {ex : PySem.W.Frag → Bool} {h : Heap} {K : PySem.W.Frag} (c : Told fa fn gs p ex h K) (i : Nat) {d : GetD} (hi : gs[i]? = some d := by rfl) : PropOf K (ga K d.cls) d.nm (pAd K d) (gAd K d) ∧ ∃ fd, FunD K d.nm d.qual d.params d.body d.scope [] [] (gAd K d) fd := by
  have inG := List.mem_of_getElem? hi
  have e := congrArg (fun l : List FnW => l[i]?) c.gw
  have e' : (gs.map (gW K))[i]? = (gs.map GetD.val)[i]? := e
  rw [List.getElem?_map, List.getElem?_map, hi] at e'
  exact ⟨GetD.prop (c.gok d inG), GetD.funD (Option.some.inj e') (c.gok d inG)⟩
end LhH
/-! A law with tables of several defs, and errors: its def, its head. -/
namespace LhX
open PySem L2 PySem.W PyProof.Rows PySem.Calls Lh
open He (ga ma fAd cT dflB dflB_ok SaysD obsD valD AlD DefD Defn FnW ba eqO eqO_ok codeIn_ref codeOf_eq)
open Evl (Ex ex_l ex_t ex_rd fresh_back)
section
variable {K : Frag} {mg : Str → Option Value} {base : Heap} {P : Program} {w : World}
/-- the law's promise; tables stand at Ps -/
abbrev spLawN (K : Frag) (Ps : List Addr) : Sp := fun vs H Q _ => ∃ (a : Addr) (ns : List Int), vs = [.ref a] ∧ SqL K H a (ns.map V.int) ∧ (∀ P ∈ Ps, H P = some (.tbl #[])) ∧ ns.length ≤ 63 ∧ (∀ z ∈ ns, Builtin.Int.intBits z ≤ 1048576) ∧ ∀ H', Q (.bl true) H'
end
/-! ### errors' __init__s, told by the head -/
structure SupQ where
  cls : Str
  qual : Str
  params : Arguments
  body : List Stmt
  scope : Scope
def sAd (K : Frag) (d : SupQ) : Addr := ma K (ga K d.cls) "__init__"
abbrev SupW := Option (Str × Str × Arguments × FuncBody × Scope × Addr × List Str × Addr)
def sW (K : Frag) (d : SupQ) : SupW := match K.lookup (sAd K d) with
  | some ⟨_, _, .func k, _⟩ => some (k.name, k.qualname, k.params, k.body, k.scope, k.globals, k.closure.map (·.1), k.builtins)
  | _ => none
def SupQ.val (d : SupQ) : SupW := some ("__init__", d.qual, d.params, .stmts d.body, d.scope, mainGlobals, [("__class__" : Str)], builtinsNs)
/-- the class object -/
def oexB (K : Frag) (C : Addr) : Bool := match K.lookup C with
  | some ⟨.type "type", _, .cls cd, sl⟩ => (match cd.mro, sl.toList with
    | .ref C' :: bm, [_, _, _, _, some (.builtin n), _] => C' == C && (n == "ValueError.__new__" && (!cd.hasDel && (cd.hasDict && PySem.HandSPX.refsVE bm)))
    | _, _ => false)
  | _ => false
def oexM (K : Frag) (C : Addr) : Bool := oexB K C && (eqO (findIn K (.ref C) "__setattr__") (some (some (.builtin "object.__setattr__"))) && (decide (subIn K (.ref C) (.type "BaseException") = some true) && (decide (typeIn K (.ref C) = some (.type "type")) && keepIn K (.ref C))))
def fileB (K : Frag) (pf : Str) (cd : Value) : Bool := match cd with
  | .ref a => (match K.lookup a with
    | some ⟨_, _, .fields vs, _⟩ => (match (vs[2]? : Option Value) with
      | some (.str f _) => pf == f
      | _ => false)
    | _ => false)
  | _ => false
def cellB (K : Frag) (C : Addr) (cl : List (Str × Addr)) : Bool := match cl with
  | [(_, cc)] => (match K.lookup cc with
    | some ⟨_, _, .cell (some (.ref D)), _⟩ => Nat.beq D C
    | _ => false)
  | _ => false
def supB (K : Frag) (pf : Str) (d : SupQ) : Bool := match K.lookup (sAd K d) with
  | some ⟨_, _, .func fd, _⟩ => codeIn K fd.code d.qual && (dflB K fd.defaults [] && (fileB K pf fd.code && cellB K (ga K d.cls) fd.closure))
  | _ => false
def SupQ.ok (K : Frag) (pf : Str) (d : SupQ) : Bool :=
  supB K pf d && (eqO (nsIn K mainGlobals d.cls) (some (some (.ref (ga K d.cls)))) && (eqO (nsIn K mainGlobals "super") (some none) && (eqO (nsIn K cStatics "thirdparty.any") (some none) && (eqO (ks_superIn K (ga K d.cls) (ga K d.cls) "__init__") (some (some (.builtin "ValueError.__init__"))) &&
    (decide (subIn K (.ref (ga K d.cls)) (.type "ValueError") = some true) && (decide (mroIn K (ga K d.cls) (.ref (ga K d.cls)) = some true) && (oexM K (ga K d.cls) && (eqO (findIn K (.ref (ga K d.cls)) "__init__") (some (some (.ref (sAd K d)))) && decide (typeIn K (.ref (sAd K d)) = some (.type "function"))))))))))
end LhX
/-! The head of a law with errors and tables of several defs. -/
namespace LhX
open PySem L2 PySem.W PyProof.Rows PySem.Calls Lh
open He (ga ma fAd cT SaysD obsD valD AlD DefD Defn FnW Fa ba eqO eqO_ok)
open LhH (GetD gW ndB nd_of)
def excB (K : Frag) (C : Addr) : Bool := eqO (findIn K (.ref C) "__getattribute__") (some (some (.builtin "BaseException.__getattribute__"))) && (eqO (findIn K (.ref C) "__getattr__") (some none) && (decide (subIn K (.ref C) (.type "BaseException") = some true) && (hasDictIn K C && (eqO (findIn K (.ref C) "__class__") (some (some (.builtin "object.__class__"))) &&
  (eqO (specialIn K (.builtin "object.__class__") "__get__") (some (some (.builtin "getset_descriptor.__get__"))) && (decide (takesIn K (.builtin "object.__class__") = some true) && decide (mroIn K C (.type "object") = some true)))))))
def ersB (K : Frag) (names : List Str) (L : Str) : Bool := eqO (nsIn K mainGlobals L) (some (some (.ref (ga K L)))) && names.all fun x => eqO (nsIn K mainGlobals x) (some (some (.ref (ga K x)))) && (excB K (ga K x) && (decide (exmOne K (.ref (ga K x)) (.ref (ga K L)) = some true) && (decide (kitOne K (.ref (ga K x)) (.type "ValueError") = some true) &&
  names.all fun y => decide (kitOne K (.ref (ga K x)) (.ref (ga K y)) = some (decide (x = y))))))
def err0B (K : Frag) (x : Str) : Bool := eqO (nsIn K mainGlobals x) (some (some (.ref (ga K x)))) && (keepIn K (.ref (ga K x)) && (decide (subIn K (.ref (ga K x)) (.type "BaseException") = some true) && (decide (typeIn K (.ref (ga K x)) = some (.type "type")) && excIn K (ga K x) PySem.HandSPX.veTail "ValueError.__new__")))
def noB (K : Frag) (x f : Str) : Bool := eqO (findIn K (.ref (ga K x)) f) (some none)
/-- what is asked: facts, defs, getters, errors' __init__s, tables -/
def askedX (fa : List Fa) (fn : List DefD) (gs : List GetD) (ps : List Defn) (ss : List SupQ) (pf : Str) (ex : Frag → Bool) (ts : List Addr) (K : Frag) : AlD × List FnW × List SupW × Bool :=
  (obsD fa fn K, gs.map (gW K), ss.map (sW K), ex K && (gs.all (GetD.ok K) && (ss.all (SupQ.ok K pf) && (ndB (ps.map fun p => (cT K p).2) && ps.all fun p => codeHdIn K (cT K p).1 (cT K p).2 && ((K.lookup (cT K p).2).isNone && ts.contains (cT K p).2)))))
structure ToldX (fa : List Fa) (fn : List DefD) (gs : List GetD) (ps : List Defn) (ss : List SupQ) (pf : Str) (ex : Frag → Bool) (h : Heap) (K : Frag) : Prop where
  in_ : K.In h
  d : SaysD fa fn K
  gw : gs.map (gW K) = gs.map GetD.val
  gok : ∀ d ∈ gs, d.ok K = true
  sw : ss.map (sW K) = ss.map SupQ.val
  sok : ∀ d ∈ ss, d.ok K pf = true
  more : ex K = true
  nd : (ps.map fun p => (cT K p).2).Nodup
  hd : ∀ p ∈ ps, codeHdIn K (cT K p).1 (cT K p).2 = true
  out : ∀ p ∈ ps, K.lookup (cT K p).2 = none
  empty : ∀ p ∈ ps, h.get? (cT K p).2 = some { cls := .none, data := .fields #[] }
section
variable {fa : List Fa} {fn : List DefD} {gs : List GetD} {ps : List Defn} {ss : List SupQ} {pf : Str} {ex : Frag → Bool} {h : Heap} {K : Frag}
end
end LhX
/-! enumerate(t, k); texts: put together, joined, many times; try .. except X. -/
namespace LhS
open L2 PyProof.Rows PySem PySem.Spec
section
variable {s : Shared} {E : Value → Shared → Prop} {A : Around} {w : World} {prog : Program}
/-- the tuple at a as it stands, each item in a new pair -/
def IteK (K : PySem.W.Frag) (c : Int) (a : Addr) : It :=
  ⟨fun i H => ∃ (xs : List V) (x : V), SqT K H a xs ∧ xs[i]? = some x, fun i H v H' => ∃ T x, v = .ref T ∧ H T = none ∧ H' = upd H T (.tup [.int (c + (i : Nat)), x]) ∧ ∀ xs, SqT K H a xs → xs[i]? = some x, fun i H => ∃ xs : List V, SqT K H a xs ∧ xs.length = i⟩
def iEnumK (K : PySem.W.Frag) (c : Int) (ta : TA) : TI := fun σ H R => ta σ H fun argv H1 => ∃ a xs, argv = [.ref a, .int c] ∧ SqT K H1 a xs ∧ R (IteK K c a) H1
end
end LhS
namespace Lh
open PySem L2
open Evl (Ex ex_l ex_t ex_rd fresh_back)
section
variable {M : Addr → Prop} {Γ Γ' : Ct} {Rs : List Res} {X : Cx} {Z0 Z Hl : Hp} {D : Ends} {K : PySem.W.Frag} {rest : List Stmt} {a b : Expr} {pos : Pos}
/-! ### texts -/
end
section
open LhX
variable {M : Addr → Prop} {Γ : Ct} {Rs : List Res} {X : Cx} {K : PySem.W.Frag} {pos : Pos}
end
section
variable {M : Addr → Prop} {Γ Γ' : Ct} {Rs : List Res} {X : Cx} {Z0 Z Hl : Hp} {D : Ends} {K : PySem.W.Frag} {rest : List Stmt} {a b c e : Expr} {es : List Expr} {pos p : Pos}
end
end Lh
namespace LhX
open PySem L2 PySem.W PyProof.Rows PySem.Calls Lh
open Evl (Ex ex_l ex_t ex_rd fresh_back)
section
variable {M : Addr → Prop} {Γ : Ct} {Rs : List Res} {X : Cx} {K : Frag} {Z0 Z Hl : Hp} {D : Ends} {rest : List Stmt}
end
end LhX
/-! The source of draws beside a table. -/
namespace Lh
open PySem L2
open LhL (tabR)
open Evl (Ex ex_l ex_t ex_rd fresh_back)
def MLx (b l P : Addr) : Addr → Prop := fun a => MB b l a ∨ a = P
section
variable {M : Addr → Prop} {Γ Γ' : Ct} {Rs : List Res} {X : Cx} {Z0 Z Hl : Hp} {D : Ends} {K : PySem.W.Frag} {rest : List Stmt} {a f : Expr} {pos : Pos} {ns : List Int} {n : Int}
end
end Lh
/-! A call that raises, what it is given being one of many. -/
namespace LhX
open PySem L2 PySem.W PyProof.Rows PySem.Calls Lh
section
variable {M : Addr → Prop} {Γ : Ct} {Rs : List Res} {X : Cx} {Z0 Z : Hp} {K : Frag} {mg : Str → Option Value} {w' : World} {e : Expr} {es : List Expr} {p pos : Pos} {x : Str} {W : WX}
end
end LhX
/-! Defs that raise behind calls for which something stands at hand (a table of lambdas, a box). -/
namespace LhX
open PySem L2 PySem.W PyProof.Rows PySem.Calls Lh
open Evl (Ex ex_l ex_t ex_rd fresh_back)
/-- from things as pre tells, R at hand: the error as exc tells -/
def SpXF {α : Type} (M : α → Addr → Prop) (R : α → List Res) (pre : α → List Pd) (exc : α → XK) : Sp := fun vs H _ E => ∃ (y : α) (H0 : Hp), Ex H0 H ∧ Rok (R y) H0 H ∧ DAll (pre y) vs H0 ∧ ∀ cls d H0' H', Lh.Step (M y) H0 H H0' H' → Rok (R y) H0' H' → exc y cls d H0' → E cls d H'
section
variable {K : Frag} {mg : Str → Option Value} {base : Heap} {P : Program} {w : World}
end
section
variable {M : Addr → Prop} {Γ : Ct} {r1 : Res} {Rs2 : List Res} {X : Cx} {Z0 Z : Hp} {K : Frag} {mg : Str → Option Value} {w' : World} {e : Expr} {es : List Expr} {p pos : Pos} {x : Str} {W : WX}
end
end LhX
/-! Dicts at hand whose keys are ints, their values plain. -/
namespace Lh
open PySem L2
open Evl (Ex ex_l ex_t ex_rd fresh_back)
/-- plain data as values -/
def flatD : PyData → Bool
  | .int _ => true
  | .bool _ => true
  | .none => true
  | _ => false
def dV : PyData → V
  | .int i => .int i
  | .bool b => .bl b
  | _ => .non
abbrev kvD (kvs : List (Int × PyData)) : List (Key × V) := kvs.map fun kv => (Sum.inl kv.1, dV kv.2)
def Res.dI (Z : Hp) (p : Addr) (kvs : List (Int × PyData)) : Res where
  ad := [p]
  p := fun H0 H => Z p = none ∧ H0 p = none ∧ H p = some (.dK (kvD kvs))
  st := fun {H0 H H0' H'} e n q ⟨h0, h1, h2⟩ => ⟨h0, n p (by simp), by rw [q p (by simp)]; exact h2⟩
  tr := fun {H0 H} ⟨h0, h1, h2⟩ a ha => by
    have e : a = p := by simpa using ha
    subst e
    exact ⟨⟨_, h2⟩, h1⟩
/-! ### what is in it -/
def putI (kvs : List (Int × PyData)) (k : Int) (d : PyData) : List (Int × PyData) := if kvs.any (fun kv => decide (kv.1 = k)) = true then kvs.map fun kv => if kv.1 = k then (kv.1, d) else kv else kvs ++ [(k, d)]
def valI (kvs : List (Int × PyData)) (k : Int) : Option PyData := (kvs.find? fun kv => decide (kv.1 = k)).map (·.2)
def mergeI (kvs more : List (Int × PyData)) : List (Int × PyData) := more.foldl (fun acc kv => putI acc kv.1 kv.2) kvs
/-! ### heaps -/
section
variable {M : Addr → Prop} {Rs : List Res} {Z0 Z H1 G1 : Hp} {q : Addr} {r r' : Res} {o : HO}
end
section
variable {X : Cx}
/-- d.update(e), two dicts -/
def rUpd : V → List V → Hp → VK → Prop := fun x vs H Q => ∃ a b kvs more, x = .ref a ∧ vs = [.ref b] ∧ a ≠ b ∧ H a = some (.dK kvs) ∧ H b = some (.dK more) ∧ kvs.length + more.length ≤ sizeLine ∧ Q .non (upd H a (.dK (mergeK kvs more)))
end
section
variable {M : Addr → Prop} {Γ Γ' : Ct} {Rs : List Res} {X : Cx} {Z0 Z Hl : Hp} {D : Ends} {K : PySem.W.Frag} {rest : List Stmt} {a b c o e : Expr} {pos p : Pos} {q : Addr} {kvs more : List (Int × PyData)}
/-- t makes a new dict of these -/
def DE (M : Addr → Prop) (Γ : Ct) (Rs : List Res) (t : TE) (kvs : List (Int × PyData)) : Prop := ∀ (σ : L2.St) (H0 H : Hp), Sl Γ σ H0 → Ex H0 H → Rok Rs H0 H → ∀ Q : VK,
  (∀ (p : Addr) (H1 G1 : Hp), Step M H0 H H1 G1 → Rok Rs H1 G1 → G1 p = none → Q (.ref p) (upd G1 p (.dK (kvD kvs)))) → t σ H Q
abbrev prKD (kv : Int × PyData) : PyData := .tuple [.int kv.1, kv.2]
end
end Lh
/-! d.get(k, x), d[k], d[k] = x of a dict at hand with int keys and plain values. -/
namespace Lh
open PySem L2
open Evl (Ex ex_l ex_t ex_rd fresh_back)
section
variable {M : Addr → Prop} {Γ : Ct} {Rs : List Res} {X : Cx} {Z0 Z Hl : Hp} {D : Ends} {rest : List Stmt} {o e f : Expr} {q : Addr} {kvs : List (Int × PyData)} {apos cpos pos pos' : Pos}
abbrev FlatI (kvs : List (Int × PyData)) : Prop := ∀ kv ∈ kvs, flatD kv.2 = true
end
end Lh
/-! for k in d, d a dict at hand that stays as it is meanwhile. -/
namespace Lh
open PySem L2
open Evl (Ex ex_l ex_t ex_rd fresh_back)
/-- a dict at hand while it is walked -/
def Res.dL (Z : Hp) (p : Addr) (od : Obj) (kvs : List (Int × PyData)) : Res where
  ad := [p]
  p := fun H0 H => Z p = none ∧ H0 p = none ∧ H p = some (.frz od (.dK (kvD kvs)))
  st := fun {H0 H H0' H'} e n q ⟨h0, h1, h2⟩ => ⟨h0, n p (by simp), by rw [q p (by simp)]; exact h2⟩
  tr := fun {H0 H} ⟨h0, h1, h2⟩ a ha => by
    have e : a = p := by simpa using ha
    subst e
    exact ⟨⟨_, h2⟩, h1⟩
section
variable {M : Addr → Prop} {Γ : Ct} {Rs : List Res} {X : Cx} {Z0 Z Hl : Hp} {D : Ends} {rest : List Stmt} {o e : Expr} {q : Addr} {kvs : List (Int × PyData)} {pos : Pos} {od : Obj}
end
end Lh
namespace Lh
open PySem L2
open Evl (Ex ex_l ex_t ex_rd fresh_back)
/-! ### comprehensions over one of many lists -/
section
variable {M : Addr → Prop} {Γ Γ' : Ct} {Rs : List Res} {X : Cx} {Z0 Z Hl : Hp} {D : Ends} {K : PySem.W.Frag} {rest : List Stmt}
end
end Lh
/-! Comprehensions over a dict at hand; x = dict(..). -/
namespace Lh
open PySem L2
open Evl (Ex ex_l ex_t ex_rd fresh_back)
/-- an iterator that reads what is at hand -/
def WkR (J : It) (Qs : List Pd) (Rs : List Res) (H0 : Hp) : Prop := ∀ H0' H, Ex H0 H0' → Ex H0' H → Rok Rs H0' H → ∀ i,
  (∀ Q, Qs[i]? = some Q → J.go i H ∧ ∀ x H', J.yld i H x H' → ∃ H0'', Step M0 H0' H H0'' H' ∧ Q.p x H0'') ∧ (Qs.length = i → J.stop i H)
def XIR (M : Addr → Prop) (Γ : Ct) (Rs : List Res) (X : Cx) (tg iter : Expr) (Qs : List Pd) : Prop :=
  ∀ (σ : L2.St) (H0 H : Hp), Sl Γ σ H0 → Ex H0 H → Rok Rs H0 H → ∀ R : It → Hp → Prop, (∀ J H0' H', Step M H0 H H0' H' → Rok Rs H0' H' → WkR J Qs Rs H0' → R J H') → wpI X tg iter σ H R
section
variable {M : Addr → Prop} {Γ Γ' : Ct} {Rs : List Res} {X : Cx} {Z0 Z Hl : Hp} {D : Ends} {K : PySem.W.Frag} {rest : List Stmt} {q : Addr} {kvs : List (Int × PyData)} {od : Obj} {o e : Expr} {pos pos' : Pos}
end
end Lh
/-! l.insert(i, y), l at hand; x, y, l = a, b, [..]. -/
namespace Lh
open PySem L2
open Evl (Ex ex_l ex_t ex_rd fresh_back)
section
variable {M : Addr → Prop} {Γ Γ' : Ct} {Rs : List Res} {X : Cx} {Z0 Z Hl : Hp} {D : Ends} {K : PySem.W.Frag} {rest : List Stmt} {a b c d e o : Expr} {es : List Expr} {pos p : Pos}
end
end Lh
/-! A list at hand: walked by a comprehension, l.remove(x); a, b, c, l, d = list(..), x, y, [], z. -/
namespace Lh
open PySem L2
open Evl (Ex ex_l ex_t ex_rd fresh_back)
open PyProof.Rows
section
variable {M : Addr → Prop} {Γ Γ' : Ct} {Rs : List Res} {X : Cx} {Z0 Z Hl : Hp} {D : Ends} {K : PySem.W.Frag} {rest : List Stmt} {a b c d e o : Expr} {es : List Expr} {pos p : Pos} {q : Addr}
end
end Lh
/-! Objects at hand: their attributes change. Expressions that change what is at hand. -/
namespace Lh
open PySem L2
open PyProof.Rows
open Evl (Ex ex_l ex_t ex_rd fresh_back)
/-- no heap -/
abbrev Hn : Hp := fun _ => Option.none
theorem Step.into {M M' : Addr → Prop} {Z0 Z H0 H H0' H' : Hp} (s : Step M Z0 Z H0 H) (s2 : Step M' H0 H H0' H') (h : ∀ a, M' a → M a ∨ Z a = Option.none) : Step M Z0 Z H0' H' where
  un := fun a o hm ha => s2.un a o (fun z => by
    rcases h a z with q | q
    · exact hm q
    · rw [ha] at q
      cases q) (s.un a o hm ha)
  th := fun a o ha => by
    obtain ⟨o', h'⟩ := s.th a o ha
    exact s2.th a o' h'
  ex := s.ex.trans s2.ex
  le := s2.le
  nw := fun a o ha => by
    rcases s2.nw a o ha with q | q
    · exact s.nw a o q
    · refine .inr ?_
      cases e : Z a with
      | none => rfl
      | some u =>
        obtain ⟨u', e'⟩ := s.th a u e
        rw [q] at e'
        cases e'
/-- what is known of t's value, and what is at hand behind it -/
def YC (M : Addr → Prop) (Γ : Ct) (Rs Rs' : List Res) (t : TE) (P : Pd) : Prop := ∀ (σ : L2.St) (H0 H : Hp), Sl Γ σ H0 → Ex H0 H → Rok Rs H0 H → ∀ Q : VK, (∀ v H0' H', Step M H0 H H0' H' → Rok Rs' H0' H' → P.p v H0' → Q v H') → t σ H Q
abbrev XC (M : Addr → Prop) (Γ : Ct) (Rs Rs' : List Res) (X : Cx) (e : Expr) (P : Pd) : Prop := YC M Γ Rs Rs' (wpE X e) P
def YCA (M : Addr → Prop) (Γ : Ct) (Rs Rs' : List Res) (t : TA) (Ps : List Pd) : Prop := ∀ (σ : L2.St) (H0 H : Hp), Sl Γ σ H0 → Ex H0 H → Rok Rs H0 H → ∀ Q : List V → Hp → Prop, (∀ vs H0' H', Step M H0 H H0' H' → Rok Rs' H0' H' → DAll Ps vs H0' → Q vs H') → t σ H Q
abbrev XCA (M : Addr → Prop) (Γ : Ct) (Rs Rs' : List Res) (X : Cx) (es : List Expr) (Ps : List Pd) : Prop := YCA M Γ Rs Rs' (wpA X es) Ps
section
variable {M M' : Addr → Prop} {Γ Γ' : Ct} {Rs Rs' R1 R1' : List Res} {X : Cx} {Z0 Z Hl : Hp} {D : Ends} {K : PySem.W.Frag} {rest : List Stmt} {a b c e o : Expr} {es : List Expr} {pos p : Pos} {q : Addr} {P : Pd} {t : TE}
theorem YC.wp {e : Expr} (h : PE X e t) (y : YC M Γ Rs Rs' t P) : XC M Γ Rs Rs' X e P := fun σ H0 H l ex r Q q => PE.wp h (y σ H0 H l ex r Q q)
theorem YC.imp {P' : Pd} (h : YC M Γ Rs Rs' t P) (i : ∀ v H, P.p v H → P'.p v H) : YC M Γ Rs Rs' t P' := fun σ H0 H l e k Q q => h σ H0 H l e k Q fun v H0' H' s k' r => q v H0' H' s k' (i v H0' r)
theorem yc_perm (p1 : Rs.Perm R1) (p2 : R1'.Perm Rs') (h : YC M Γ R1 R1' t P) : YC M Γ Rs Rs' t P := fun σ H0 H l e k Q q => h σ H0 H l e (Rok.perm p1 k) Q fun v H0' H' s k' r => q v H0' H' s (Rok.perm p2 k') r
theorem ya_perm {ts : TA} {Ps : List Pd} (p1 : Rs.Perm R1) (h : YA M Γ R1 ts Ps) : YA M Γ Rs ts Ps := fun σ H0 H l e k Q q => h σ H0 H l e (Rok.perm p1 k) Q fun v H0' H' s k' r => q v H0' H' s (Rok.perm p1.symm k') r
theorem yc_weak (i : ∀ a, M a → M' a) (h : YC M Γ Rs Rs' t P) : YC M' Γ Rs Rs' t P := fun σ H0 H l e k Q q => h σ H0 H l e k Q fun v H0' H' s k' r => q v H0' H' (s.imp i) k' r
end
/-! ### objects -/
def putP (f : Str) (P : Pd) : List (Str × Pd) → List (Str × Pd)
  | [] => [(f, P)]
  | (g, Q) :: r => if f == g then (g, P) :: r else (g, Q) :: putP f P r
theorem putP_lookup (f : Str) (P : Pd) (g : Str) : ∀ fs : List (Str × Pd), (putP f P fs).lookup g = if g = f then some P else fs.lookup g
  | [] => by
    show List.lookup g [(f, P)] = _
    by_cases e : g = f
    · subst e
      simp [List.lookup]
    · have eb : (g == f) = false := by simpa using e
      simp [List.lookup, eb, e]
  | (h, Q) :: r => by
    unfold putP
    by_cases e : f = h
    · subst e
      rw [if_pos (by simp)]
      by_cases e2 : g = f
      · subst e2
        simp [List.lookup]
      · have eb : (g == f) = false := by simpa using e2
        simp [List.lookup, eb, e2]
    · rw [if_neg (by simpa using e)]
      have ih := putP_lookup f P g r
      by_cases e2 : g = h
      · subst e2
        have e3 : ¬ g = f := fun z => e z.symm
        simp [List.lookup, e3]
      · have eb : (g == h) = false := by simpa using e2
        simp [List.lookup, eb, ih]
theorem Flds.cong {fs fs' : List (Str × Pd)} {vs : List (Str × V)} {H : Hp} (h : Flds fs vs H) (e : ∀ f, fs'.lookup f = fs.lookup f) : Flds fs' vs H := fun f => by
  rw [e f]
  exact h f
theorem lookup_cons (f : Str) (P : Pd) (g : Str) (fs : List (Str × Pd)) : ((f, P) :: fs).lookup g = if g = f then some P else fs.lookup g := by
  by_cases e : g = f
  · subst e
    simp [List.lookup]
  · have eb : (g == f) = false := by simpa using e
    simp [List.lookup, eb, e]
theorem Flds.putP {f : Str} {P : Pd} {v : V} {fs : List (Str × Pd)} {vs : List (Str × V)} {H : Hp} (h : Flds fs vs H) (hv : P.p v H) : Flds (putP f P fs) (putF f v vs) H :=
  (h.put (f := f) hv).cong fun g => by rw [putP_lookup, lookup_cons]
theorem putF_len {f : Str} {v : V} : ∀ {vs : List (Str × V)}, vs.lookup f ≠ none → (putF f v vs).length = vs.length
  | [], h => absurd rfl h
  | (g, x) :: r, h => by
    unfold putF
    split
    · rfl
    · rename_i hn
      have hn' : ¬ g = f := by simpa using hn
      have eb : (f == g) = false := by
        have : ¬ f = g := fun z => hn' z.symm
        simpa using this
      have h2 : r.lookup f ≠ none := by
        simpa [List.lookup, eb] using h
      simp [putF_len h2]
/-- an object at hand -/
def Res.obj (C x dx : Addr) (fs : List (Str × Pd)) : Res where
  ad := [x]
  p := fun H0 H => H0 x = none ∧ ∃ vs, H x = some (.ins C dx vs) ∧ Flds fs vs H0 ∧ vs.length ≤ 100
  st := fun {H0 H H0' H'} e n q ⟨h1, vs, h2, h3, h4⟩ => ⟨n x (by simp), vs, by rw [q x (by simp)]; exact h2, h3.ex e, h4⟩
  tr := fun {H0 H} ⟨h1, vs, h2, h3, h4⟩ a ha => by
    have e : a = x := by simpa using ha
    subst e
    exact ⟨⟨_, h2⟩, h1⟩
section
variable {M M' : Addr → Prop} {Γ Γ' : Ct} {Rs Rs' R1 R1' : List Res} {X : Cx} {Z0 Z Hl : Hp} {D : Ends} {K : PySem.W.Frag} {rest : List Stmt} {a b c e o : Expr} {es : List Expr} {pos p : Pos} {q x dx C : Addr} {P : Pd} {t : TE} {fs : List (Str × Pd)}
/-- o.f -/
theorem xe_fldM {f : Str} (ho : XE M Γ (Res.obj C x dx fs :: Rs) X o (PV (.ref x))) (hl : fs.lookup f = some P) (hc : Cls X.K C) (hn : NoAttr X.K C f) (hb : attributeBase o f X.env (eval o X.env) = eval o X.env := by rfl) : XE M Γ (Res.obj C x dx fs :: Rs) X (.Attribute o f pos) P :=
  YE.wp (pe_fld pe_wp hb) fun σ H0 H l ex k Q q => ho σ H0 H l ex k _ fun v H1 G1 s1 k1 hv => by
    obtain ⟨_, vs, h2, h3, _⟩ := k1.2 _ List.mem_cons_self
    obtain ⟨u, hu, hp⟩ := (h3 f).1 P hl
    exact ⟨x, C, dx, vs, u, hv, h2, hc, hn, hu, q u H1 G1 s1 k1 hp⟩
/-- the object is written -/
theorem obj_wr {f : Str} {y : V} {H1 G1 : Hp} {vs : List (Str × V)} (t : Step M Z0 Z H1 G1) (k1 : Rok (Res.obj C x dx fs :: Rs) H1 G1) (hq : G1 x = some (.ins C dx vs)) (hd : Flds fs vs H1) (hlen : vs.length ≤ 100) (hP : P.p y H1) (hM : M x ∨ Z x = none) (hf : fs.lookup f ≠ none) :
    Step M Z0 Z H1 (upd G1 x (.ins C dx (putF f y vs))) ∧ Rok (Res.obj C x dx (putP f P fs) :: Rs) H1 (upd G1 x (.ins C dx (putF f y vs))) := by
  obtain ⟨h0, _⟩ := k1.2 _ List.mem_cons_self
  have nd := k1.1
  rw [List.flatMap_cons, List.nodup_append] at nd
  have ne : ∀ r ∈ Rs, ∀ a ∈ r.ad, a ≠ x := fun r hr a ha e => nd.2.2 x (by simp [Res.obj]) a (List.mem_flatMap.mpr ⟨r, hr, ha⟩) e.symm
  have kr : Rok Rs H1 G1 := ⟨nd.2.1, fun r hr => k1.2 r (List.mem_cons_of_mem _ hr)⟩
  refine ⟨⟨fun a u hm ha => ?_, fun a u ha => ?_, t.ex, fun a u ha => ?_, t.nw⟩, ⟨k1.1, fun r hr => ?_⟩⟩
  · have na : a ≠ x := fun e => by
      rcases hM with h | h
      · exact hm (e ▸ h)
      · rw [e, h] at ha
        cases ha
    rw [upd_ne na]
    exact t.un a u hm ha
  · by_cases e : a = x
    · subst e
      exact ⟨_, upd_same⟩
    · obtain ⟨o', h'⟩ := t.th a u ha
      exact ⟨o', by rw [upd_ne e]; exact h'⟩
  · have na : a ≠ x := fun e => by
      rw [e, h0] at ha
      cases ha
    rw [upd_ne na]
    exact t.le a u ha
  · obtain e | hr := List.mem_cons.mp hr
    · subst e
      refine ⟨h0, _, upd_same, hd.putP hP, ?_⟩
      have hv : vs.lookup f ≠ none := fun z => by
        cases e : fs.lookup f with
        | none => exact hf e
        | some Q =>
          obtain ⟨u, hu, _⟩ := (hd f).1 Q e
          rw [z] at hu
          cases hu
      rw [putF_len hv]
      exact hlen
    · exact (kr.wr ne).2 r hr
/-- o.f = e -/
theorem xs_wr {f : Str} {pos' : Pos} (ho : XE M Γ (Res.obj C x dx fs :: Rs) X o (PV (.ref x))) (hv : XE M Γ (Res.obj C x dx fs :: Rs) X e P) (hf : (fs.lookup f).isSome = true) (hc : Cls X.K C) (hn : NoAttr X.K C f) (hM : M x ∨ Z x = none)
    (k : XS M Γ (Res.obj C x dx (putP f P fs) :: Rs) X Z0 Z Hl D rest) (hs : swapsWith e (some (.Attribute o f pos')) pos.line X.env = pure false := by rfl) : XS M Γ (Res.obj C x dx fs :: Rs) X Z0 Z Hl D (.Assign [.Attribute o f pos'] e pos :: rest) :=
  xs_cons (ps_fld pe_wp pe_wp hs) fun σ H0 H l s b r => hv σ H0 H l s.le r _ fun y H1 G1 s1 k1 hy => ho σ H1 G1 (l.ex s1.ex) s1.le k1 _ fun v H2 G2 s2 k2 hv2 => by
    obtain ⟨h0, vs, hq, hd, hlen⟩ := k2.2 _ List.mem_cons_self
    obtain ⟨t2, k3⟩ := obj_wr ((s.trans s1).trans s2) k2 hq hd hlen (P.m s2.ex hy) hM (fun z => by rw [z] at hf; cases hf)
    exact ⟨x, C, dx, vs, hv2, hq, hc, hn, by omega, k _ H2 _ (l.ex (s1.ex.trans s2.ex)) t2 (b.trans (s1.ex.trans s2.ex)) k3⟩
/-- o.f += e, ints -/
theorem xs_wrAdd {f : Str} {tpos : Pos} {i j : Int} (ho : XE M Γ (Res.obj C x dx fs :: Rs) X o (PV (.ref x))) (hv : XE M Γ (Res.obj C x dx fs :: Rs) X e (PD X.K (.int j))) (hl : fs.lookup f = some (PD X.K (.int i))) (hc : Cls X.K C) (hn : NoAttr X.K C f) (hM : M x ∨ Z x = none)
    (k : XS M Γ (Res.obj C x dx (putP f (PD X.K (.int (i + j))) fs) :: Rs) X Z0 Z Hl D rest) : XS M Γ (Res.obj C x dx fs :: Rs) X Z0 Z Hl D (.AugAssign (.Attribute o f tpos) .Add e pos :: rest) :=
  xs_cons (ps_fldaug pe_wp pe_wp in_add) fun σ H0 H l s b r => ho σ H0 H l s.le r _ fun v H1 G1 s1 k1 hv2 => by
    obtain ⟨_, vs, hq, hd, _⟩ := k1.2 _ List.mem_cons_self
    obtain ⟨u, hu, hp⟩ := (hd f).1 _ hl
    have hp' : u = .int i := hp
    subst hp'
    refine ⟨x, C, dx, vs, _, hv2, hq, hc, hn, hu, ?_⟩
    refine hv σ H1 G1 (l.ex s1.ex) s1.le k1 _ fun y H2 G2 s2 k2 hy => ?_
    have hy' : y = .int j := hy
    subst hy'
    obtain ⟨_, vs2, hq2, hd2, hlen2⟩ := k2.2 _ List.mem_cons_self
    obtain ⟨t2, k3⟩ := obj_wr (f := f) (P := PD X.K (.int (i + j))) (y := .int (i + j)) ((s.trans s1).trans s2) k2 hq2 hd2 hlen2 rfl hM (by rw [hl]; exact fun z => by cases z)
    exact ⟨i, j, rfl, rfl, dx, vs2, hq2, by omega, k _ H2 _ (l.ex (s1.ex.trans s2.ex)) t2 (b.trans (s1.ex.trans s2.ex)) k3⟩
/-- o.f as a target -/
def gFld (K : PySem.W.Frag) (to : TE) (f : Str) : TG := fun y σ H Q => to σ H fun v H1 => ∃ a C dx fs, v = .ref a ∧ H1 a = some (.ins C dx fs) ∧ Cls K C ∧ NoAttr K C f ∧ fs.length < 1000 ∧ Q σ (upd H1 a (.ins C dx (putF f y fs)))
theorem pg_fld {o : Expr} {f : Str} {to : TE} (ho : PE X o to) : PG X (.Attribute o f pos) (gFld X.K to f) := by
  refine ⟨fun pins s σ H v u Q I r h => ?_⟩
  rw [assign_Attribute]
  refine wpAny_bind (wpAny_holding (thn (ho.run pins s σ H _ I h) fun ov s1 ⟨y, H1, I1, r1, a, C, dx, fs, ex, ea, c, n, l, q1⟩ => ?_))
  subst ex
  obtain rfl : ov = Value.ref a := r1
  refine wpAny_bind (wpAny_standAt (wpAny_bind (wpAny_holding ?_)))
  exact setattr_ok I1 ea c n l r fun s3 I3 => wpAny_release ⟨σ, _, I3, q1⟩
/-- i, o.f = e -/
theorem xs_unpFld (i : Nat) {z f : Str} {P Q : Pd} {px pt pa : Pos} {kt : Nat} (he : XE M Γ (Res.obj C x dx fs :: Rs) X e (PTs X.K [P, Q])) (ho : XE M (Γ.set i (some P)) (Res.obj C x dx fs :: Rs) X o (PV (.ref x))) (hf : (fs.lookup f).isSome = true) (hc : Cls X.K C) (hn : NoAttr X.K C f) (hM : M x ∨ Z x = none)
    (k : XS M (Γ.set i (some P)) (Res.obj C x dx (putP f Q fs) :: Rs) X Z0 Z Hl D rest) (hN : X.N.Nodup) (hcm : X.calm = true := by rfl) (hi : X.N[i]? = some z := by rfl) (hx : Loc X.env.scope z := by first | exact Or.inl rfl | exact Or.inr rfl)
    (hfn : X.fn z = true ∨ X.env.scope.names.lookup z = some .local := by first | exact .inl rfl | exact .inr rfl)
    (hn2 : (assignEach [.Name z px, .Attribute o f pa] X.env).length = 2 := by rfl) (hst : (assignEach [.Name z px, .Attribute o f pa] X.env).findIdx? (·.1) = none := by rfl)
    (hs : swapsWithSole [.Tuple [.Name z px, .Attribute o f pa] kt pt] e pos.line X.env = pure false := by rfl) (hw : swappedStores [.Tuple [.Name z px, .Attribute o f pa] kt pt] e X.env = pure none := by rfl)
    (h1 : (assignEach [.Tuple [.Name z px, .Attribute o f pa] kt pt] X.env).map (·.2) = [assign (.Tuple [.Name z px, .Attribute o f pa] kt pt) X.env] := by rfl)
    (h2 : (assignEach [.Name z px, .Attribute o f pa] X.env).map (·.2) = assign (.Name z px) X.env :: (assignEach [.Attribute o f pa] X.env).map (·.2) := by rfl) (h3 : (assignEach [.Attribute o f pa] X.env).map (·.2) = assign (.Attribute o f pa) X.env :: (assignEach [] X.env).map (·.2) := by rfl) :
    XS M Γ (Res.obj C x dx fs :: Rs) X Z0 Z Hl D (.Assign [.Tuple [.Name z px, .Attribute o f pa] kt pt] e pos :: rest) :=
  xs_cons (ps_asg pe_wp (pg_tup (n := 2) hcm (pgs_cons (pg_name hN hi hx hfn) (pgs_cons (pg_fld pe_wp) pgs_nil h3) h2) hn2 hst) hs hw h1) fun σ H0 H l s b r => he σ H0 H l s.le r _ fun v H1 G1 s1 k1 ⟨t, xs, ev, ht, hd⟩ => by
    obtain ⟨y1, r1, e1, q1, d1⟩ := hd.inv
    obtain ⟨y2, r2, e2, q2, d2⟩ := d1.inv
    have e3 := d2.nil_inv
    subst e1 e2 e3
    refine ⟨t, [y1, y2], ev, ex_t s1.le ht, rfl, y1, [y2], rfl, y2, [], rfl, ?_⟩
    have l1 := (l.ex s1.ex).set (i := i) q1
    refine ho _ H1 G1 l1 s1.le k1 _ fun v3 H2 G2 s2 k2 hv3 => ?_
    obtain ⟨h0, vs, hq, hd2, hlen⟩ := k2.2 _ List.mem_cons_self
    obtain ⟨t2, k3⟩ := obj_wr ((s.trans s1).trans s2) k2 hq hd2 hlen (Q.m s2.ex q2) hM (fun z => by rw [z] at hf; cases hf)
    exact ⟨x, C, dx, vs, hv3, hq, hc, hn, by omega, rfl, k _ H2 _ (l1.ex s2.ex) t2 (b.trans (s1.ex.trans s2.ex)) k3⟩
/-- l.append(e), l at hand from before -/
theorem xs_appM {Zz : Hp} {o e : Expr} {Ps : List Pd} {cpos apos : Pos} (hM : M q ∨ Z q = none) (ho : XE M Γ (Res.lst Zz q Ps :: Rs) X o (PV (.ref q))) (he : XE M Γ (Res.lst Zz q Ps :: Rs) X e P) (hz : Ps.length < 1000000) (k : XS M Γ (Res.lst Zz q (Ps ++ [P]) :: Rs) X Z0 Z Hl D rest)
    (hpe : PE X (.Call (.Attribute o "append" apos) [e] [] cpos) (tBM X.K "list" rAppend (wpE X o) (tCons (wpE X e) tNil))) (hs : swapsWith (.Call (.Attribute o "append" apos) [e] [] cpos) none pos.line X.env = pure false := by rfl) : XS M Γ (Res.lst Zz q Ps :: Rs) X Z0 Z Hl D (.Expr (.Call (.Attribute o "append" apos) [e] [] cpos) pos :: rest) :=
  xs_cons (ps_expr hpe hs) fun σ H0 H l s b r => ho σ H0 H l s.le r _ fun v H1 G1 s1 k1 hv => by
    have hv' : v = .ref q := hv
    subst hv'
    obtain ⟨_, _, xs1, hq1, _⟩ := k1.2 _ List.mem_cons_self
    refine ⟨.inl ⟨rfl, xs1, SqL.of hq1⟩, ?_⟩
    refine he σ H1 G1 (l.ex s1.ex) s1.le k1 _ fun y H2 G2 s2 k2 hy => ?_
    obtain ⟨hz0, h0, xs, hq, hd⟩ := k2.2 _ List.mem_cons_self
    refine ⟨q, xs, y, rfl, rfl, hq, by rw [hd.1]; exact Nat.lt_of_lt_of_le hz (by decide), ?_⟩
    have t := (s.trans s1).trans s2
    have nd := k2.1
    rw [List.flatMap_cons, List.nodup_append] at nd
    have ne : ∀ r ∈ Rs, ∀ a ∈ r.ad, a ≠ q := fun r hr a ha e => nd.2.2 q (by simp [Res.lst]) a (List.mem_flatMap.mpr ⟨r, hr, ha⟩) e.symm
    have kr : Rok Rs H2 G2 := ⟨nd.2.1, fun r hr => k2.2 r (List.mem_cons_of_mem _ hr)⟩
    refine k _ H2 _ (l.ex (s1.ex.trans s2.ex)) ⟨fun a o hm ha => ?_, fun a o ha => ?_, t.ex, fun a o ha => ?_, t.nw⟩ (b.trans (s1.ex.trans s2.ex)) ⟨k2.1, fun r hr => ?_⟩
    · have na : a ≠ q := fun e => by
        rcases hM with h | h
        · exact hm (e ▸ h)
        · rw [e, h] at ha
          cases ha
      rw [upd_ne na]
      exact t.un a o hm ha
    · by_cases e : a = q
      · subst e
        exact ⟨_, upd_same⟩
      · obtain ⟨o', h'⟩ := t.th a o ha
        exact ⟨o', by rw [upd_ne e]; exact h'⟩
    · have na : a ≠ q := fun e => by
        rw [e, h0] at ha
        cases ha
      rw [upd_ne na]
      exact t.le a o ha
    · obtain e | hr := List.mem_cons.mp hr
      · subst e
        exact ⟨hz0, h0, _, upd_same, hd.app (DAll.cons hy DAll.nil)⟩
      · exact (kr.wr ne).2 r hr
/-- l.append(e), e changes what else is at hand -/
theorem xs_appC {o e : Expr} {Ps : List Pd} {cpos apos : Pos} (hMM : ∀ a, M' a → M a ∨ Z a = none) (ho : XE M Γ (Res.lst Z q Ps :: Rs) X o (PV (.ref q))) (he : XC M' Γ (Res.lst Z q Ps :: Rs) (Res.lst Z q Ps :: Rs') X e P) (hz : Ps.length < 1000000) (k : XS M Γ (Res.lst Z q (Ps ++ [P]) :: Rs') X Z0 Z Hl D rest)
    (hpe : PE X (.Call (.Attribute o "append" apos) [e] [] cpos) (tBM X.K "list" rAppend (wpE X o) (tCons (wpE X e) tNil))) (hs : swapsWith (.Call (.Attribute o "append" apos) [e] [] cpos) none pos.line X.env = pure false := by rfl) : XS M Γ (Res.lst Z q Ps :: Rs) X Z0 Z Hl D (.Expr (.Call (.Attribute o "append" apos) [e] [] cpos) pos :: rest) :=
  xs_cons (ps_expr hpe hs) fun σ H0 H l s b r => ho σ H0 H l s.le r _ fun v H1 G1 s1 k1 hv => by
    have hv' : v = .ref q := hv
    subst hv'
    obtain ⟨_, _, xs1, hq1, _⟩ := k1.2 _ List.mem_cons_self
    refine ⟨.inl ⟨rfl, xs1, SqL.of hq1⟩, ?_⟩
    refine he σ H1 G1 (l.ex s1.ex) s1.le k1 _ fun y H2 G2 s2 k2 hy => ?_
    obtain ⟨hz0, h0, xs, hq, hd⟩ := k2.2 _ List.mem_cons_self
    refine ⟨q, xs, y, rfl, rfl, hq, by rw [hd.1]; exact Nat.lt_of_lt_of_le hz (by decide), ?_⟩
    obtain ⟨t4, k4⟩ := lst_wr ((s.trans s1).into s2 hMM) k2 (hd.app (DAll.cons hy DAll.nil))
    exact k _ H2 _ (l.ex (s1.ex.trans s2.ex)) t4 (b.trans (s1.ex.trans s2.ex)) k4
end
end Lh
/-! A bool in a list of bools. -/
namespace Lh
open PySem L2
open Evl (Ex ex_l ex_t ex_rd fresh_back)
abbrev bsD (bs : List Bool) : List PyData := bs.map PyData.bool
section
variable {M : Addr → Prop} {Γ Γ' : Ct} {Rs : List Res} {X : Cx} {K : PySem.W.Frag} {a b : Expr} {pos p : Pos} {H0 H : Hp} {x y : V}
end
end Lh
/-! Defs and methods that change what is at hand; an object made and kept at hand; x(lambda: ..) that changes; loops over a list at hand. -/
namespace LhX
open PySem L2 PySem.W PyProof.Rows PySem.Calls Lh
open LhL (tabR)
open Evl (Ex ex_l ex_t ex_rd fresh_back)
/-- from things as pre tells, R1 at hand: R2 behind it -/
def SpC {α : Type} (M : α → Addr → Prop) (R1 R2 : α → List Res) (pre : α → List Pd) (post : α → Pd) : Sp := fun vs H Q _ => ∃ (y : α) (H0 : Hp), Ex H0 H ∧ Rok (R1 y) H0 H ∧ DAll (pre y) vs H0 ∧ ∀ v H0' H', Lh.Step (M y) H0 H H0' H' → Rok (R2 y) H0' H' → (post y).p v H0' → Q v H'
/-- the promise of an __init__ that makes a list of its own -/
def SpIO {α : Type} (C : Addr) (pre : α → List Pd) (R : α → Addr → Addr → Addr → List Res) : Sp := fun vs H Q _ => ∃ (y : α) (x dx : Addr) (H0 : Hp) (ws : List V), vs = .ref x :: ws ∧ Ex H0 H ∧ Rok [Res.ob C x dx []] H0 H ∧ DAll (pre y) ws H0 ∧
  ∀ q H0' H', H q = Option.none → Lh.Step (MX x) H0 H H0' H' → Rok (R y x dx q) H0' H' → Q .non H'
section
variable {K : Frag} {mg : Str → Option Value} {base : Heap} {P : Program} {w : World}
theorem fn_C {α : Type} {M : α → Addr → Prop} {R1 R2 : α → List Res} {pre : α → List Pd} {post : α → Pd} {x qual : Str} {st : Stmt} {f : Addr} {fd : FuncData} {N ps : List Str} {k : Nat} (F : Fun K x qual st f fd) (S : FnScope N ps (defScope st)) (len : ∀ y, (pre y).length = ps.length)
    (hb : ∀ (y : α) (Z0 Z : Hp) (Q : VK) (X : Cx) (qX : ∃ (cdv : Value) (A : Around) (outer : List Env) (s : Shared) (E : XK), X = (cxOf L2.CX0 P w K mg base N qual (defScope st) f cdv A outer s Z E).nox ∧ Room k X.A), (∀ v H0' H', Lh.Step (M y) Z0 Z H0' H' → Rok (R2 y) H0' H' → (post y).p v H0' → Q v H') →
      XS (M y) (ctOf N (pre y)) (R1 y) X Z0 Z Z0 { nx := fun _ H' => Q .non H', rt := Q } (defBody st)) : FnOk P w K mg base L2.CX0 (k + 1) f fd ps (SpC M R1 R2 pre post) := by
  refine F.ok S (fun vs H Q E h => ?_) (fun cdv A outer s H vs Q E hr h => ?_)
  · obtain ⟨y, H0, _, _, h, _⟩ := h
    rw [h.1, len]
  · obtain ⟨y, H0, e, r, h, q⟩ := h
    refine ⟨_, pss_wp, ?_⟩
    exact hb y H0 H Q _ ⟨cdv, A, outer, s, E, rfl, hr⟩ q _ H0 H (sl_start h) (Lh.Step.rfl e) (Ex.refl _) r
theorem fn_IO {α : Type} {C : Addr} {pre : α → List Pd} {R : α → Addr → Addr → Addr → List Res} {x qual : Str} {st : Stmt} {f : Addr} {fd : FuncData} {N ps : List Str} {k : Nat} (F : Fun K x qual st f fd) (S : FnScope N ps (defScope st)) (len : ∀ y, (pre y).length + 1 = ps.length)
    (hb : ∀ (y : α) (o dx : Addr) (Z0 Z : Hp) (Q : VK) (X : Cx) (qX : ∃ (cdv : Value) (A : Around) (outer : List Env) (s : Shared) (E : XK), X = (cxOf L2.CX0 P w K mg base N qual (defScope st) f cdv A outer s Z E).nox ∧ Room k X.A), (∃ u, Z o = some u) → (∀ q H0' H', Z q = Option.none → Lh.Step (MX o) Z0 Z H0' H' → Rok (R y o dx q) H0' H' → Q .non H') →
      XS (MX o) (ctOf N (PV (.ref o) :: pre y)) [Res.ob C o dx []] X Z0 Z Z0 { nx := fun _ H' => Q .non H', rt := Q } (defBody st)) : FnOk P w K mg base L2.CX0 (k + 1) f fd ps (SpIO C pre R) := by
  refine F.ok S (fun vs H Q E h => ?_) (fun cdv A outer s H vs Q E hr h => ?_)
  · obtain ⟨y, o, dx, H0, ws, rfl, _, _, h, _⟩ := h
    rw [List.length_cons, h.1, len]
  · obtain ⟨y, o, dx, H0, ws, rfl, e, r, h, q⟩ := h
    refine ⟨_, pss_wp, ?_⟩
    obtain ⟨_, vs', hq, _⟩ := r.2 _ List.mem_cons_self
    exact hb y o dx H0 H Q _ ⟨cdv, A, outer, s, E, rfl, hr⟩ ⟨_, hq⟩ q _ H0 H (sl_start (DAll.cons (P := PV (.ref o)) rfl h)) (Lh.Step.rfl e) (Ex.refl _) r
end
/-- the first resources alone -/
theorem Rok.fst {rs1 Rs2 : List Res} {H0 H : Hp} (k : Rok (rs1 ++ Rs2) H0 H) : Rok rs1 H0 H := ⟨by
  have d := k.1
  rw [List.flatMap_append, List.nodup_append] at d
  exact d.1, fun r hr => k.2 r (List.mem_append_left _ hr)⟩
theorem Rok.snd {rs1 Rs2 : List Res} {H0 H : Hp} (k : Rok (rs1 ++ Rs2) H0 H) : Rok Rs2 H0 H := ⟨by
  have d := k.1
  rw [List.flatMap_append, List.nodup_append] at d
  exact d.2.1, fun r hr => k.2 r (List.mem_append_right _ hr)⟩
/-- behind a call that changes the first ones -/
theorem Rok.call {M1 : Addr → Prop} {rs1 rs2 Rs2 : List Res} {H1 G1 H2 G2 : Hp} (k1 : Rok (rs1 ++ Rs2) H1 G1) (s2 : Lh.Step M1 H1 G1 H2 G2) (k2 : Rok rs2 H2 G2) (h4 : ∀ a, M1 a → a ∈ rs1.flatMap Res.ad) (hA : rs2.flatMap Res.ad = rs1.flatMap Res.ad) : Rok (rs2 ++ Rs2) H2 G2 := by
  have d := k1.1
  rw [List.flatMap_append, List.nodup_append] at d
  have k3 : Rok Rs2 H2 G2 := (Rok.snd k1).step s2 fun r hr a ha hm => d.2.2 a (h4 a hm) a (List.mem_flatMap.mpr ⟨r, hr, ha⟩) rfl
  refine ⟨?_, fun r hr => ?_⟩
  · rw [List.flatMap_append, List.nodup_append]
    refine ⟨k2.1, d.2.1, ?_⟩
    rw [hA]
    exact d.2.2
  · rcases List.mem_append.mp hr with h | h
    · exact k2.2 r h
    · exact k3.2 r h
section
variable {M M' : Addr → Prop} {Γ : Ct} {rs1 rs2 Rs Rs' Rs2 : List Res} {X : Cx} {Z0 Z Hl : Hp} {D : Ends} {K : Frag} {mg : Str → Option Value} {rest : List Stmt} {o e a b : Expr} {es : List Expr} {p pos : Pos} {m : Str} {q x dx C : Addr} {W : WX}
/-- what a method call asks of the instance -/
theorem obj_ask {fs : List (Str × Pd)} {H0 H : Hp} (k : Rok Rs H0 H) (hob : Res.obj C x dx fs ∈ Rs) (hnf : fs.lookup m = Option.none) : ∃ vs, H x = some (.ins C dx vs) ∧ vs.lookup m = Option.none := by
  obtain ⟨_, vs, h2, h3, _⟩ := k.2 _ hob
  exact ⟨vs, h2, (h3 m).2 hnf⟩
/-- o.m(e, ..) -/
theorem xc_meth {P' : Program} {w' : World} {base' : Heap} {α : Type} {M1 : α → Addr → Prop} {R1 R2 : α → List Res} {pre : α → List Pd} {post : α → Pd} {g : Addr} {fd : FuncData} {ps : List Str} {n : Nat} {apos : Pos} {pl : Sem Bool} {Ps : List Pd} {fs : List (Str × Pd)} (F : FnOk P' w' K mg base' L2.CX0 n g fd ps (SpC M1 R1 R2 pre post)) (y : α)
    (h : XE M Γ (rs1 ++ Rs2) X o (PV (.ref x))) (ha : XA M Γ (rs1 ++ Rs2) X (e :: es) Ps) (hy : pre y = PV (.ref x) :: Ps) (h1 : R1 y = rs1) (h2 : R2 y = rs2) (hA : rs2.flatMap Res.ad = rs1.flatMap Res.ad) (h3 : ∀ a, M1 y a → M a) (h4 : ∀ a, M1 y a → a ∈ rs1.flatMap Res.ad) (hob : Res.obj C x dx fs ∈ rs1 ++ Rs2) (hnf : fs.lookup m = Option.none) (hc : Cls K C) (hm : Meth K C m g) (hr : Room n X.A) (hb : Binds K fd ps [])
    (hst : starEach (e :: es) X.env = (false, eval e X.env) :: starEach es X.env := by rfl) (hpl : (backTo pos (starEach es X.env)).any (·.1) = false := by rfl)
    (ht : eval (.Call (.Attribute o m apos) (e :: es) [] pos) X.env = (do
      let obj ← eval o X.env
      standAt apos.atName
      let (meth, self0) ← holding [obj] (getMethod obj m pl)
      callWith pos meth self0 (backTo pos (starEach (e :: es) X.env)) (backToKw pos (keywordEach [] X.env))) := by rfl) (eP : X.prog = P' := by rfl) (ew : X.w = w' := by rfl) (eK : X.K = K := by rfl) (em : X.mg = mg := by rfl) (eb : X.base = base' := by rfl) : XC M Γ (rs1 ++ Rs2) (rs2 ++ Rs2) X (.Call (.Attribute o m apos) (e :: es) [] pos) (post y) := by
  subst eP ew eK em eb
  refine YC.wp (pe_meth (pl := pl) pe_wp hc hm F hr hb (dvs := []) .nil pass0 pa_wp hst hpl ht) fun σ H0 H l ex k Q q => h σ H0 H l ex k _ fun v H1 G1 s1 k1 hv => ?_
  obtain ⟨vs, q1, q2⟩ := obj_ask k1 hob hnf
  refine ⟨x, dx, vs, hv, q1, q2, ?_⟩
  refine ha σ H1 G1 (l.ex s1.ex) s1.le k1 _ fun ws H2 G2 s2 k2 hw => ?_
  refine ⟨y, H2, s2.le, by rw [h1]; exact Rok.fst k2, ?_, fun v H3 G3 s3 k3 p3 => q v H3 G3 ((s1.trans s2).trans (s3.imp h3)) (Rok.call k2 s3 (by rw [← h2]; exact k3) h4 hA) p3⟩
  rw [hy, List.append_nil]
  exact DAll.cons ((PV (.ref x)).m s2.ex hv) hw
/-- o.m() -/
theorem xc_meth0 {P' : Program} {w' : World} {base' : Heap} {α : Type} {M1 : α → Addr → Prop} {R1 R2 : α → List Res} {pre : α → List Pd} {post : α → Pd} {g : Addr} {fd : FuncData} {ps : List Str} {n : Nat} {apos : Pos} {pl : Sem Bool} {fs : List (Str × Pd)} (F : FnOk P' w' K mg base' L2.CX0 n g fd ps (SpC M1 R1 R2 pre post)) (y : α)
    (h : XE M Γ (rs1 ++ Rs2) X o (PV (.ref x))) (hy : pre y = [PV (.ref x)]) (h1 : R1 y = rs1) (h2 : R2 y = rs2) (hA : rs2.flatMap Res.ad = rs1.flatMap Res.ad) (h3 : ∀ a, M1 y a → M a) (h4 : ∀ a, M1 y a → a ∈ rs1.flatMap Res.ad) (hob : Res.obj C x dx fs ∈ rs1 ++ Rs2) (hnf : fs.lookup m = Option.none) (hc : Cls K C) (hm : Meth K C m g) (hr : Room n X.A) (hb : Binds K fd ps [])
    (ht : eval (.Call (.Attribute o m apos) [] [] pos) X.env = (do
      let obj ← eval o X.env
      standAt apos.atName
      let (meth, self0) ← holding [obj] (getMethod obj m pl)
      callWith pos meth self0 (backTo pos (starEach [] X.env)) (backToKw pos (keywordEach [] X.env))) := by rfl) (eP : X.prog = P' := by rfl) (ew : X.w = w' := by rfl) (eK : X.K = K := by rfl) (em : X.mg = mg := by rfl) (eb : X.base = base' := by rfl) : XC M Γ (rs1 ++ Rs2) (rs2 ++ Rs2) X (.Call (.Attribute o m apos) [] [] pos) (post y) := by
  subst eP ew eK em eb
  refine YC.wp (pe_meth0 (pl := pl) pe_wp hc hm F hr hb (dvs := []) .nil pass0 ht) fun σ H0 H l ex k Q q => h σ H0 H l ex k _ fun v H1 G1 s1 k1 hv => ?_
  obtain ⟨vs, q1, q2⟩ := obj_ask k1 hob hnf
  refine ⟨x, dx, vs, hv, q1, q2, y, H1, s1.le, by rw [h1]; exact Rok.fst k1, ?_, fun v H3 G3 s3 k3 p3 => q v H3 G3 (s1.trans (s3.imp h3)) (Rok.call k1 s3 (by rw [← h2]; exact k3) h4 hA) p3⟩
  rw [hy]
  exact DAll.cons hv DAll.nil
/-- o.p, a property of the object at hand -/
theorem xe_propM {P' : Program} {w' : World} {base' : Heap} {α : Type} {R1 : α → List Res} {pre : α → List Pd} {post : α → Pd} {f : Str} {pa g : Addr} {fd : FuncData} {ps : List Str} {n : Nat} {fs : List (Str × Pd)} (F : FnOk P' w' K mg base' L2.CX0 n g fd ps (SpF (fun _ => M0) R1 pre post)) (y : α) (h : XE M Γ (rs1 ++ Rs2) X o (PV (.ref x))) (hy : pre y = [PV (.ref x)]) (h1 : R1 y = rs1) (hob : Res.obj C x dx fs ∈ rs1 ++ Rs2) (hc : Cls K C) (hp : PropOf K C f pa g) (hr : Room (n + 1) X.A)
    (hb : Binds K fd ps []) (hab : attributeBase o f X.env (eval o X.env) = eval o X.env := by rfl) (eP : X.prog = P' := by rfl) (ew : X.w = w' := by rfl) (eK : X.K = K := by rfl) (em : X.mg = mg := by rfl) (eb : X.base = base' := by rfl) : XE M Γ (rs1 ++ Rs2) X (.Attribute o f pos) (post y) := by
  subst eP ew eK em eb
  refine YE.wp (pe_prop pe_wp hc hp F hr hb (dvs := []) .nil pass0 hab) fun σ H0 H l ex k Q q => h σ H0 H l ex k _ fun v H1 G1 s1 k1 hv => ?_
  obtain ⟨_, vs, q1, q2, _⟩ := k1.2 _ hob
  refine ⟨x, dx, vs, hv, q1, y, H1, s1.le, by rw [h1]; exact Rok.fst k1, ?_, fun v H2 G2 s2 _ p2 => q v H2 G2 (s1.trans s2.of0) (k1.step0 s2) p2⟩
  rw [hy]
  exact DAll.cons (P := PV (.ref x)) rfl DAll.nil
/-- self.f = [] , a list at hand -/
theorem xs_fldL {f : Str} {fs : List (Str × Pd)} {pos' pl : Pos} (ho : ∀ q, XE M Γ (Res.ob C x dx fs :: Res.lst Z q [] :: Rs) X o (PV (.ref x))) (hc : Cls X.K C) (hn : NoAttr X.K C f) (hz : fs.length < 100) (hM : M x)
    (k : ∀ q, Z q = Option.none → XS M Γ (Res.ob C x dx ((f, PV (.ref q)) :: fs) :: Res.lst Z q [] :: Rs) X Z0 Z Hl D rest) (hs : swapsWith (.List [] pl) (some (.Attribute o f pos')) pos.line X.env = pure false := by rfl) : XS M Γ (Res.ob C x dx fs :: Rs) X Z0 Z Hl D (.Assign [.Attribute o f pos'] (.List [] pl) pos :: rest) :=
  xs_cons (ps_fld pe_wp (pe_lst pa_nil) hs) fun σ H0 H l s b r => ⟨show 0 ≤ sizeLine by decide, fun p hp => by
    obtain ⟨t1, k1⟩ := new_lst (Ps := []) (vs := []) s r hp DAll.nil
    have k1' := Rok.perm (List.Perm.swap _ _ _) k1
    refine ho p σ H0 _ l t1.le k1' _ fun v H2 G2 s2 k2 hv2 => ?_
    obtain ⟨h0, vs, hq, hd, hlen⟩ := k2.2 _ List.mem_cons_self
    obtain ⟨hzq, _, _, _, _⟩ := k2.2 _ (List.mem_cons_of_mem _ List.mem_cons_self)
    have t := t1.trans s2
    have nd := k2.1
    rw [List.flatMap_cons, List.nodup_append] at nd
    have ne : ∀ r ∈ Res.lst Z p [] :: Rs, ∀ a ∈ r.ad, a ≠ x := fun r hr a ha e => nd.2.2 x (by simp [Res.ob]) a (List.mem_flatMap.mpr ⟨r, hr, ha⟩) e.symm
    have kr : Rok (Res.lst Z p [] :: Rs) H2 G2 := ⟨nd.2.1, fun r hr => k2.2 r (List.mem_cons_of_mem _ hr)⟩
    refine ⟨x, C, dx, vs, hv2, hq, hc, hn, by omega, ?_⟩
    refine k p hzq _ H2 _ (l.ex s2.ex) ⟨fun a u hm ha => ?_, fun a u ha => ?_, t.ex, fun a u ha => ?_, t.nw⟩ (b.trans s2.ex) ⟨k2.1, fun r hr => ?_⟩
    · have na : a ≠ x := fun e => hm (e ▸ hM)
      rw [upd_ne na]
      exact t.un a u hm ha
    · by_cases e : a = x
      · subst e
        exact ⟨_, upd_same⟩
      · obtain ⟨o', h'⟩ := t.th a u ha
        exact ⟨o', by rw [upd_ne e]; exact h'⟩
    · have na : a ≠ x := fun e => by
        rw [e, h0] at ha
        cases ha
      rw [upd_ne na]
      exact t.le a u ha
    · obtain e | hr := List.mem_cons.mp hr
      · subst e
        exact ⟨h0, _, upd_same, hd.put (P := PV (.ref p)) rfl, Nat.le_trans (putF_length _ _ _) (by simp; omega)⟩
      · exact (kr.wr ne).2 r hr⟩
/-- what an __init__ leaves -/
theorem rok_made {fs : List (Str × Pd)} {H0 H : Hp} (k : Rok (Res.ob C x dx fs :: Res.lst Z q [] :: Rs) H0 H) (h : fs.length ≤ 100) : Rok (Res.obj C x dx fs :: Res.lst Hn q [] :: Rs) H0 H := ⟨k.1, fun r hr => by
  rcases List.mem_cons.mp hr with e | hr
  · subst e
    obtain ⟨h1, vs, h2, h3, h4⟩ := k.2 _ List.mem_cons_self
    exact ⟨h1, vs, h2, h3, Nat.le_trans h4 h⟩
  · rcases List.mem_cons.mp hr with e | hr
    · subst e
      obtain ⟨_, h1, xs, h2, h3⟩ := k.2 _ (List.mem_cons_of_mem _ List.mem_cons_self)
      exact ⟨rfl, h1, xs, h2, h3⟩
    · exact k.2 _ (List.mem_cons_of_mem _ (List.mem_cons_of_mem _ hr))⟩
end
end LhX
/-! x(lambda: ..) where the lambda changes what is at hand; for x in l, (e, *l), l at hand. -/
namespace LhX
open PySem L2 PySem.W PyProof.Rows PySem.Calls Lh LamX
open LhL (tabR Made Known made_step lam_new)
open Evl (Ex ex_l ex_t ex_rd fresh_back)
section
variable {M : Addr → Prop} {Γ : Ct} {Rs Rs' : List Res} {X : Cx} {K : Frag}
end
section
variable {M : Addr → Prop} {Γ Γ' : Ct} {Rs : List Res} {X : Cx} {Z0 Z Zz Hl : Hp} {D : Ends} {K : Frag} {rest : List Stmt} {a b c e o : Expr} {pos p : Pos} {q : Addr} {Ps : List Pd}
/-- (e, *l), l a list of ints at hand -/
theorem xe_tupSM {ns : List Int} {n : Int} {kk : Nat} {sp : Pos} (h : XE M Γ (Res.lst Zz q Ps :: Rs) X a (PD X.K (.int n))) (h2 : XE M Γ (Res.lst Zz q Ps :: Rs) X b (PV (.ref q))) (hz : ns.length ≤ 1000) (eP : Ps = (li ns).map (PD X.K) := by rfl) (hs : starEach (a :: [.Starred b sp]) X.env = (false, eval a X.env) :: starEach [.Starred b sp] X.env := by rfl) (hs2 : starEach [.Starred b sp] X.env = (true, eval b X.env) :: starEach [] X.env := by rfl) :
    XE M Γ (Res.lst Zz q Ps :: Rs) X (.Tuple [a, .Starred b sp] kk pos) (PD X.K (.tuple (li (n :: ns)))) := by
  subst eP
  exact YE.wp (pe_tup (pa_cons pe_wp (StX.pa_star pe_wp pa_nil hs2) hs)) fun σ H0 H l e k Q q' => h σ H0 H l e k _ fun v H1 G1 s1 k1 hv => h2 σ H1 G1 (l.ex s1.ex) s1.le k1 _ fun u H2 G2 s2 k2 hu => by
    have hv' : v = .int n := hv
    have hu' : u = .ref q := hu
    subst hv' hu'
    obtain ⟨_, _, xs, hq, hd⟩ := k2.2 _ List.mem_cons_self
    have ex : xs = ns.map V.int := hd.dd.ints
    subst ex
    have e9 : V.int n :: (ns.map V.int ++ []) = (n :: ns).map V.int := by simp
    refine ⟨q, ns.map V.int, rfl, .inr (SqL.of hq), ?_⟩
    show _ ∧ _
    rw [e9]
    refine ⟨by rw [List.length_map, List.length_cons]; exact Nat.le_trans (show ns.length + 1 ≤ 1001 by omega) (by decide), fun p hp => ?_⟩
    have s := s1.trans s2
    exact q' _ (upd H2 p (.tup ((n :: ns).map V.int))) _ (s.trans (Step.new s.le hp)) (k2.step0 (Step.new s.le hp)) ⟨p, _, rfl, SqT.of upd_same, DdAll.of_ints _⟩
/-- the walk over a list at hand, whatever else is at hand -/
theorem xi_lstN {tg : Expr} (ho : XE M Γ (Res.lst Zz q Ps :: Rs) X o (PV (.ref q))) (σ : L2.St) (H0 H : Hp) (l : Sl Γ σ H0) (ex : Ex H0 H) (k : Rok (Res.lst Zz q Ps :: Rs) H0 H) (R : It → Hp → Prop)
    (r : ∀ J H0' H', Lh.Step M H0 H H0' H' → Rok (Res.lst Zz q Ps :: Rs) H0' H' → (∀ Rs3, WkR J Ps (Res.lst Zz q Ps :: Rs3) H0') → R J H') : wpI X tg o σ H R :=
  PI.wp (pi_list pe_wp) (ho σ H0 H l ex k _ fun v H1 G1 s1 k1 hv => by
    obtain ⟨_, _, xs, hq, hd⟩ := k1.2 _ List.mem_cons_self
    exact ⟨q, hv, ⟨xs, SqL.of hq⟩, r _ H1 G1 s1 k1 (fun Rs3 A G e1 e2 k2 i => by
      obtain ⟨_, _, ys, hq2, hd2⟩ := k2.2 _ List.mem_cons_self
      refine ⟨fun Q hQ => ?_, fun e => ⟨ys, SqL.of hq2, by rw [hd2.1, e]; exact Nat.le_refl _⟩⟩
      obtain ⟨v, h1, h2⟩ := hd2.2 i Q hQ
      refine ⟨⟨ys, v, SqL.of hq2, h1⟩, fun x H' ⟨y1, y2⟩ => ?_⟩
      have e3 : x = v := Option.some.inj ((y2 ys (SqL.of hq2)).symm.trans h1)
      subst e3 y1
      exact ⟨A, Lh.Step.rfl e2, h2⟩)⟩)
/-- for x in l, l at hand, which stays as it is -/
theorem xs_forM (i : Nat) {x : Str} {body : List Stmt} {xp : Pos} (ho : XE M Γ (Res.lst Zz q Ps :: Rs) X o (PV (.ref q))) (J : Nat → Ct → List Res → Prop) (h0 : J 0 Γ Rs)
    (hb : ∀ (t : Nat) (Q : Pd) (Γ1 : Ct) (Rs1 : List Res), Ps[t]? = some Q → J t Γ1 Rs1 → ∀ Hs, XS M (Γ1.set i (some Q)) (Res.lst Zz q Ps :: Rs1) X Z0 Z Hs { D with nx := KJ M Z0 Z Hs (fun t Γ2 Rs2 => ∃ Rs3, Rs2 = Res.lst Zz q Ps :: Rs3 ∧ J t Γ2 Rs3) (t + 1), ct := KJ M Z0 Z Hs (fun t Γ2 Rs2 => ∃ Rs3, Rs2 = Res.lst Zz q Ps :: Rs3 ∧ J t Γ2 Rs3) (t + 1), bk := wpB X rest D } body)
    (hd : ∀ Γ1 Rs1, J Ps.length Γ1 Rs1 → XS M Γ1 (Res.lst Zz q Ps :: Rs1) X Z0 Z Hl D rest) (hN : X.N.Nodup) (hp : PassesOwn (model X.prog X.w) X.A X.env X.xe := by exact PassesOwn.never) (hx : X.N[i]? = some x := by rfl) (hl : Loc X.env.scope x := by first | exact Or.inl rfl | exact Or.inr rfl)
    (hf : X.fn x = true ∨ X.env.scope.names.lookup x = some .local := by first | exact .inl rfl | exact .inr rfl) (hc : X.calm = true := by rfl) (hs : ∀ x, foldedSetIterable o X.env x = pure x := by intro _; rfl) : XS M Γ (Res.lst Zz q Ps :: Rs) X Z0 Z Hl D (.For (.Name x xp) o body [] pos :: rest) := by
  refine xs_cons (ps_for hp hc pi_wp (pg_name hN hx hl hf) pss_wp hs) fun σ H0 H l s b k => xi_lstN ho σ H0 H l s.le k _ fun I H1 G1 s1 k1 wk => ?_
  refine ⟨fun n m σ' G => m = Ps.length - n ∧ n ≤ Ps.length ∧ KJ M Z0 Z H1 (fun t Γ2 Rs2 => ∃ Rs3, Rs2 = Res.lst Zz q Ps :: Rs3 ∧ J t Γ2 Rs3) n σ' G, ⟨_, rfl, Nat.zero_le _, Γ, _, H1, ⟨Rs, rfl, h0⟩, Ex.refl _, l.ex s1.ex, s.trans s1, k1⟩, ?_⟩
  rintro n m σ' G ⟨rfl, hn, Γ1, Rs1, H2, ⟨Rs3, rfl, j⟩, e2, l2, s2, k2⟩
  have w := wk Rs3 H2 G e2 s2.le k2 n
  by_cases hlt : n < Ps.length
  · obtain ⟨go, yl⟩ := w.1 _ (List.getElem?_eq_getElem hlt)
    refine .inr ⟨go, KJ M Z0 Z H1 (fun t Γ2 Rs2 => ∃ Rs3, Rs2 = Res.lst Zz q Ps :: Rs3 ∧ J t Γ2 Rs3) (n + 1), fun σ3 G3 h3 => ⟨_, by omega, rfl, hlt, h3⟩, fun y G3 yy => ?_⟩
    obtain ⟨H3, s3, hy⟩ := yl y G3 yy
    exact gv_name (Q := Ps[n]) _ σ' H3 _ (l2.ex s3.ex) s3.le hy _ fun σ4 l4 => hb n _ Γ1 Rs3 (List.getElem?_eq_getElem hlt) j H1 σ4 H3 _ l4 (s2.trans s3.of0) (e2.trans s3.ex) (k2.step0 s3)
  · have e := Nat.le_antisymm hn (Nat.le_of_not_lt hlt)
    subst e
    exact .inl ⟨w.2 rfl, hd Γ1 Rs3 j σ' H2 G l2 s2 ((b.trans s1.ex).trans e2) k2⟩
end
end LhX
/-! More of this kind: a, b = x, y where x changes what is at hand; a list of things at hand; an __init__ that raises, by one of many. -/
namespace LhX
open PySem L2 PySem.W PyProof.Rows PySem.Calls Lh
open Evl (Ex ex_l ex_t ex_rd fresh_back)
section
variable {M M' : Addr → Prop} {Γ : Ct} {Rs Rs' : List Res} {X : Cx} {Z0 Z Hl : Hp} {D : Ends} {rest : List Stmt} {a b e : Expr} {es : List Expr} {p pos pos' : Pos} {C : Addr} {x : Str} {W : WX} {K : Frag} {mg : Str → Option Value}
end
end LhX
/-! Objects of an own class compared by their own ==; isinstance of an own class. -/
namespace LhX
open PySem L2 PySem.W PyProof.Rows PySem.Calls Lh
open He (ba eqO eqO_ok)
/-- an own class as isinstance sees it -/
structure OwnC (K : Frag) (C : Addr) : Prop where
  at_ : findIn K (.ref C) "__class__" = some (some (.builtin "object.__class__"))
  gt : specialIn K (.builtin "object.__class__") "__get__" = some (some (.builtin "getset_descriptor.__get__"))
  tk : takesIn K (.builtin "object.__class__") = some true
  mr : mroIn K C (.type "object") = some true
  me : kitOne K (.ref C) (.ref C) = some true
  tup : kitOne K (.type "tuple") (.ref C) = some false
  nf : notFirst K C (.type "tuple") = true
def ownB (K : Frag) (C : Addr) : Bool := eqO (findIn K (.ref C) "__class__") (some (some (.builtin "object.__class__"))) && (eqO (specialIn K (.builtin "object.__class__") "__get__") (some (some (.builtin "getset_descriptor.__get__"))) && (decide (takesIn K (.builtin "object.__class__") = some true) && (decide (mroIn K C (.type "object") = some true) &&
  (decide (kitOne K (.ref C) (.ref C) = some true) && (decide (kitOne K (.type "tuple") (.ref C) = some false) && notFirst K C (.type "tuple"))))))
/-- x == y where x is an object with an own == -/
def rEqO (K : Frag) (C : Addr) (sp : Sp) (E : XK) : R2 := fun x y H Q => ∃ a dx fs t, x = .ref a ∧ H a = some (.ins C dx fs) ∧ TyX K H y t ∧ notFirst K C t = true ∧ sp [x, y] H (fun v H' => ∃ u, v = .bl u ∧ Q (.bl u) H') E
section
variable {M : Addr → Prop} {Γ : Ct} {Rs : List Res} {X : Cx} {K : Frag} {a b : Expr} {pos p : Pos} {C : Addr}
end
end LhX
/-! `l != []` of a list of things; a tuple of one thing again and again. -/
namespace LhX
open PySem PySem.Spec PyProof.Rows L2 Lh
open Evl (Ex ex_l ex_t ex_rd fresh_back)
section
variable {M : Addr → Prop} {Γ : Ct} {Rs : List Res} {X : Cx} {a b o : Expr} {pos : Pos}
end
end LhX
/-! A statement's expression out of sight: the elaborator else looks into what it does. -/
namespace LhX
open PySem L2 Lh
section
variable {M : Addr → Prop} {Γ : Ct} {Rs : List Res} {X : Cx} {Z0 Z Hl : Hp} {D : Ends} {rest body el : List Stmt} {tg iter e : Expr} {tgs es : List Expr} {pos : Pos} {k : Nat} {P : Pd} {Ps : List Pd}
end
end LhX
/-! Reading the last of a list at hand. -/
namespace LhX
open PySem L2 Lh
open Evl (Ex ex_l ex_t ex_rd fresh_back)
section
variable {M : Addr → Prop} {Γ : Ct} {Rs : List Res} {X : Cx} {Z : Hp} {o e : Expr} {pos : Pos}
end
end LhX
/-! Tuples of things that grow; tests and comprehensions that change what is at hand; objects made and kept at hand. -/
namespace LhX
open PySem L2 PySem.W PyProof.Rows PySem.Calls Lh
open LhL (tabR)
open Evl (Ex ex_l ex_t ex_rd fresh_back)
/-- a walk over what an expression gives that changes what is at hand -/
def XIC (M : Addr → Prop) (Γ : Ct) (Rs Rs' : List Res) (X : Cx) (tg iter : Expr) (Qs : List Pd) : Prop :=
  ∀ (σ : L2.St) (H0 H : Hp), Sl Γ σ H0 → Ex H0 H → Rok Rs H0 H → ∀ R : It → Hp → Prop, (∀ J H0' H', Lh.Step M H0 H H0' H' → Rok Rs' H0' H' → WkR J Qs Rs' H0' → R J H') → wpI X tg iter σ H R
/-- a test that changes what is at hand -/
def YTC (M : Addr → Prop) (Γ : Ct) (Rs Rs' : List Res) (t : TT) (B : Bool → Prop) : Prop := ∀ (σ : L2.St) (H0 H : Hp), Sl Γ σ H0 → Ex H0 H → Rok Rs H0 H → ∀ Q : Bool → Hp → Prop, (∀ b H0' H', Lh.Step M H0 H H0' H' → Rok Rs' H0' H' → B b → Q b H') → t σ H Q
abbrev XTC (M : Addr → Prop) (Γ : Ct) (Rs Rs' : List Res) (X : Cx) (e : Expr) (B : Bool → Prop) : Prop := YTC M Γ Rs Rs' (wpT X e) B
section
variable {M M' : Addr → Prop} {Γ Γ' : Ct} {Rs Rs' Rs2 R1 R1' : List Res} {X : Cx} {Z0 Z Hl : Hp} {D : Ends} {K : PySem.W.Frag} {rest : List Stmt} {a b c e o : Expr} {es : List Expr} {pos p : Pos} {q : Addr} {P : Pd}
theorem yc_lcR {tg iter : Expr} {j : Nat} {tt : TT} {te : TE} {Qs : List Pd} (hi : XIC M Γ Rs Rs' X tg iter Qs) (hz : Qs.length ≤ 100000) (R : Nat → List PyData → Prop) (r0 : R 0 [])
    (ht : ∀ (i : Nat) (Q : Pd), Qs[i]? = some Q → ∃ B, YT M0 ((wipeC Γ [j]).set j (some Q)) Rs' tt B ∧ (B true → YE M0 ((wipeC Γ [j]).set j (some Q)) Rs' te (PEx (fun d => ∀ ds, ds.length ≤ i → R i ds → R (i + 1) (ds ++ [d])) (PD K))) ∧ (B false → ∀ ds, R i ds → R (i + 1) ds)) :
    YC M Γ Rs Rs' (tLc (wpI X tg iter) (gName j) tt te [j]) (PEx (fun ds => R Qs.length ds ∧ ds.length ≤ Qs.length) fun ds => PD K (.list ds)) := fun σ H0 H l ex k Q q => hi σ H0 H l ex k _ fun J A0 G1 s1 k1 wk D hD => by
  have nr : ∀ r ∈ Rs', ∀ a ∈ r.ad, a ≠ D := fun r hr a ha e => by
    obtain ⟨⟨o, h1⟩, _⟩ := r.tr (k1.2 r hr) a ha
    rw [e, hD] at h1
    cases h1
  have nM : ¬ M0 D := fun z => z.elim
  refine ⟨fun i m G => m = Qs.length - i ∧ i ≤ Qs.length ∧ ∃ A acc ds, R i ds ∧ ds.length ≤ i ∧ Lh.Step M0 A0 G1 A G ∧ A D = none ∧ Rok Rs' A G ∧ G D = some (.lst acc) ∧ DdAll K A ds acc, ⟨_, rfl, Nat.zero_le _, A0, [], [], r0, Nat.le_refl _, ?_, fresh_back s1.le hD, k1.wr nr, upd_same, rfl⟩, ?_⟩
  · exact ⟨fun a o _ h => by rw [upd_ne (ne_of_none h hD)]; exact h, fun a o h => ⟨o, by rw [upd_ne (ne_of_none h hD)]; exact h⟩, Ex.refl _, fun a o h => by rw [upd_ne (ne_of_none (s1.le a o h) hD)]; exact s1.le a o h, fun a o h => .inl h⟩
  · rintro i m G ⟨rfl, hi', A, acc, ds, hR, hlen, s2, aD, k2, gD, hdd⟩
    have w := wk A G s2.ex s2.le k2 i
    by_cases hlt : i < Qs.length
    · have hq := List.getElem?_eq_getElem hlt
      obtain ⟨go, yl⟩ := w.1 _ hq
      obtain ⟨B, hB, hY, hN⟩ := ht i _ hq
      refine .inr ⟨go, fun G' => i + 1 ≤ Qs.length ∧ ∃ A acc ds, R (i + 1) ds ∧ ds.length ≤ i + 1 ∧ Lh.Step M0 A0 G1 A G' ∧ A D = none ∧ Rok Rs' A G' ∧ G' D = some (.lst acc) ∧ DdAll K A ds acc, fun G' h => ⟨Qs.length - (i + 1), by omega, rfl, h⟩, fun x G2 y => ?_⟩
      obtain ⟨A2, s3, hx⟩ := yl x G2 y
      refine ⟨by simp [L2.wipe, List.set_set], ?_⟩
      have s12 := s2.trans s3.of0
      have nw : ∀ {A' G' : Hp}, Lh.Step M0 A G A' G' → A' D = none := fun {A' G'} s => by
        cases e : A' D with
        | none => rfl
        | some o =>
          rcases s.nw D o e with z | z
          · rw [aD] at z
            cases z
          · rw [gD] at z
            cases z
      have lΓ : Sl ((wipeC Γ [j]).set j (some Qs[i])) ((L2.wipe σ [j]).set j (some x)) A2 := (((l.ex s1.ex).ex (s2.ex.trans s3.ex)).wipe [j]).set hx
      refine hB _ A2 G2 lΓ s3.le (k2.step0 s3) _ fun b A3 G3 s4 k4 hb => ?_
      cases b with
      | true =>
        refine hY hb _ A3 G3 (lΓ.ex s4.ex) s4.le k4 _ fun v A4 G4 s5 k5 ⟨d, hd, hv⟩ => ?_
        have s35 : Lh.Step M0 A G A4 G4 := (s3.of0.trans s4).trans s5
        have g4 : G4 D = some (.lst acc) := s35.un D _ nM gD
        refine ⟨acc, g4, ?_, hlt, A4, acc ++ [v], ds ++ [d], hd ds hlen hR, by simp; omega, ?_, nw s35, k5.wr nr, upd_same, DdAll.app (DdAll.ex s35.ex _ _ hdd) (DdAll.one hv)⟩
        · rw [hdd.len]
          have : (100000 : Nat) < sizeLine := by decide
          omega
        · have t := s2.trans s35
          refine ⟨fun a o hm h => ?_, fun a o h => ?_, t.ex, fun a o h => ?_, t.nw⟩
          · rw [upd_ne (ne_of_none h hD)]
            exact t.un a o hm h
          · obtain ⟨o', h'⟩ := t.th a o h
            exact ⟨o', by rw [upd_ne (ne_of_none h hD)]; exact h'⟩
          · have na : a ≠ D := fun e => by
              rw [e, nw s35] at h
              cases h
            rw [upd_ne na]
            exact t.le a o h
      | false =>
        have s34 : Lh.Step M0 A G A3 G3 := s3.of0.trans s4
        exact ⟨hlt, A3, acc, ds, hN hb ds hR, by omega, s2.trans s34, nw s34, k4, s34.un D _ nM gD, DdAll.ex s34.ex _ _ hdd⟩
    · have e : i = Qs.length := by omega
      subst e
      refine .inl ⟨w.2 rfl, q (.ref D) (upd A D (.lst acc)) G ?_ (k2.updA aD nr) ⟨ds, ⟨hR, hlen⟩, D, acc, rfl, upd_same, DdAll.ex (Ex.new aD) _ _ hdd⟩⟩
      have t := s1.trans s2.of0
      refine ⟨t.un, t.th, t.ex.trans (Ex.new aD), fun a o h => ?_, fun a o h => ?_⟩
      · by_cases ha : a = D
        · subst ha
          rw [upd_same] at h
          rw [gD]
          exact h
        · rw [upd_ne ha] at h
          exact t.le a o h
      · by_cases ha : a = D
        · subst ha
          refine .inr ?_
          cases e : H a with
          | none => rfl
          | some u =>
            obtain ⟨u', h'⟩ := s1.th a u e
            rw [hD] at h'
            cases h'
        · rw [upd_ne ha] at h
          exact t.nw a o h

/-- over a list that a call gives -/
theorem xic_list {tg : Expr} {ds : List PyData} (h : XC M Γ Rs Rs' X e (PD X.K (.list ds))) : XIC M Γ Rs Rs' X tg e (ds.map (PD X.K)) := fun σ H0 H l ex k R r => PI.wp (pi_list pe_wp) (h σ H0 H l ex k _ fun v H1 G1 s1 k1 ⟨a, xs, e1, h1, h2⟩ =>
  ⟨a, e1, ⟨xs, SqL.of (s1.le _ _ h1)⟩, r _ H1 G1 s1 k1 (fun A G e1 e2 k2 i => by
    have hq : G a = some (.lst xs) := e2 _ _ (e1 _ _ h1)
    have hd : DAll (ds.map (PD X.K)) xs A := (DdAll.da h2).ex e1
    refine ⟨fun Q hQ => ?_, fun e => ⟨xs, SqL.of hq, by rw [hd.1, e]; exact Nat.le_refl _⟩⟩
    obtain ⟨v, h3, h4⟩ := hd.2 i Q hQ
    refine ⟨⟨xs, v, SqL.of hq, h3⟩, fun x H' ⟨y1, y2⟩ => ?_⟩
    have e3 : x = v := Option.some.inj ((y2 xs (SqL.of hq)).symm.trans h3)
    subst e3 y1
    exact ⟨A, Lh.Step.rfl e2, h4⟩)⟩)
/-- [f(d) for d in e], e changes what is at hand -/
theorem xc_mapC {τ : Type} (enc : τ → PyData) (xs : List τ) (j : Nat) {x : Str} {elt iter : Expr} {scope : Scope} {xp : Pos} (f : τ → PyData) (hi : XC M Γ Rs Rs' X iter (PD X.K (.list (xs.map enc)))) (ht : ∀ d, d ∈ xs → Blk X scope fun Y => XE M0 (blkG Γ j (PD X.K (enc d))) Rs' Y elt (PD X.K (f d)))
    (hN : X.N.Nodup) (ok : BlkOk X.N X.env.scope scope [(x, j)]) (hz : xs.length ≤ 100000) (hg : BlkG X scope x xp j) (hc : X.calm = true := by rfl) (hs : ∀ x, foldedSetIterable iter X.env x = pure x := by intro _; rfl) :
    XC M Γ Rs Rs' X (.ListComp elt [⟨.Name x xp, iter, [], 0⟩] scope pos) (PD X.K (.list (xs.map f))) := by
  refine YC.wp (pe_lc (own := [(x, j)]) hc hN pi_wp ok hg (fun s H C cl fp => pts_nil) blk_ok hs) (YC.imp (yc_lcR (K := X.K) (xic_list hi) (by rw [List.length_map, List.length_map]; exact hz) (fun i es => es = (xs.take i).map f) rfl fun i Q hq => ?_) fun v H h => ?_)
  · obtain ⟨d', hd', e⟩ := map_at hq
    obtain ⟨d, hd, e2⟩ := enc_at hd'
    subst e e2
    refine ⟨Is true, yt_yes, fun _ => ye_blk fun s0 H0 C cl fp => YE.imp (ht d (List.mem_of_getElem? hd) s0 H0 C cl fp) fun v H h => ⟨f d, fun es _ he => ?_, h⟩, fun z => Bool.noConfusion z⟩
    have he' : es = (xs.take i).map f := he
    show es ++ [f d] = (xs.take (i + 1)).map f
    rw [he', List.take_add_one, hd]
    simp
  · obtain ⟨ds, ⟨h1, _⟩, hv⟩ := h
    rw [List.length_map, List.length_map, List.take_length] at h1
    subst h1
    exact hv
theorem YTC.wp {e : Expr} {B : Bool → Prop} {t : TT} (h : PT X e t) (y : YTC M Γ Rs Rs' t B) : XTC M Γ Rs Rs' X e B := fun σ H0 H l e k Q q => PT.wp h (y σ H0 H l e k Q q)
/-- a op b, a changes what is at hand -/
theorem xtc_cmp {op : CmpOp} {r : R2} {A B : Pd} {T : Bool → Prop} (ho : OpR X (compareOp op) r) (ha : XC M Γ Rs Rs' X a A) (hb : XE M Γ Rs' X b B)
    (hr : ∀ x y H0 H, A.p x H0 → B.p y H0 → Ex H0 H → Yld H0 H (PB K T) (r x y H)) (hm : behindInMarks op b = false) : XTC M Γ Rs Rs' X (.Compare a [op] [b] pos) T := YTC.wp (pt_cmpR ho pe_wp pe_wp hm) fun σ H0 H l e k Q q =>
  ha σ H0 H l e k _ fun x H1 G1 s1 k1 a1 => hb σ H1 G1 (l.ex s1.ex) s1.le k1 _ fun y H2 G2 s2 k2 b2 => hr x y H2 G2 (A.m s2.ex a1) b2 s2.le _ fun v H3 G3 s3 c3 => by
    obtain ⟨t, ht, hv⟩ := c3
    exact ⟨t, hv, q t H3 G3 ((s1.trans s2).trans s3.of0) (k2.step0 s3) ht⟩
theorem xtc_neI {i j : Int} (ha : XC M Γ Rs Rs' X a (PD K (.int i))) (hb : XE M Γ Rs' X b (PD K (.int j))) : XTC M Γ Rs Rs' X (.Compare a [.NotEq] [b] pos) (Is (!decide (i = j))) := xtc_cmp (K := K) op_ne ha hb (fun x y H0 H hx hy e => (yl_neI hx hy e).pb) (nomark _)
theorem xtc_gt {i j : Int} (ha : XC M Γ Rs Rs' X a (PD K (.int i))) (hb : XE M Γ Rs' X b (PD K (.int j))) : XTC M Γ Rs Rs' X (.Compare a [.Gt] [b] pos) (Is (decide (j < i))) := xtc_cmp (K := K) op_gt ha hb (fun x y H0 H hx hy e => (yl_I0 (g := fun i j => .bl (decide (j < i))) (d := .bool (decide (j < i))) (fun _ => rfl) hx hy e).pb) (nomark _)
theorem xtc_neD {d d' : PyData} {n : Nat} (hr : Room n X.A) (ha : XC M Γ Rs Rs' X a (PD X.K d)) (hb : XE M Γ Rs' X b (PD X.K d')) (hs : SeqAt.shaped d = true) (hs' : SeqAt.shaped d' = true) : XTC M Γ Rs Rs' X (.Compare a [.NotEq] [b] pos) (Is (!PyData.eqv d d')) := xtc_cmp (K := X.K) (op_neD (room_u hr)) ha hb (fun x y H0 H hx hy e => (yl_neD hs hs' hx hy e).pb) (nomark _)
/-- if c: (never), c changes what is at hand -/
theorem xs_skipT {B : Bool → Prop} {s1 : List Stmt} (hc : XTC M' Γ Rs Rs' X c B) (hM : ∀ a, M' a → M a ∨ Z a = Option.none) (hB : ∀ b, B b → b = false) (h : XS M Γ Rs' X Z0 Z Hl D rest) : XS M Γ Rs X Z0 Z Hl D (.If c s1 [] pos :: rest) :=
  xs_cons (ps_if pt_wp pss_wp pss_wp) fun σ H0 H l s b k => hc σ H0 H l s.le k _ fun d H1 G1 t1 k1 a1 => by
    have e := hB d a1
    subst e
    exact xs_then h σ H1 G1 (l.ex t1.ex) (s.into t1 hM) (b.trans t1.ex) k1
/-- a value dropped -/
theorem xs_exprC (he : XC M' Γ Rs Rs' X e P) (hM : ∀ a, M' a → M a ∨ Z a = Option.none) (h : XS M Γ Rs' X Z0 Z Hl D rest) (hs : swapsWith e Option.none pos.line X.env = pure false := by rfl) : XS M Γ Rs X Z0 Z Hl D (.Expr e pos :: rest) :=
  xs_cons (ps_expr pe_wp hs) fun σ H0 H l s b k => he σ H0 H l s.le k _ fun v H1 G1 s1 k1 a1 => h _ H1 G1 (l.ex s1.ex) (s.into s1 hM) (b.trans s1.ex) k1
/-! ### tuples of things -/
/-- (*t, e) -/
theorem xe_tupSP {Ps : List Pd} {kk : Nat} {sp : Pos} (h : XE M Γ Rs X a (PTs X.K Ps)) (h2 : XE M Γ Rs X b P) (hz : Ps.length ≤ 1000) (hs : starEach (.Starred a sp :: [b]) X.env = (true, eval a X.env) :: starEach [b] X.env := by rfl) (hs2 : starEach [b] X.env = (false, eval b X.env) :: starEach [] X.env := by rfl) :
    XE M Γ Rs X (.Tuple [.Starred a sp, b] kk pos) (PTs X.K (Ps ++ [P])) :=
  YE.wp (pe_tup (StX.pa_star pe_wp (pa_cons pe_wp pa_nil hs2) hs)) fun σ H0 H l e k Q q => h σ H0 H l e k _ fun v H1 G1 s1 k1 ⟨t, xs, e1, g1, g2⟩ => by
    refine ⟨t, xs, e1, .inl (ex_t s1.le g1), h2 σ H1 G1 (l.ex s1.ex) s1.le k1 _ fun y H2 G2 s2 k2 hy => ?_⟩
    refine ⟨by rw [List.length_append, g2.1]; exact Nat.le_trans (show Ps.length + 1 ≤ 1001 by omega) (by decide), fun p hp => ?_⟩
    have s := s1.trans s2
    exact q _ (upd H2 p (.tup (xs ++ [y]))) _ (s.trans (Lh.Step.new s.le hp)) (k2.step0 (Lh.Step.new s.le hp)) ⟨p, _, rfl, SqT.of upd_same, ((g2.ex s2.ex).app (DAll.cons hy DAll.nil)).ex (Ex.new (fresh_back s.le hp))⟩
/-- t[-1] -/
theorem xe_lastP {Ps : List Pd} (ha : XE M Γ Rs X a (PTs X.K (Ps ++ [P]))) (hb : XE M Γ Rs X b (PD X.K (.int (-1)))) (hs : PlainIx b := by exact fun _ _ => rfl) : XE M Γ Rs X (.Subscript a b pos) P :=
  YE.wp (pe_ix ix_tup pe_wp pe_wp hs) (ye_op ha hb fun x y H0 H hx hy e _ => by
    obtain ⟨t, xs, ex, h1, h2⟩ := hx
    obtain ⟨v, q1, q2⟩ := h2.2 Ps.length P (by simp)
    have hl : xs.length = Ps.length + 1 := by
      have := h2.1
      rw [List.length_append] at this
      exact this
    have hne : xs ≠ [] := fun z => by
      rw [z] at hl
      cases hl
    have hv : xs.getLast hne = v := by
      rw [List.getLast_eq_getElem]
      have h := List.getElem?_eq_some_iff.mp q1
      obtain ⟨h1, h2⟩ := h
      simp only [hl, Nat.add_sub_cancel]
      exact h2
    have ea : atI xs (-1) = some v := by
      have h := atI_last xs.dropLast (xs.getLast hne)
      rw [List.dropLast_concat_getLast hne, hv] at h
      exact h
    exact Yld.val (z := v) e q2 fun Q q => ⟨t, xs, -1, v, ex, hy, ex_t e h1, ea, q⟩)
/-- l[i] = e, l at hand -/
theorem xs_itmM {Ps : List Pd} {ix : Expr} {ps : Pos} {k : Nat} (hk : k < Ps.length) (he : XE M Γ (Res.lst Z q Ps :: Rs) X e P) (ho : XE M Γ (Res.lst Z q Ps :: Rs) X o (PV (.ref q))) (hix : XE M Γ (Res.lst Z q Ps :: Rs) X ix (PD X.K (.int (k : Nat))))
    (h : XS M Γ (Res.lst Z q (Ps.set k P) :: Rs) X Z0 Z Hl D rest) (hs : swapsWith e (some (.Subscript o ix ps)) pos.line X.env = pure false := by rfl)
    (hw : swapsWithSole [.Subscript o ix ps] e pos.line X.env = pure false := by rfl) (hw2 : swappedStores [.Subscript o ix ps] e X.env = pure Option.none := by rfl)
    (h1 : (assignEach [.Subscript o ix ps] X.env).map (·.2) = [assign (.Subscript o ix ps) X.env] := by rfl)
    (hsub : ∀ v, assign (.Subscript o ix ps) X.env v = (do
      let ov ← holding [v] (eval o X.env)
      let iv ← holding [v, ov] (eval ix X.env)
      standAt ps
      holding [v, ov, iv] (setItem ov iv v)
      release [v, ov, iv] []) := by intro _; rfl) :
    XS M Γ (Res.lst Z q Ps :: Rs) X Z0 Z Hl D (.Assign [.Subscript o ix ps] e pos :: rest) :=
  xs_cons (ps_asg pe_wp (pg_sub pe_wp pe_wp set_list hsub) hw hw2 h1) fun σ H0 H l s b r => he σ H0 H l s.le r _ fun v H1 G1 s1 k1 hv => by
    refine ho _ H1 G1 (l.ex s1.ex) s1.le k1 _ fun o' H2 G2 s2 k2 ho' => hix _ H2 G2 ((l.ex s1.ex).ex s2.ex) s2.le k2 _ fun i' H3 G3 s3 k3 hi' => ?_
    have eo : o' = .ref q := ho'
    have ei : i' = .int (k : Nat) := hi'
    subst eo ei
    obtain ⟨hz0, h0, xs3, hq3, hd3⟩ := k3.2 _ List.mem_cons_self
    refine ⟨q, xs3, (k : Nat), k, rfl, rfl, hq3, Evl.ixN_nat (by rw [hd3.1]; exact hk), ?_⟩
    have tt := ((s.trans s1).trans s2).trans s3
    obtain ⟨t4, k4⟩ := lst_wr tt k3 (DAll.set hd3 k (P.m (s2.ex.trans s3.ex) hv))
    exact h _ H3 _ (((l.ex s1.ex).ex s2.ex).ex s3.ex) t4 (((b.trans s1.ex).trans s2.ex).trans s3.ex) k4
end
/-! ### objects made and kept at hand -/
section
variable {M : Addr → Prop} {Γ : Ct} {Rs : List Res} {X : Cx} {Z0 Z Hl : Hp} {D : Ends} {K : PySem.W.Frag} {mg : Str → Option Value} {rest : List Stmt} {a b e : Expr} {es : List Expr} {pos p : Pos} {C : Addr}
/-- what is behind the making -/
theorem made_core {o dx : Addr} {Rn : List Res} {H0 H G1 H1 G2 H2 : Hp} (ho : G1 o = Option.none) (hd : G1 dx = Option.none) (s1 : Lh.Step M H0 H H1 G1) (k1 : Rok Rs H1 G1) (s2 : Lh.Step (MX o) H1 (upd (upd G1 dx (.own o)) o (.ins C dx [])) H2 G2) (k2 : Rok Rn H2 G2) (hA : ∀ c ∈ Rn.flatMap Res.ad, G1 c = Option.none) :
    Lh.Step M H0 H H2 G2 ∧ Rok (Rn ++ Rs) H2 G2 := by
  have old : ∀ {a : Addr} {u : HO}, G1 a = some u → a ≠ o ∧ a ≠ dx := fun {a u} h => ⟨ne_of_none h ho, ne_of_none h hd⟩
  have ks : ∀ {a : Addr} {u : HO}, G1 a = some u → upd (upd G1 dx (.own o)) o (.ins C dx []) a = some u := fun {a u} h => by
    rw [upd_ne (old h).1, upd_ne (old h).2]
    exact h
  have ne : ∀ r ∈ Rs, ∀ a ∈ r.ad, a ≠ o := fun r hr a ha e => by
    obtain ⟨⟨u, h⟩, _⟩ := r.tr (k1.2 r hr) a ha
    exact (old h).1 e
  have nd : ∀ r ∈ Rs, ∀ a ∈ r.ad, a ≠ dx := fun r hr a ha e => by
    obtain ⟨⟨u, h⟩, _⟩ := r.tr (k1.2 r hr) a ha
    exact (old h).2 e
  have k1' : Rok Rs H1 (upd (upd G1 dx (.own o)) o (.ins C dx [])) := (k1.wr nd).wr ne
  have k2' : Rok Rs H2 G2 := k1'.step s2 fun r hr a ha hm => ne r hr a ha hm
  refine ⟨⟨fun a u hm h => s2.un a u (fun z => (old (s1.un a u hm h)).1 z) (ks (s1.un a u hm h)), fun a u h => by
      obtain ⟨u', h'⟩ := s1.th a u h
      exact s2.th a u' (ks h'), s1.ex.trans s2.ex, s2.le, fun a u h => by
      rcases s2.nw a u h with z | z
      · exact s1.nw a u z
      · refine .inr ?_
        cases hz : H a with
        | none => rfl
        | some w =>
          obtain ⟨w', hw⟩ := s1.th a w hz
          rw [ks hw] at z
          cases z⟩, ?_, fun r hr => ?_⟩
  · rw [List.flatMap_append, List.nodup_append]
    refine ⟨k2.1, k2'.1, ?_⟩
    intro c hc c' hc' e
    subst e
    obtain ⟨r, hr, hcr⟩ := List.mem_flatMap.mp hc'
    obtain ⟨⟨u, h⟩, _⟩ := r.tr (k1.2 r hr) c hcr
    rw [hA c hc] at h
    cases h
  · rcases List.mem_append.mp hr with h | h
    · exact k2.2 r h
    · exact k2'.2 r h
theorem ob_obj {x dx : Addr} {fs : List (Str × Pd)} {H0 H : Hp} (k : Rok (Res.ob C x dx fs :: Rs) H0 H) (h : fs.length ≤ 100) : Rok (Res.obj C x dx fs :: Rs) H0 H := ⟨k.1, fun r hr => by
  rcases List.mem_cons.mp hr with e | hr
  · subst e
    obtain ⟨h1, vs, h2, h3, h4⟩ := k.2 _ List.mem_cons_self
    exact ⟨h1, vs, h2, h3, Nat.le_trans h4 h⟩
  · exact k.2 _ (List.mem_cons_of_mem _ hr)⟩
/-- C(e, ..), what is made stays at hand -/
def YM (M : Addr → Prop) (Γ : Ct) (Rs : List Res) (t : TE) (Rn : Addr → Addr → Addr → List Res) : Prop := ∀ (σ : L2.St) (H0 H : Hp), Sl Γ σ H0 → Ex H0 H → Rok Rs H0 H → ∀ Q : VK, (∀ x dx q H0' H', H x = Option.none → H q = Option.none → Lh.Step M H0 H H0' H' → Rok (Rn x dx q ++ Rs) H0' H' → Q (.ref x) H') → t σ H Q
theorem none_of {M : Addr → Prop} {H0 H H0' H' : Hp} (s : Lh.Step M H0 H H0' H') {a : Addr} (h : H' a = Option.none) : H a = Option.none := by
  cases hz : H a with
  | none => rfl
  | some u =>
    obtain ⟨u', hu⟩ := s.th a u hz
    rw [h] at hu
    cases hu
theorem ym_O {P' : Program} {w' : World} {base' : Heap} {α : Type} {pre : α → List Pd} {R : α → Addr → Addr → Addr → List Res} {cn : Str} {f : Addr} {fd : FuncData} {ps : List Str} {n : Nat} {Ps : List Pd} (MK : Mk K C f) (F : FnOk P' w' K mg base' L2.CX0 n f fd ps (SpIO C pre R)) (y : α) (hr : Room (n + 1) X.A) (hm : mg cn = some (.ref C)) (hb : Binds K fd ps [])
    (ha : XA M Γ Rs X (e :: es) Ps) (hx : pre y = Ps) (hA : ∀ x dx q, (R y x dx q).flatMap Res.ad = [x, q]) (hg : Gl X cn := by rfl) (hdb : (cn == ("__debug__" : Str)) = false := by decide) (hst : starEach (e :: es) X.env = (false, eval e X.env) :: starEach es X.env := by rfl) (hpl : (backTo pos (starEach es X.env)).any (·.1) = false := by rfl)
    (eP : X.prog = P' := by rfl) (ew : X.w = w' := by rfl) (eK : X.K = K := by rfl) (em : X.mg = mg := by rfl) (eb : X.base = base' := by rfl) : YM M Γ Rs (wpE X (.Call (.Name cn p) (e :: es) [] pos)) (R y) := by
  subst eP ew eK em eb
  refine fun σ H0 H l ex k Q qq => PE.wp (pe_make MK F hr hg hm hb (dvs := []) .nil pass0 pa_wp hdb hst hpl) (ha σ H0 H l ex k _ fun vs H1 G1 s1 k1 a1 o dx ho hd hne => ?_)
  refine ⟨y, o, dx, H1, vs, by rw [List.append_nil], fun a u h => by rw [upd_ne (ne_of_none (s1.le a u h) ho), upd_ne (ne_of_none (s1.le a u h) hd)]; exact s1.le a u h, ⟨by simp [Res.ob], fun r hr => ?_⟩, by rw [hx]; exact a1, fun q H2 G2 hq0 s2 k2 => ⟨rfl, ?_⟩⟩
  · have e1 : r = Res.ob C o dx [] := by simpa using hr
    subst e1
    exact ⟨fresh_back s1.le ho, [], upd_same, fun f => ⟨fun P z => (by cases z), fun _ => rfl⟩, Nat.le_refl _⟩
  · have hqo : q ≠ o := fun e => by
      rw [e, upd_same] at hq0
      cases hq0
    have hqd : q ≠ dx := fun e => by
      have hne' : dx ≠ o := fun z => by
        first | exact hne z | exact hne z.symm
      rw [e, upd_ne hne', upd_same] at hq0
      cases hq0
    have hqG : G1 q = Option.none := by
      rw [upd_ne hqo, upd_ne hqd] at hq0
      exact hq0
    obtain ⟨t, k3⟩ := made_core ho hd s1 k1 s2 k2 (fun c hc => by
      rw [hA] at hc
      have hc' : c = o ∨ c = q := by simpa using hc
      rcases hc' with e | e
      · rw [e]; exact ho
      · rw [e]; exact hqG)
    exact qq o dx q H2 G2 (none_of s1 ho) (none_of s1 hqG) t k3
theorem ym_I {P' : Program} {w' : World} {base' : Heap} {α : Type} {pre : α → List Pd} {fs : α → List (Str × Pd)} {cn : Str} {f : Addr} {fd : FuncData} {ps : List Str} {n : Nat} {Ps : List Pd} (MK : Mk K C f) (F : FnOk P' w' K mg base' L2.CX0 n f fd ps (SpI C pre fs)) (y : α) (hr : Room (n + 1) X.A) (hm : mg cn = some (.ref C)) (hb : Binds K fd ps [])
    (ha : XA M Γ Rs X (e :: es) Ps) (hx : pre y = Ps) (h100 : (fs y).length ≤ 100) (hg : Gl X cn := by rfl) (hdb : (cn == ("__debug__" : Str)) = false := by decide) (hst : starEach (e :: es) X.env = (false, eval e X.env) :: starEach es X.env := by rfl) (hpl : (backTo pos (starEach es X.env)).any (·.1) = false := by rfl)
    (eP : X.prog = P' := by rfl) (ew : X.w = w' := by rfl) (eK : X.K = K := by rfl) (em : X.mg = mg := by rfl) (eb : X.base = base' := by rfl) : YM M Γ Rs (wpE X (.Call (.Name cn p) (e :: es) [] pos)) (fun x dx _ => [Res.obj C x dx (fs y)]) := by
  subst eP ew eK em eb
  refine fun σ H0 H l ex k Q qq => PE.wp (pe_make MK F hr hg hm hb (dvs := []) .nil pass0 pa_wp hdb hst hpl) (ha σ H0 H l ex k _ fun vs H1 G1 s1 k1 a1 o dx ho hd hne => ?_)
  refine ⟨y, o, dx, H1, vs, by rw [List.append_nil], fun a u h => by rw [upd_ne (ne_of_none (s1.le a u h) ho), upd_ne (ne_of_none (s1.le a u h) hd)]; exact s1.le a u h, ⟨by simp [Res.ob], fun r hr => ?_⟩, by rw [hx]; exact a1, fun H2 G2 s2 k2 => ⟨rfl, ?_⟩⟩
  · have e1 : r = Res.ob C o dx [] := by simpa using hr
    subst e1
    exact ⟨fresh_back s1.le ho, [], upd_same, fun f => ⟨fun P z => (by cases z), fun _ => rfl⟩, Nat.le_refl _⟩
  · obtain ⟨t, k3⟩ := made_core ho hd s1 k1 s2 (ob_obj k2 h100) (fun c hc => by
      have e : c = o := by simpa [Res.obj] using hc
      rw [e]; exact ho)
    exact qq o dx o H2 G2 (none_of s1 ho) (none_of s1 ho) t k3
/-- x = C(e, ..) -/
theorem xs_asgMk (i : Nat) {Rn : Addr → Addr → Addr → List Res} {x : Str} {pos' : Pos} (he : YM M Γ Rs (wpE X e) Rn) (h : ∀ o dx q, Z o = Option.none → Z q = Option.none → XS M (Γ.set i (some (PV (.ref o)))) (Rn o dx q ++ Rs) X Z0 Z Hl D rest) (hN : X.N.Nodup) (hi : X.N[i]? = some x := by rfl) (hx : Loc X.env.scope x := by first | exact Or.inl rfl | exact Or.inr rfl)
    (hs : swapsWith e (some (.Name x pos')) pos.line X.env = pure false := by rfl) (hf : X.fn x = true ∨ X.env.scope.names.lookup x = some .local := by first | exact .inl rfl | exact .inr rfl) : XS M Γ Rs X Z0 Z Hl D (.Assign [.Name x pos'] e pos :: rest) :=
  xs_cons (ps_set hN hi hx pe_wp hs hf) fun σ H0 H l s b k => he σ H0 H l s.le k _ fun o dx q H1 G1 ho hq s1 k1 => h o dx q (none_of s ho) (none_of s hq) _ H1 G1 ((l.ex s1.ex).set (P := PV (.ref o)) rfl) (s.trans s1) (b.trans s1.ex) k1
/-- x, y = C(..), C(..) -/
theorem xs_parMk (i j : Nat) {Rn : Addr → Addr → Addr → List Res} {R2 : Addr → Addr → Addr → List Res} {x y : Str} {px py pt : Pos} {kt k2 pt2} (he : YM M Γ Rs (wpE X a) Rn) (he2 : ∀ o dx q, YM M Γ (Rn o dx q ++ Rs) (wpE X b) R2)
    (h : ∀ o dx q o2 dx2 q2, Z o = Option.none → Z q = Option.none → Z o2 = Option.none → Z q2 = Option.none → XS M ((Γ.set i (some (PV (.ref o)))).set j (some (PV (.ref o2)))) (R2 o2 dx2 q2 ++ (Rn o dx q ++ Rs)) X Z0 Z Hl D rest) (hN : X.N.Nodup) (hc : X.calm = true := by rfl) (hi : X.N[i]? = some x := by rfl) (hj : X.N[j]? = some y := by rfl) (hij : i ≠ j := by decide)
    (hx : X.env.scope.names.lookup x = some .local := by rfl) (hy : X.env.scope.names.lookup y = some .local := by rfl) (hw : swappedStores [.Tuple [.Name x px, .Name y py] kt pt] (.Tuple [a, b] k2 pt2) X.env = pure (some [x, y]) := by rfl)
    (hs : swapsWithSole [.Tuple [.Name x px, .Name y py] kt pt] (.Tuple [a, b] k2 pt2) pos.line X.env = pure false := by rfl) (hea : starEach [a, b] X.env = (false, eval a X.env) :: starEach [b] X.env := by rfl) (heb : starEach [b] X.env = (false, eval b X.env) :: starEach [] X.env := by rfl) : XS M Γ Rs X Z0 Z Hl D (.Assign [.Tuple [.Name x px, .Name y py] kt pt] (.Tuple [a, b] k2 pt2) pos :: rest) :=
  xs_cons (ps_par hc hN hi hj hij hx hy (pa_cons pe_wp (pa_cons pe_wp pa_nil heb) hea) hw hs) fun σ H0 H l s b0 k => he σ H0 H l s.le k _ fun o dx q H1 G1 ho hq s1 k1 => he2 o dx q σ H1 G1 (l.ex s1.ex) s1.le k1 _ fun o2 dx2 q2 H2 G2 ho2 hq2 s2 k2 =>
    ⟨.ref o, .ref o2, rfl, h o dx q o2 dx2 q2 (none_of s ho) (none_of s hq) (none_of (s.trans s1) ho2) (none_of (s.trans s1) hq2) _ H2 G2 ((((l.ex s1.ex).ex s2.ex).set (P := PV (.ref o)) rfl).set (P := PV (.ref o2)) rfl) ((s.trans s1).trans s2) ((b0.trans s1.ex).trans s2.ex) k2⟩
end
end LhX
namespace K61
open PySem L2 Lh LhX
open LhL (ltK tabR LamP)
/-! ### what is known behind some rows -/
structure KnS where
  rows : List Row
  st : List Int
  ls : List (List (List Int))
abbrev rowsT (rows : List Row) : PyData := .tuple (rows.map fun r => .tuple r.ds)
abbrev knF (K : PySem.W.Frag) (n : Nat) (s : KnS) : List (Str × Pd) := [("numbers", PD K (eLL (thrGs n s.st s.ls (s.ls.length + 1)))), ("links", PD K (eLLT s.ls)), ("start", PD K (.tuple (li s.st))), ("rows", PD K (rowsT s.rows))]
abbrev PKn (K : PySem.W.Frag) (C : Addr) (n : Nat) (s : KnS) : Pd := PObj C (knF K n s)
structure KnOk (g : List Int) (s : KnS) : Prop where
  ls : LsOk (g.length + 1) s.ls
  len : s.rows.length = s.ls.length
  st : s.st.length ≤ 10
theorem thr_at {n t : Nat} {st : List Int} {ls : List (List (List Int))} (h : t ≤ ls.length) : atI ((thrGs n st ls (ls.length + 1)).map eL) (t : Int) = some (eL (thrG n st ls t)) := by
  refine atI_nat ?_
  unfold thrGs
  rw [List.getElem?_map, List.getElem?_map, List.getElem?_range (by omega)]
  rfl
theorem rg_snoc {n : Nat} : rgI 0 (n + 1) = rgI 0 n ++ [(n : Int)] := by
  unfold rgI
  rw [List.range_succ, List.map_append]
  simp
def rowL (g b : List Int) (r : Row) : List (List Int) := (rgI 0 (g.length + 1)).map fun f => nextF g b r f
/-- one more row -/
def KnS.more (g b : List Int) (s : KnS) (r : Row) : KnS := ⟨s.rows ++ [r], s.st, s.ls ++ [rowL g b r]⟩
def restrM (fl : List Int) (l : List (List Int)) : List (List Int) := l.map fun es => es.filter fun e => decide (e ∈ fl)
/-- told of some floors at a moment -/
def KnS.with (s : KnS) (m : Nat) (fl : List Int) : KnS := ⟨s.rows, if m = 0 then s.st.filter (fun f => decide (f ∈ fl)) else s.st, if m = 0 then s.ls else s.ls.set (m - 1) (restrM fl (s.ls.getD (m - 1) []))⟩
def KnS.tot (g : List Int) (s : KnS) : Int := totG (g.length + 1) s.st s.ls
theorem KnOk.more {g b : List Int} {s : KnS} {r : Row} (h : KnOk g s) (hz : s.ls.length < 1000) : KnOk g (s.more g b r) where
  ls := ⟨h.ls.ten, by
    show (s.ls ++ [rowL g b r]).length ≤ 1000
    rw [List.length_append]
    simp
    omega, fun l hl => by
    have hl' : l ∈ s.ls ++ [rowL g b r] := hl
    rcases List.mem_append.mp hl' with q | q
    · exact h.ls.wide l q
    · rw [List.mem_singleton.mp q]
      unfold rowL
      rw [List.length_map, rgI_len], fun l hl => by
    have hl' : l ∈ s.ls ++ [rowL g b r] := hl
    rcases List.mem_append.mp hl' with q | q
    · exact h.ls.subs l q
    · rw [List.mem_singleton.mp q]
      intro es he
      obtain ⟨f, hf, rfl⟩ := List.mem_map.mp he
      exact nextF_sub (fl_in hf)⟩
  len := by
    show (s.rows ++ [r]).length = (s.ls ++ [rowL g b r]).length
    rw [List.length_append, List.length_append, h.len]
    rfl
  st := h.st
theorem KnOk.with {g : List Int} {s : KnS} {m : Nat} {fl : List Int} (h : KnOk g s) (hm : m ≤ s.ls.length) : KnOk g (s.with m fl) := by
  by_cases e : m = 0
  · subst e
    exact ⟨h.ls, h.len, Nat.le_trans (List.length_filter_le _ _) h.st⟩
  · have hk : m - 1 < s.ls.length := by omega
    have hg : s.ls.getD (m - 1) [] ∈ s.ls := by
      rw [List.getD_eq_getElem?_getD, List.getElem?_eq_getElem hk]
      exact List.getElem_mem _
    have el : (s.with m fl).ls = s.ls.set (m - 1) (restrM fl (s.ls.getD (m - 1) [])) := if_neg e
    have es : (s.with m fl).st = s.st := if_neg e
    refine ⟨⟨h.ls.ten, ?_, ?_, ?_⟩, ?_, ?_⟩
    · rw [el, List.length_set]
      exact h.ls.size
    · rw [el]
      intro l hl
      rcases List.mem_or_eq_of_mem_set hl with q | q
      · exact h.ls.wide l q
      · rw [q]
        unfold restrM
        rw [List.length_map]
        exact h.ls.wide _ hg
    · rw [el]
      intro l hl
      rcases List.mem_or_eq_of_mem_set hl with q | q
      · exact h.ls.subs l q
      · rw [q]
        intro es2 he
        obtain ⟨es3, he3, rfl⟩ := List.mem_map.mp he
        exact List.filter_sublist.trans (h.ls.subs _ hg es3 he3)
    · rw [el, List.length_set]
      exact h.len
    · rw [es]
      exact h.st
section
variable {K : PySem.W.Frag} {mg : Str → Option Value} {base : Heap} {P : Program} {w : World}
abbrev spKn (K : PySem.W.Frag) (CH CK : Addr) : Sp := SpI CK (α := { p : (List Int × List Int) × KnS // KnOk p.1.1 p.2 }) (fun p => [PHo K CH p.1.1.1 p.1.1.2, PD K (rowsT p.1.2.rows), PD K (.tuple (li p.1.2.st)), PD K (eLLT p.1.2.ls)]) (fun p => knF K (p.1.1.1.length + 1) p.1.2)
theorem ok_Known_init (T : Txt K mg) : FnOk P w K mg base CX0 8 T.f_Known_init T.d_Known_init ["self", "house", "rows", "start", "links"] (spKn K T.C_House T.C_Known) := by
  refine fn_I T.F_Known_init sc_Known_init (fun _ => rfl) fun ⟨⟨⟨g, b⟩, s⟩, hk⟩ o dx Z0 Z Q X qX hZ hQ => ?_
  obtain ⟨cdv, A, outer, sh, E, rfl, hr⟩ := qX
  have hk' : KnOk g s := hk
  refine xs_fld (xe_var 0) (xe_var 2) T.c_Known T.a_Knownrows (by simp) rfl (fun _ _ _ _ => hZ) ?_
  refine xs_fld (xe_var 0) (xe_var 3) T.c_Known T.a_Knownstart (by simp) rfl (fun _ _ _ _ => hZ) ?_
  refine xs_fld (xe_var 0) (xe_var 4) T.c_Known T.a_Knownlinks (by simp) rfl (fun _ _ _ _ => hZ) ?_
  refine xs_fld (xe_var 0) (xe_callD (ok_numbers_through T) ⟨((g, b), s.st, s.ls), hk'.ls⟩ (hr.mono (by decide)) T.g_numbers_through T.F_numbers_through.kp T.b_numbers_through (xa_cons (xe_var 1) (xa_cons (xe_var 3) (xa_1 (xe_var 4))))) T.c_Known T.a_Knownnumbers (by simp) rfl (fun _ _ _ _ => hZ) ?_
  exact xs_nil fun σ H0 H l s b k => hQ _ _ s k
abbrev spWn (K : PySem.W.Frag) (CK : Addr) : Sp := SpP (α := Nat × KnS) (fun p => [PKn K CK p.1 p.2]) (fun p => PD K (.int (totG p.1 p.2.st p.2.ls)))
theorem ok_way_number_of (T : Txt K mg) : FnOk P w K mg base CX0 1 T.f_way_number_of T.d_way_number_of ["known"] (spWn K T.C_Known) := by
  refine fn_F T.F_way_number_of sc_way_number_of (fun _ => rfl) fun ⟨n, s⟩ Z0 Z Q X qX hQ => ?_
  obtain ⟨cdv, A, outer, sh, E, rfl, hr⟩ := qX
  refine xs_ret (xe_sumL T.z_sum (xe_ixL (xe_fld (xe_var 0) rfl T.c_Known T.a_Knownnumbers) xe_int (thr_at (t := 0) (Nat.zero_le _)))) fun v H0 H s k hv => hQ v H0 H s k hv
abbrev spPos (K : PySem.W.Frag) (CK : Addr) : Sp := SpP (α := { p : Nat × KnS // ¬ totG p.1 p.2.st p.2.ls = 0 }) (fun p => [PKn K CK p.1.1 p.1.2]) (fun p => PKn K CK p.1.1 p.1.2)
theorem ok_possible (T : Txt K mg) : FnOk P w K mg base CX0 2 T.f_possible T.d_possible ["known"] (spPos K T.C_Known) := by
  refine fn_F T.F_possible sc_possible (fun _ => rfl) fun ⟨⟨n, s⟩, hp⟩ Z0 Z Q X qX hQ => ?_
  obtain ⟨cdv, A, outer, sh, E, rfl, hr⟩ := qX
  have hp' : ¬ totG n s.st s.ls = 0 := hp
  refine xs_skip (YT.eq (xt_eqI (K := K) (xe_callD (ok_way_number_of T) (n, s) (hr.mono (by decide)) T.g_way_number_of T.F_way_number_of.kp T.b_way_number_of (xa_1 (xe_var 0))) xe_int) (by simpa using hp')) ?_
  exact xs_ret (xe_var 0) fun v H0 H s k hv => hQ v H0 H s k hv
abbrev spFlOf (K : PySem.W.Frag) (CK : Addr) : Sp := SpP (α := { p : (Nat × KnS) × Nat // p.2 ≤ p.1.2.ls.length ∧ p.1.1 ≤ 10 }) (fun p => [PKn K CK p.1.1.1 p.1.1.2, PD K (.int (p.1.2 : Nat))]) (fun p => PD K (.list (li (flG p.1.1.1 p.1.1.2.st p.1.1.2.ls p.1.2))))
theorem ok_floors_of (T : Txt K mg) : FnOk P w K mg base CX0 1 T.f_floors_of T.d_floors_of ["known", "moment"] (spFlOf K T.C_Known) := by
  refine fn_F T.F_floors_of sc_floors_of (fun _ => rfl) fun ⟨⟨⟨n, s⟩, m⟩, hm, hn⟩ Z0 Z Q X qX hQ => ?_
  obtain ⟨cdv, A, outer, sh, E, rfl, hr⟩ := qX
  have hm' : m ≤ s.ls.length := hm
  have hn' : n ≤ 10 := hn
  have hlen : (thrG n s.st s.ls m).length = n := thrG_len
  have hz : ((List.range (li (thrG n s.st s.ls m)).length).zipWith (fun i d => PT2 K (PD K (.int (i : Nat))) (PD K d)) (li (thrG n s.st s.ls m))).length = n := by
    rw [List.length_zipWith, List.length_range, List.length_map, hlen]
    omega
  refine xs_ret (YE.imp (xe_lcPIf (K := K) 2 3 (by decide) (xi_enum T.z_enumerate (xe_ixL (xe_fld (xe_var 0) rfl T.c_Known T.a_Knownnumbers) (xe_var 1) (thr_at hm'))) (fun i ds => ds = li ((rgI 0 i).filter fun f => decide (0 < gtI (thrG n s.st s.ls m) f))) rfl (fun i Qi hqi => ?_) sc_floors_of.nd (blkOk_by rfl) (hz ▸ (show n ≤ 100000 by omega)) cov0 (fun _ _ _ _ _ => pg_tup rfl (pgs_cons (pg_name (i := 2) sc_floors_of.nd rfl (Or.inl rfl)) (pgs_cons (pg_name (i := 3) sc_floors_of.nd rfl (Or.inl rfl)) pgs_nil)))) fun v H h => ?_) fun v H0 H s k hv => hQ v H0 H s k hv
  · rw [List.getElem?_zipWith] at hqi
    cases hd : (li (thrG n s.st s.ls m))[i]? with
    | none =>
      rw [hd] at hqi
      cases h0 : (List.range (li (thrG n s.st s.ls m)).length)[i]? <;> rw [h0] at hqi <;> cases hqi
    | some d =>
      have hi : i < (li (thrG n s.st s.ls m)).length := (List.getElem?_eq_some_iff.mp hd).1
      rw [hd, List.getElem?_range hi] at hqi
      obtain ⟨k, hk, rfl⟩ := li_at hd
      have e : gtI (thrG n s.st s.ls m) (i : Int) = k := by
        unfold gtI
        rw [List.getD_eq_getElem?_getD, Int.toNat_natCast, hk]
        rfl
      refine ⟨_, _, (Option.some.inj hqi).symm, Is (decide (0 < k)), fun s0 H0 C cl fp => xt_gt (K := K) (xe_var 3) xe_int, fun hb s0 H0 C cl fp => YE.imp (xe_var 2) fun v H h => ⟨_, fun ds _ e2 => ?_, h⟩, fun hb ds e2 => ?_⟩
      · have hb' : true = decide (0 < k) := hb
        have e3 : ds = li ((rgI 0 i).filter fun f => decide (0 < gtI (thrG n s.st s.ls m) f)) := e2
        show ds ++ [PyData.int (i : Int)] = li ((rgI 0 (i + 1)).filter fun f => decide (0 < gtI (thrG n s.st s.ls m) f))
        rw [e3, rg_snoc, List.filter_append, List.filter_cons, e, ← hb', if_pos rfl]
        simp [li]
      · have hb' : false = decide (0 < k) := hb
        have e3 : ds = li ((rgI 0 i).filter fun f => decide (0 < gtI (thrG n s.st s.ls m) f)) := e2
        show ds = li ((rgI 0 (i + 1)).filter fun f => decide (0 < gtI (thrG n s.st s.ls m) f))
        rw [e3, rg_snoc, List.filter_append, List.filter_cons, e, ← hb']
        simp
  · obtain ⟨ds, ⟨e, _⟩, h2⟩ := h
    have e2 : ds = li ((rgI 0 ((List.range (li (thrG n s.st s.ls m)).length).zipWith (fun i d => PT2 K (PD K (.int (i : Nat))) (PD K d)) (li (thrG n s.st s.ls m))).length).filter fun f => decide (0 < gtI (thrG n s.st s.ls m) f)) := e
    rw [hz] at e2
    subst e2
    exact h2
abbrev spBegin (K : PySem.W.Frag) (CH CK : Addr) : Sp := SpP (α := { p : (List Int × List Int) × List Int // p.1.1.length ≤ 9 ∧ p.2.length ≤ 10 ∧ ¬ totG (p.1.1.length + 1) p.2 [] = 0 }) (fun p => [PHo K CH p.1.1.1 p.1.1.2, PD K (.tuple (li p.1.2))]) (fun p => PKn K CK (p.1.1.1.length + 1) ⟨[], p.1.2, []⟩)
theorem LsOk.nil {n : Nat} (h : n ≤ 10) : LsOk n [] := ⟨h, by simp, fun l hl => (List.not_mem_nil hl).elim, fun l hl => (List.not_mem_nil hl).elim⟩
theorem ok_beginning (T : Txt K mg) : FnOk P w K mg base CX0 10 T.f_beginning T.d_beginning ["house", "start"] (spBegin K T.C_House T.C_Known) := by
  refine fn_F T.F_beginning sc_beginning (fun _ => rfl) fun ⟨⟨⟨g, b⟩, st⟩, h9, hst, ht⟩ Z0 Z Q X qX hQ => ?_
  obtain ⟨cdv, A, outer, sh, E, rfl, hr⟩ := qX
  have h9' : g.length ≤ 9 := h9
  refine xs_ret (xe_callD (ok_possible T) ⟨(g.length + 1, ⟨[], st, []⟩), ht⟩ (hr.mono (by decide)) T.g_possible T.F_possible.kp T.b_possible (xa_1 (xe_make T.k_Known (ok_Known_init T) (hr.mono (by decide)) T.g_Known T.b_Known_init (xa_cons (xe_var 0) (xa_cons (xe_tup (K := K) (ds := []) xa_nil (by simp)) (xa_cons (xe_tupT T.z_tuple (xe_var 1)) (xa_1 (xe_tup (K := K) (ds := []) xa_nil (by simp)))))) (fun vs H h => ⟨⟨((g, b), ⟨[], st, []⟩), LsOk.nil (show g.length + 1 ≤ 10 by omega), rfl, hst⟩, h, fun v H hv => hv⟩) cov0))) fun v H0 H s k hv => hQ v H0 H s k hv
abbrev spBehRow (K : PySem.W.Frag) (CH CK : Addr) : Sp := SpP (α := { p : (List Int × List Int) × KnS × Row // KnOk p.1.1 p.2.1 ∧ p.2.1.ls.length < 1000 ∧ ¬ (p.2.1.more p.1.1 p.1.2 p.2.2).tot p.1.1 = 0 }) (fun p => [PHo K CH p.1.1.1 p.1.1.2, PKn K CK (p.1.1.1.length + 1) p.1.2.1, PD K (.tuple p.1.2.2.ds)]) (fun p => PKn K CK (p.1.1.1.length + 1) (p.1.2.1.more p.1.1.1 p.1.1.2 p.1.2.2))
theorem ok_behind_row (T : Txt K mg) : FnOk P w K mg base CX0 10 T.f_behind_row T.d_behind_row ["house", "known", "row"] (spBehRow K T.C_House T.C_Known) := by
  refine fn_F T.F_behind_row sc_behind_row (fun _ => rfl) fun ⟨⟨⟨g, b⟩, s, r⟩, hk, hz, ht⟩ Z0 Z Q X qX hQ => ?_
  obtain ⟨cdv, A, outer, sh, E, rfl, hr⟩ := qX
  have hk' : KnOk g s := hk
  have hz' : s.ls.length < 1000 := hz
  have hrl : s.rows.length = s.ls.length := hk'.len
  refine xs_asg 3 (xe_ixL (i := 0) (d := eLL (rowL g b r)) (xe_callD (ok_links_of T) ⟨((g, b), [r]), by have := hk'.ls.ten; show g.length ≤ 9; omega, by simp⟩ (hr.mono (by decide)) T.g_links_of T.F_links_of.kp T.b_links_of (xa_cons (xe_var 0) (xa_1 (xe_lst (K := K) (ds := [.tuple r.ds]) (xa_1 (xe_var 2)) (by simp))))) xe_int rfl) ?_ sc_behind_row.nd
  refine xs_ret (xe_callD (ok_possible T) ⟨(g.length + 1, s.more g b r), ht⟩ (hr.mono (by decide)) T.g_possible T.F_possible.kp T.b_possible (xa_1 (xe_make T.k_Known (ok_Known_init T) (hr.mono (by decide)) T.g_Known T.b_Known_init (xa_cons (xe_var 0) (xa_cons (xe_tupS (d := .tuple r.ds) (xe_fld (xe_var 1) rfl T.c_Known T.a_Knownrows) (xe_var 2) ((List.length_map (as := s.rows) fun r : Row => PyData.tuple r.ds) ▸ (show s.rows.length ≤ 1000 by omega))) (xa_cons (xe_fld (xe_var 1) rfl T.c_Known T.a_Knownstart) (xa_1 (xe_tupS (d := eLL (rowL g b r)) (xe_fld (xe_var 1) rfl T.c_Known T.a_Knownlinks) (xe_var 3) ((List.length_map (as := s.ls) eLL) ▸ (show s.ls.length ≤ 1000 by omega))))))) (fun vs H h => ⟨⟨((g, b), s.more g b r), hk'.more hz'⟩, ?_, fun v H hv => hv⟩) cov0))) fun v H0 H s k hv => hQ v H0 H s k hv
  have e1 : (s.rows ++ [r]).map (fun r => PyData.tuple r.ds) = s.rows.map (fun r => PyData.tuple r.ds) ++ [PyData.tuple r.ds] := by simp
  have e2 : (s.ls ++ [rowL g b r]).map eLL = s.ls.map eLL ++ [eLL (rowL g b r)] := by simp
  show DAll [PHo K T.C_House g b, PD K (.tuple ((s.rows ++ [r]).map fun r => .tuple r.ds)), PD K (.tuple (li s.st)), PD K (.tuple ((s.ls ++ [rowL g b r]).map eLL))] vs H
  rw [e1, e2]
  exact h
abbrev spWith (K : PySem.W.Frag) (CH CK : Addr) : Sp := SpP (α := { p : (List Int × List Int) × KnS × Nat × List Int // KnOk p.1.1 p.2.1 ∧ p.2.2.1 ≤ p.2.1.ls.length ∧ ¬ (p.2.1.with p.2.2.1 p.2.2.2).tot p.1.1 = 0 }) (fun p => [PHo K CH p.1.1.1 p.1.1.2, PKn K CK (p.1.1.1.length + 1) p.1.2.1, PD K (.int (p.1.2.2.1 : Nat)), PD K (.tuple (li p.1.2.2.2))]) (fun p => PKn K CK (p.1.1.1.length + 1) (p.1.2.1.with p.1.2.2.1 p.1.2.2.2))
theorem ok_with_floors (T : Txt K mg) : FnOk P w K mg base CX0 10 T.f_with_floors T.d_with_floors ["house", "known", "moment", "floors"] (spWith K T.C_House T.C_Known) := by
  refine fn_F T.F_with_floors sc_with_floors (fun _ => rfl) fun ⟨⟨⟨g, b⟩, s, m, fl⟩, hk, hm, ht⟩ Z0 Z Q X qX hQ => ?_
  obtain ⟨cdv, A, outer, sh, E, rfl, hr⟩ := qX
  have hk' : KnOk g s := hk
  have hm' : m ≤ s.ls.length := hm
  have hst := hk'.st
  have hw := hk'.ls.ten
  refine xs_asg 4 (xe_fld (xe_var 1) rfl T.c_Known T.a_Knownstart) ?_ sc_with_floors.nd
  refine xs_newF 5 (fe_listT (ds := s.ls.map eLL) T.z_list (xe_fld (xe_var 1) rfl T.c_Known T.a_Knownlinks)) (fun q => ?_) cov0 sc_with_floors.nd
  refine xs_ifJ (fun _ Γ1 Rs1 => (∃ a6 a7 a8, Γ1 = [some (PHo K T.C_House g b), some (PKn K T.C_Known (g.length + 1) s), some (PD K (.int (m : Nat))), some (PD K (.tuple (li fl))), some (PD K (.tuple (li (s.with m fl).st))), some (PV (.ref q)), a6, a7, a8]) ∧ Rs1 = [Res.lst Z q (((s.with m fl).ls.map eLL).map (PD K))]) (xt_eqI (K := K) (xe_var 2) xe_int) (fun hb nx hnx => ?_) (fun hb nx hnx => ?_) ?_
  · have hb' : true = decide ((m : Int) = 0) := hb
    have e0 : m = 0 := by
      have := of_decide_eq_true hb'.symm
      omega
    subst e0
    refine xs_asg 4 (P := PD K (.tuple (li (s.with 0 fl).st))) (xe_tupL T.z_tuple (xe_filtI 6 (fun n => .int n) (fun n => decide (n ∈ fl)) (xi_tup (xe_var 4)) (fun n hn s0 H0 C cl fp => xt_inT (xe_var 6) (xe_var 3)) (fun n hn _ s0 H0 C cl fp => xe_var 6) sc_with_floors.nd (blkOk_by rfl) (by omega) cov0 (fun _ _ _ _ _ => pg_name (i := 6) sc_with_floors.nd rfl (Or.inl rfl)))) ?_ sc_with_floors.nd
    exact xs_turn hnx ⟨⟨_, _, _, rfl⟩, rfl⟩
  · have hb' : false = decide ((m : Int) = 0) := hb
    have e0 : ¬ m = 0 := by
      have := of_decide_eq_false hb'.symm
      omega
    have hk2 : m - 1 < s.ls.length := by omega
    have ei : ((m : Int) - 1) = ((m - 1 : Nat) : Int) := by omega
    obtain ⟨l, hl⟩ : ∃ l, l = s.ls.getD (m - 1) [] := ⟨_, rfl⟩
    have hg : s.ls[m - 1]? = some l := by
      rw [hl, List.getD_eq_getElem?_getD, List.getElem?_eq_getElem hk2]
      rfl
    have hlm := List.mem_of_getElem? hg
    have hlw := hk'.ls.wide l hlm
    have hls := hk'.ls.subs l hlm
    refine xs_itmM (k := m - 1) (q := q) (P := PD K (eLL (restrM fl l))) (by rw [List.length_map, List.length_map]; exact hk2) (YE.dat (xe_mapG eL l 8 (fun es => eL (es.filter fun e => decide (e ∈ fl))) (xi_list (xe_ixM (q := q) (P := PD K (eLL l)) (xe_var 5) (xe_sub (K := K) (xe_var 2) xe_int) ?_)) (fun es hes s0 H0 C cl fp => ?_) sc_with_floors.nd (blkOk_by rfl) (by omega) cov0 (fun _ _ _ _ _ => pg_name (i := 8) sc_with_floors.nd rfl (Or.inl rfl))) ?_) (xe_var 5) (YE.to (xe_sub (K := K) (xe_var 2) xe_int) (by rw [ei]; rfl)) ?_
    · rw [ei]
      refine atI_nat ?_
      rw [List.getElem?_map, List.getElem?_map, hg]
      rfl
    · have hes2 := (hls es hes).length_le
      rw [rgI_len] at hes2
      exact xe_filtI 7 (fun n => .int n) (fun n => decide (n ∈ fl)) (xi_list (xe_var 8)) (fun n hn s0 H0 C cl fp => xt_inT (xe_var 7) (xe_var 3)) (fun n hn _ s0 H0 C cl fp => xe_var 7) sc_with_floors.nd (blkOk_by rfl) (by omega) cov0 (fun _ _ _ _ _ => pg_name (i := 7) sc_with_floors.nd rfl (Or.inl rfl))
    · show PyData.list _ = PyData.list _
      unfold restrM
      rw [List.map_map]
      rfl
    · have e1 : (s.with m fl).st = s.st := if_neg e0
      have e2 : (s.with m fl).ls = s.ls.set (m - 1) (restrM fl l) := by
        rw [hl]
        exact if_neg e0
      refine xs_turn hnx ⟨⟨_, _, _, by rw [e1]; rfl⟩, ?_⟩
      rw [e2, List.map_set, List.map_set]
      rfl
  · rintro Γ1 Rs1 ⟨⟨a6, a7, a8, rfl⟩, rfl⟩
    refine xs_frzK 5 rfl rfl ?_
    exact xs_ret (xe_callD (ok_possible T) ⟨(g.length + 1, s.with m fl), ht⟩ (hr.mono (by decide)) T.g_possible T.F_possible.kp T.b_possible (xa_1 (xe_make T.k_Known (ok_Known_init T) (hr.mono (by decide)) T.g_Known T.b_Known_init (xa_cons (xe_var 0) (xa_cons (xe_fld (xe_var 1) rfl T.c_Known T.a_Knownrows) (xa_cons (xe_var 4) (xa_1 (xe_tupL T.z_tuple (xe_var 5)))))) (fun vs H h => ⟨⟨((g, b), s.with m fl), hk'.with hm'⟩, h, fun v H hv => hv⟩) cov0))) fun v H0 H s k hv => hQ v H0 H s k hv
end
end K61
namespace K61
open PySem L2 Lh
open LhL (ltK tabR LamP)
/-! ### calls, and the stop that a rule takes -/
structure CallsOk (g calls : List Int) : Prop where
  once : calls.Nodup
  among : ∀ f ∈ calls, 0 ≤ f ∧ f ≤ g.length
abbrev Rules : List Str := ["first", "near", "sweep"]
abbrev lamQ : Str := (("nearest" : Str) ++ ".<locals>.") ++ "<lambda>"
def keyM (g : List Int) (here f : Int) : Int × Int := (far g here f, f)
def nearM (g : List Int) (here : Int) (ns : List Int) : Int := (ns.find? fun m => ns.all fun n => !decide (ltK (keyM g here n) (keyM g here m))).getD 0
theorem near_eq {g ns : List Int} {here m : Int} (hm : m ∈ ns) (h : ∀ n ∈ ns, ¬ ltK (keyM g here n) (keyM g here m)) : nearM g here ns = m := by
  unfold nearM
  have good : (ns.all fun n => !decide (ltK (keyM g here n) (keyM g here m))) = true := List.all_eq_true.mpr fun n hn => by
    rw [decide_eq_false (h n hn)]
    rfl
  cases e : ns.find? fun m => ns.all fun n => !decide (ltK (keyM g here n) (keyM g here m)) with
  | none => exact absurd good (List.find?_eq_none.mp e m hm)
  | some k =>
    have hk := List.mem_of_find?_eq_some e
    have gk := List.find?_some e
    have h1 : ¬ ltK (keyM g here m) (keyM g here k) := by
      have q := List.all_eq_true.mp gk m hm
      intro z
      rw [decide_eq_true z] at q
      cases q
    have h2 := h k hk
    show k = m
    unfold ltK keyM at h1 h2
    simp only at h1 h2
    omega
theorem near_mem {g ns : List Int} {here : Int} (hne : ns ≠ []) : nearM g here ns ∈ ns := by
  -- a least one by the pairs
  have least : ∀ (l : List Int), l ≠ [] → ∃ m ∈ l, ∀ n ∈ l, ¬ ltK (keyM g here n) (keyM g here m) := fun l => by
    induction l with
    | nil => exact fun h => absurd rfl h
    | cons x xs ih =>
      intro _
      by_cases hx : xs = []
      · subst hx
        exact ⟨x, by simp, fun n hn => by
          have e : n = x := by simpa using hn
          rw [e]
          unfold ltK
          omega⟩
      · obtain ⟨m, hm, hl⟩ := ih hx
        by_cases q : ltK (keyM g here x) (keyM g here m)
        · refine ⟨x, by simp, fun n hn => ?_⟩
          rcases List.mem_cons.mp hn with e | h
          · rw [e]
            unfold ltK
            omega
          · have := hl n h
            unfold ltK at this q ⊢
            omega
        · refine ⟨m, List.mem_cons_of_mem _ hm, fun n hn => ?_⟩
          rcases List.mem_cons.mp hn with e | h
          · rw [e]
            exact q
          · exact hl n h
  obtain ⟨m, hm, hl⟩ := least ns hne
  rw [near_eq hm hl]
  exact hm
def lowM (ns : List Int) : Int := (ns.find? fun m => ns.all fun n => decide (m ≤ n)).getD 0
def topM (ns : List Int) : Int := (ns.find? fun m => ns.all fun n => decide (n ≤ m)).getD 0
theorem low_eq {ns : List Int} {m : Int} (hm : m ∈ ns) (h : ∀ n ∈ ns, m ≤ n) : m = lowM ns := by
  unfold lowM
  cases e : ns.find? fun m => ns.all fun n => decide (m ≤ n) with
  | none => exact absurd (List.all_eq_true.mpr fun n hn => decide_eq_true (h n hn)) (List.find?_eq_none.mp e m hm)
  | some k =>
    have good : (ns.all fun n => decide (k ≤ n)) = true := List.find?_some (p := fun m => ns.all fun n => decide (m ≤ n)) e
    have h1 := of_decide_eq_true (List.all_eq_true.mp good m hm)
    have h2 := h k (List.mem_of_find?_eq_some e)
    show m = k
    omega
theorem top_eq {ns : List Int} {m : Int} (hm : m ∈ ns) (h : ∀ n ∈ ns, n ≤ m) : m = topM ns := by
  unfold topM
  cases e : ns.find? fun m => ns.all fun n => decide (n ≤ m) with
  | none => exact absurd (List.all_eq_true.mpr fun n hn => decide_eq_true (h n hn)) (List.find?_eq_none.mp e m hm)
  | some k =>
    have good : (ns.all fun n => decide (n ≤ k)) = true := List.find?_some (p := fun m => ns.all fun n => decide (n ≤ m)) e
    have h1 := of_decide_eq_true (List.all_eq_true.mp good m hm)
    have h2 := h k (List.mem_of_find?_eq_some e)
    show m = k
    omega
theorem low_mem : ∀ {ns : List Int}, ns ≠ [] → lowM ns ∈ ns := fun {ns} hne => by
  have least : ∀ (l : List Int), l ≠ [] → ∃ m ∈ l, ∀ n ∈ l, m ≤ n := fun l => by
    induction l with
    | nil => exact fun h => absurd rfl h
    | cons x xs ih =>
      intro _
      by_cases hx : xs = []
      · subst hx
        exact ⟨x, by simp, fun n hn => by
          have e : n = x := by simpa using hn
          omega⟩
      · obtain ⟨m, hm, hl⟩ := ih hx
        by_cases q : x ≤ m
        · exact ⟨x, by simp, fun n hn => by
            rcases List.mem_cons.mp hn with e | h
            · omega
            · have := hl n h
              omega⟩
        · exact ⟨m, List.mem_cons_of_mem _ hm, fun n hn => by
            rcases List.mem_cons.mp hn with e | h
            · omega
            · exact hl n h⟩
  obtain ⟨m, hm, hl⟩ := least ns hne
  rw [← low_eq hm hl]
  exact hm
theorem top_mem : ∀ {ns : List Int}, ns ≠ [] → topM ns ∈ ns := fun {ns} hne => by
  have most : ∀ (l : List Int), l ≠ [] → ∃ m ∈ l, ∀ n ∈ l, n ≤ m := fun l => by
    induction l with
    | nil => exact fun h => absurd rfl h
    | cons x xs ih =>
      intro _
      by_cases hx : xs = []
      · subst hx
        exact ⟨x, by simp, fun n hn => by
          have e : n = x := by simpa using hn
          omega⟩
      · obtain ⟨m, hm, hl⟩ := ih hx
        by_cases q : m ≤ x
        · exact ⟨x, by simp, fun n hn => by
            rcases List.mem_cons.mp hn with e | h
            · omega
            · have := hl n h
              omega⟩
        · exact ⟨m, List.mem_cons_of_mem _ hm, fun n hn => by
            rcases List.mem_cons.mp hn with e | h
            · omega
            · exact hl n h⟩
  obtain ⟨m, hm, hl⟩ := most ns hne
  rw [← top_eq hm hl]
  exact hm
def aboveM (here : Int) (calls : List Int) : List Int := calls.filter fun f => decide (here < f)
def belowM (here : Int) (calls : List Int) : List Int := calls.filter fun f => decide (f < here)
def sweepM (here : Int) (up : Bool) (calls : List Int) : Int × Bool :=
  if here ∈ calls then (here, up) else if (!(aboveM here calls).isEmpty && (up || (belowM here calls).isEmpty)) = true then (lowM (aboveM here calls), true) else (topM (belowM here calls), false)
def stopM (g : List Int) (rule : Str) (here : Int) (up : Bool) (calls : List Int) : Int × Bool :=
  if rule = "first" then (calls.headD 0, up) else if rule = "near" then (nearM g here calls, up) else sweepM here up calls
theorem some_side {here : Int} {calls : List Int} (h1 : here ∉ calls) (hne : calls ≠ []) (h2 : aboveM here calls = []) : belowM here calls ≠ [] := fun h3 => by
  cases calls with
  | nil => exact hne rfl
  | cons x xs =>
    have n1 : x ∉ aboveM here (x :: xs) := by rw [h2]; simp
    have n2 : x ∉ belowM here (x :: xs) := by rw [h3]; simp
    unfold aboveM at n1
    unfold belowM at n2
    rw [List.mem_filter] at n1 n2
    have e : x ≠ here := fun e => h1 (by rw [← e]; simp)
    simp at n1 n2
    omega
theorem sweep_mem {here : Int} {up : Bool} {calls : List Int} (hne : calls ≠ []) : (sweepM here up calls).1 ∈ calls := by
  unfold sweepM
  by_cases h1 : here ∈ calls
  · rw [if_pos h1]
    exact h1
  · rw [if_neg h1]
    by_cases h2 : (!(aboveM here calls).isEmpty && (up || (belowM here calls).isEmpty)) = true
    · rw [if_pos h2]
      have h3 : aboveM here calls ≠ [] := fun e => by
        rw [e] at h2
        simp at h2
      exact (List.mem_filter.mp (low_mem h3)).1
    · rw [if_neg h2]
      have h3 : belowM here calls ≠ [] := by
        by_cases h4 : aboveM here calls = []
        · exact some_side h1 hne h4
        · intro e
          rw [e] at h2
          have h5 : (aboveM here calls).isEmpty = false := by simpa using h4
          rw [h5] at h2
          simp at h2
      exact (List.mem_filter.mp (top_mem h3)).1
theorem stop_mem {g : List Int} {rule : Str} {here : Int} {up : Bool} {calls : List Int} (hne : calls ≠ []) : (stopM g rule here up calls).1 ∈ calls := by
  unfold stopM
  by_cases h1 : rule = "first"
  · rw [if_pos h1]
    cases calls with
    | nil => exact absurd rfl hne
    | cons x xs => simp
  · rw [if_neg h1]
    by_cases h2 : rule = "near"
    · rw [if_pos h2]
      exact near_mem hne
    · rw [if_neg h2]
      exact sweep_mem hne
end K61
namespace K61
open PySem L2 Lh
open LhL (ltK tabR LamP)
section
variable {K : PySem.W.Frag} {mg : Str → Option Value} {base : Heap} {P : Program} {w : World}
abbrev spRule (K : PySem.W.Frag) : Sp := SpP (α := { z : Str // z ∈ Rules }) (fun z => [PD K (.str z.1)]) (fun _ => PD K .none)
theorem ok_check_rule (T : Txt K mg) : FnOk P w K mg base CX0 1 T.f_check_rule T.d_check_rule ["rule"] (spRule K) := by
  refine fn_F T.F_check_rule sc_check_rule (fun _ => rfl) fun ⟨z, hz⟩ Z0 Z Q X qX hQ => ?_
  obtain ⟨cdv, A, outer, s, E, rfl, hr⟩ := qX
  have hz' : z ∈ Rules := hz
  refine xs_skip (YT.eq (xt_niTS (xe_var 0) (xe_gtup T.v_RULES)) (by rw [decide_eq_true hz']; rfl)) ?_
  exact xs_nil fun σ H0 H l s b k => hQ _ _ _ s k rfl
abbrev spCalls (K : PySem.W.Frag) (C : Addr) : Sp := SpP (α := { p : (List Int × List Int) × List Int // CallsOk p.1.1 p.2 }) (fun p => [PHo K C p.1.1.1 p.1.1.2, PD K (.tuple (li p.1.2))]) (fun _ => PD K .none)
theorem ok_wrong_call (T : Txt K mg) : FnOk P w K mg base CX0 3 T.f_wrong_call T.d_wrong_call ["house", "calls"] (spCalls K T.C_House) := by
  refine fn_F T.F_wrong_call sc_wrong_call (fun _ => rfl) fun ⟨⟨⟨g, b⟩, cs⟩, hc⟩ Z0 Z Q X qX hQ => ?_
  obtain ⟨cdv, A, outer, s, E, rfl, hr⟩ := qX
  have hk : CallsOk g cs := hc
  refine xs_forP 2 3 (xi_enumT T.z_enumerate (xe_var 1)) (fun _ Γ1 Rs1 => Rs1 = [] ∧ ∃ a2 a3, Γ1 = [some (PHo K T.C_House g b), some (PD K (.tuple (li cs))), a2, a3]) ⟨rfl, none, none, rfl⟩ ?_ ?_ sc_wrong_call.nd
  · rintro t Qt Γ1 Rs1 hq ⟨rfl, a2, a3, rfl⟩
    obtain ⟨d, hd, rfl⟩ := enum_at hq
    obtain ⟨f, hf, rfl⟩ := li_at hd
    refine ⟨_, _, rfl, fun Hs => ?_⟩
    have hin := hk.among f (List.mem_of_getElem? hf)
    have h1 : f ∈ rgI 0 (g.length + 1) := mem_rgI.mpr (by omega)
    have h2 : f ∉ cs.take t := fun hm => by
      obtain ⟨hlt, e⟩ := List.getElem?_eq_some_iff.mp hf
      obtain ⟨i, hi, e2⟩ := List.getElem_of_mem hm
      rw [List.length_take] at hi
      rw [List.getElem_take] at e2
      exact absurd (e2.trans e.symm) (List.pairwise_iff_getElem.mp hk.once i t (by omega) hlt (by omega))
    refine xs_skip (YT.eq (xt_orB (xt_niT (xe_var 3) (xe_prop (ok_House_floors T) (g, b) (xe_var 0) rfl T.c_House T.m_House_floors hr T.b_House_floors)) fun _ => xt_inT (xe_var 3) (YE.dat (d' := .tuple (li (cs.take t))) (xe_slTb (xe_var 1) (xe_var 2) (by omega)) (by simp [li, List.map_take]))) (by simp [h1, h2])) (xs_turn (fun σ H h => h) ⟨rfl, _, _, rfl⟩)
  · rintro Γ1 Rs1 ⟨rfl, a2, a3, rfl⟩
    exact xs_ret (xe_non (K := K)) fun v H0 H s k hv => hQ v H0 H s k hv
theorem ok_check_calls (T : Txt K mg) : FnOk P w K mg base CX0 4 T.f_check_calls T.d_check_calls ["house", "calls"] (spCalls K T.C_House) := by
  refine fn_F T.F_check_calls sc_check_calls (fun _ => rfl) fun ⟨⟨⟨g, b⟩, cs⟩, hc⟩ Z0 Z Q X qX hQ => ?_
  obtain ⟨cdv, A, outer, s, E, rfl, hr⟩ := qX
  refine xs_asg 2 (xe_callD (ok_wrong_call T) ⟨((g, b), cs), hc⟩ hr T.g_wrong_call T.F_wrong_call.kp T.b_wrong_call (xa_cons (xe_var 0) (xa_1 (xe_var 1)))) ?_ sc_check_calls.nd
  refine xs_skip (YT.eq (xt_notV (d := .none) (xe_var 2)) rfl) ?_
  exact xs_nil fun σ H0 H l s b k => hQ _ _ _ s k rfl
/-! ### the nearest call -/
abbrev MP (P : Addr) : Addr → Prop := fun a => a = P
abbrev spNear (K : PySem.W.Frag) (C PN : Addr) : Sp := SpF (α := { p : (List Int × List Int) × Int × List Int // (0 ≤ p.2.1 ∧ p.2.1 ≤ p.1.1.length) ∧ (∀ f ∈ p.2.2, 0 ≤ f ∧ f ≤ p.1.1.length) ∧ 0 < p.2.2.length }) (fun _ => MP PN) (fun _ => [tabR PN lamQ]) (fun p => [PHo K C p.1.1.1 p.1.1.2, PD K (.int p.1.2.1), PD K (.list (li p.1.2.2))]) (fun p => PD K (.int (nearM p.1.1.1 p.1.2.1 p.1.2.2)))
theorem ok_nearest (T : Txt K mg) (TB : LamX.TabB base mg T.cN_nearest T.PN_nearest) : FnOk P w K mg base CX0 8 T.f_nearest T.d_nearest ["house", "here", "calls"] (spNear K T.C_House T.PN_nearest) := by
  refine LhL.fn_FC T.N_nearest sc_nearest (fun _ => rfl) fun ⟨⟨⟨g, b⟩, here, ns⟩, hh, hns, hne⟩ Z0 Z Q X qX hQ => ?_
  obtain ⟨A, outer, s, E, rfl, hr⟩ := qX
  have hh' : 0 ≤ here ∧ here ≤ g.length := hh
  have hns' : ∀ f ∈ ns, 0 ≤ f ∧ f ≤ g.length := hns
  have hne' : 0 < ns.length := hne
  refine xs_ret (P := PD K (.int (nearM g here ns))) (YE.imp (LhL.xe_minLam (k := 4) (kf := keyM g here) (x := "floor") T.z_min TB rfl rfl rfl (LhL.lamP_by rfl) (by show ("floor" : Str) ∉ n_nearest; decide +kernel) rfl hr (xe_var 2) hne' (fun f c' pm ctv u => rfl) (fun n hn A' outer' s' H' f c' room => ?_)) fun v H h => ?_) fun v H0 H s k hv => hQ v H0 H s k hv
  · exact xe_tup (K := K) (ds := [.int (far g here n), .int n]) (xa_cons (xe_meth (ok_House_seconds T) ⟨((g, b), here, n), hh', hns' n hn⟩ (xe_var 0) (xa_cons (xe_var 1) (xa_1 (xe_var 3))) rfl rfl T.c_House T.m_House_seconds room T.b_House_seconds) (xa_1 (xe_var 3))) (by simp)
  · obtain ⟨m, ⟨hm1, hm2⟩, hv⟩ := h
    rw [near_eq hm1 hm2]
    exact hv
end
end K61
namespace K61
open PySem L2 Lh
open LhL (ltK tabR LamP)
section
variable {K : PySem.W.Frag} {mg : Str → Option Value} {base : Heap} {P : Program} {w : World}
abbrev stD (p : Int × Bool) : PyData := .tuple [.int p.1, .bool p.2]
abbrev spSweep (K : PySem.W.Frag) : Sp := SpP (α := { p : (Int × Bool) × List Int // p.2 ≠ [] ∧ p.2.length ≤ 1000 }) (fun p => [PD K (.int p.1.1.1), PD K (.bool p.1.1.2), PD K (.list (li p.1.2))]) (fun p => PD K (stD (sweepM p.1.1.1 p.1.1.2 p.1.2)))
theorem ok_next_in_sweep (T : Txt K mg) : FnOk P w K mg base CX0 1 T.f_next_in_sweep T.d_next_in_sweep ["here", "is_up", "calls"] (spSweep K) := by
  refine fn_F T.F_next_in_sweep sc_next_in_sweep (fun _ => rfl) fun ⟨⟨⟨here, up⟩, cs⟩, hne, hz⟩ Z0 Z Q X qX hQ => ?_
  obtain ⟨cdv, A, outer, s, E, rfl, hr⟩ := qX
  have hne' : cs ≠ [] := hne
  have hz' : cs.length ≤ 1000 := hz
  refine xs_if (xt_inL (xe_var 0) (xe_var 2)) (fun hb => ?_) fun hb => xs_then ?_
  · have hb' : true = decide (here ∈ cs) := hb
    refine xs_ret (YE.dat (xe_tup (K := K) (ds := [.int here, .bool up]) (xa_cons (xe_var 0) (xa_1 (xe_var 1))) (by simp)) ?_) fun v H0 H s k hv => hQ v H0 H s k hv
    show _ = stD (sweepM here up cs)
    unfold sweepM
    rw [if_pos (of_decide_eq_true hb'.symm)]
  have hb' : false = decide (here ∈ cs) := hb
  have hin : here ∉ cs := of_decide_eq_false hb'.symm
  refine xs_filtG PyData.int cs 3 4 (fun n => .int n) (fun f => decide (here < f)) (xi_list (xe_var 2)) (fun f hf s0 H0 C cl fp => by exact xt_gt (K := K) (xe_var 4) (xe_var 0)) (fun f hf _ s0 H0 C cl fp => by exact xe_var 4) ?_ sc_next_in_sweep.nd (blkOk_by rfl) (by omega) cov0 (fun _ _ _ _ _ => pg_name (i := 4) sc_next_in_sweep.nd rfl (Or.inl rfl)) rfl
  refine xs_filtG PyData.int cs 5 4 (fun n => .int n) (fun f => decide (f < here)) (xi_list (xe_var 2)) (fun f hf s0 H0 C cl fp => by exact xt_lt (K := K) (xe_var 4) (xe_var 0)) (fun f hf _ s0 H0 C cl fp => by exact xe_var 4) ?_ sc_next_in_sweep.nd (blkOk_by rfl) (by omega) cov0 (fun _ _ _ _ _ => pg_name (i := 4) sc_next_in_sweep.nd rfl (Or.inl rfl)) rfl
  have em : ∀ l : List Int, (l.map fun n => PyData.int n).isEmpty = l.isEmpty := fun l => by cases l <;> rfl
  refine xs_if (B := Is (!(aboveM here cs).isEmpty && (up || (belowM here cs).isEmpty))) (YT.eq (xt_andB (xt_truL (ds := (aboveM here cs).map fun n => PyData.int n) (xe_var 3)) fun _ => xt_orB (xt_bool (K := K) (xe_var 1)) fun _ => xt_notB (xt_truL (ds := (belowM here cs).map fun n => PyData.int n) (xe_var 5))) (by rw [em, em, Bool.not_not])) (fun hb => ?_) fun hb => xs_then ?_
  · have h2 : (!(aboveM here cs).isEmpty && (up || (belowM here cs).isEmpty)) = true := hb.symm
    have h3 : aboveM here cs ≠ [] := fun e => by
      rw [e] at h2
      simp at h2
    refine xs_ret (YE.dat (xe_tup (K := K) (ds := [.int (lowM (aboveM here cs)), .bool true]) (xa_cons (xe_minL (ns := aboveM here cs) T.z_min (xe_var 3) (List.length_pos_iff.mpr h3) fun k h1 h2 => low_eq h1 h2) (xa_1 xe_bl)) (by simp)) ?_) fun v H0 H s k hv => hQ v H0 H s k hv
    show _ = stD (sweepM here up cs)
    unfold sweepM
    rw [if_neg hin, if_pos h2]
  · have h2 : (!(aboveM here cs).isEmpty && (up || (belowM here cs).isEmpty)) = false := hb.symm
    have h3 : belowM here cs ≠ [] := by
      by_cases h4 : aboveM here cs = []
      · exact some_side hin hne' h4
      · intro e
        rw [e] at h2
        have h5 : (aboveM here cs).isEmpty = false := by simpa using h4
        rw [h5] at h2
        simp at h2
    refine xs_ret (YE.dat (xe_tup (K := K) (ds := [.int (topM (belowM here cs)), .bool false]) (xa_cons (xe_maxL (ns := belowM here cs) T.z_max (xe_var 5) (List.length_pos_iff.mpr h3) fun k h1 h2 => top_eq h1 h2) (xa_1 xe_bl)) (by simp)) ?_) fun v H0 H s k hv => hQ v H0 H s k hv
    show _ = stD (sweepM here up cs)
    unfold sweepM
    rw [if_neg hin, if_neg (by rw [h2]; simp)]
abbrev spStop (K : PySem.W.Frag) (C PN : Addr) : Sp := SpF (α := { p : (List Int × List Int) × (Str × Int × Bool) × List Int // (0 ≤ p.2.1.2.1 ∧ p.2.1.2.1 ≤ p.1.1.length) ∧ (∀ f ∈ p.2.2, 0 ≤ f ∧ f ≤ p.1.1.length) ∧ p.2.2 ≠ [] ∧ p.2.2.length ≤ 1000 }) (fun _ => MP PN) (fun _ => [tabR PN lamQ])
  (fun p => [PHo K C p.1.1.1 p.1.1.2, PD K (.str p.1.2.1.1), PD K (.int p.1.2.1.2.1), PD K (.bool p.1.2.1.2.2), PD K (.list (li p.1.2.2))]) (fun p => PD K (stD (stopM p.1.1.1 p.1.2.1.1 p.1.2.1.2.1 p.1.2.1.2.2 p.1.2.2)))
theorem ok_next_stop (T : Txt K mg) (TB : LamX.TabB base mg T.cN_nearest T.PN_nearest) : FnOk P w K mg base CX0 9 T.f_next_stop T.d_next_stop ["house", "rule", "here", "is_up", "calls"] (spStop K T.C_House T.PN_nearest) := by
  refine fn_F T.F_next_stop sc_next_stop (fun _ => rfl) fun ⟨⟨⟨g, b⟩, ⟨rule, here, up⟩, cs⟩, hh, hc, hne, hz⟩ Z0 Z Q X qX hQ => ?_
  obtain ⟨cdv, A, outer, s, E, rfl, hr⟩ := qX
  have hh' : 0 ≤ here ∧ here ≤ g.length := hh
  have hc' : ∀ f ∈ cs, 0 ≤ f ∧ f ≤ g.length := hc
  have hne' : cs ≠ [] := hne
  have hz' : cs.length ≤ 1000 := hz
  refine xs_if (xt_eqS (K := K) (xe_var 1) xe_str) (fun hb => ?_) fun hb => xs_then ?_
  · have hb' : rule = "first" := of_decide_eq_true (show true = decide (rule = "first") from hb).symm
    refine xs_ret (YE.dat (xe_tup (K := K) (ds := [.int (cs.headD 0), .bool up]) (xa_cons (xe_ixL (xe_var 4) xe_int ?_) (xa_1 (xe_var 3))) (by simp)) ?_) fun v H0 H s k hv => hQ v H0 H s k hv
    · cases cs with
      | nil => exact absurd rfl hne'
      | cons x xs => exact atI_nat (xs := li (x :: xs)) (j := 0) rfl
    · show _ = stD (stopM g rule here up cs)
      unfold stopM
      rw [if_pos hb']
  have hb1 : ¬ rule = "first" := of_decide_eq_false (show false = decide (rule = "first") from hb).symm
  refine xs_if (xt_eqS (K := K) (xe_var 1) xe_str) (fun hb => ?_) fun hb => xs_then ?_
  · have hb' : rule = "near" := of_decide_eq_true (show true = decide (rule = "near") from hb).symm
    refine xs_ret (YE.dat (xe_tup (K := K) (ds := [.int (nearM g here cs), .bool up]) (xa_cons (xe_callM (ok_nearest T TB) (C := PD K (.int (nearM g here cs))) hr T.g_nearest T.F_nearest.kp T.b_nearest (xa_cons (xe_var 0) (xa_cons (xe_var 2) (xa_1 (xe_var 4)))) (fun vs H h => ⟨⟨((g, b), here, cs), hh', hc', List.length_pos_iff.mpr hne'⟩, h, rfl, fun _ h => h, fun a ha => by
      have e : a = T.PN_nearest := ha
      simp [tabR, e], fun _ _ h => h⟩)) (xa_1 (xe_var 3))) (by simp)) ?_) fun v H0 H s k hv => hQ v H0 H s k hv
    show _ = stD (stopM g rule here up cs)
    unfold stopM
    rw [if_neg hb1, if_pos hb']
  have hb2 : ¬ rule = "near" := of_decide_eq_false (show false = decide (rule = "near") from hb).symm
  refine xs_ret (YE.dat (xe_callD (ok_next_in_sweep T) ⟨((here, up), cs), hne', hz'⟩ (hr.mono (by decide)) T.g_next_in_sweep T.F_next_in_sweep.kp T.b_next_in_sweep (xa_cons (xe_var 2) (xa_cons (xe_var 3) (xa_1 (xe_var 4))))) ?_) fun v H0 H s k hv => hQ v H0 H s k hv
  show stD (sweepM here up cs) = stD (stopM g rule here up cs)
  unfold stopM
  rw [if_neg hb1, if_neg hb2]
end
end K61
namespace K61
open PySem L2 Lh
open LhL (ltK tabR LamP)
/-! ### all stops of a night -/
abbrev prD (p : Int × Int) : PyData := .tuple [.int p.1, .int p.2]
def knownM (s : Int) (left : List (Int × Int)) : List Int := (left.filter fun p => decide (p.1 ≤ s)).map Prod.snd
def stillM (s f : Int) (left : List (Int × Int)) : List (Int × Int) := left.filter fun p => (!decide (p.2 = f) || decide (s < p.1))
def runM (g : List Int) (rule : Str) : Nat → Int → Bool → Int → List (Int × Int) → List (Int × Int)
  | 0, _, _, _, _ => []
  | _ + 1, _, _, _, [] => []
  | n + 1, here, up, s, p :: left =>
    let s1 := max s p.1
    let fu := stopM g rule here up (knownM s1 (p :: left))
    let s2 := s1 + far g here fu.1
    (fu.1, s2) :: runM g rule n fu.1 fu.2 s2 (stillM s2 fu.1 (p :: left))
theorem runM_nil {g : List Int} {rule : Str} {n : Nat} {here : Int} {up : Bool} {s : Int} : runM g rule n here up s [] = [] := by
  cases n <;> rfl
theorem run_one {g : List Int} {rule : Str} {n : Nat} {here : Int} {up : Bool} {s : Int} {p : Int × Int} {left : List (Int × Int)} : runM g rule (n + 1) here up s (p :: left) = ((stopM g rule here up (knownM (max s p.1) (p :: left))).1, max s p.1 + far g here (stopM g rule here up (knownM (max s p.1) (p :: left))).1) ::
    runM g rule n (stopM g rule here up (knownM (max s p.1) (p :: left))).1 (stopM g rule here up (knownM (max s p.1) (p :: left))).2 (max s p.1 + far g here (stopM g rule here up (knownM (max s p.1) (p :: left))).1) (stillM (max s p.1 + far g here (stopM g rule here up (knownM (max s p.1) (p :: left))).1) (stopM g rule here up (knownM (max s p.1) (p :: left))).1 (p :: left)) := rfl
theorem far_nn {g : List Int} (hg : ∀ x ∈ g, 1 ≤ x) (a b : Int) : 0 ≤ far g a b := by
  unfold far
  refine sum_nn fun x hx => ?_
  have := hg x (List.mem_of_mem_drop (List.mem_of_mem_take hx))
  omega
theorem known_some {s : Int} {left : List (Int × Int)} {p : Int × Int} (h1 : p ∈ left) (h2 : p.1 ≤ s) : knownM s left ≠ [] := fun e => by
  have h : p.2 ∈ knownM s left := List.mem_map.mpr ⟨p, List.mem_filter.mpr ⟨h1, decide_eq_true h2⟩, rfl⟩
  rw [e] at h
  cases h
theorem still_less {s s1 f : Int} {left : List (Int × Int)} (hs : s1 ≤ s) (h : f ∈ knownM s1 left) : (stillM s f left).length < left.length := by
  obtain ⟨p, hp, rfl⟩ := List.mem_map.mp h
  obtain ⟨h1, h2⟩ := List.mem_filter.mp hp
  have h2' := of_decide_eq_true h2
  refine Nat.lt_of_le_of_ne (List.length_filter_le _ _) fun e => ?_
  have q := List.length_filter_eq_length_iff.mp e p h1
  simp only [decide_true, Bool.not_true, Bool.false_or, decide_eq_true_eq] at q
  omega
theorem run_len {g : List Int} {rule : Str} : ∀ {n : Nat} {here : Int} {up : Bool} {s : Int} {left : List (Int × Int)}, (runM g rule n here up s left).length ≤ n
  | 0, _, _, _, _ => Nat.zero_le _
  | _ + 1, _, _, _, [] => Nat.zero_le _
  | n + 1, _, _, _, p :: left => by
    unfold runM
    exact Nat.succ_le_succ run_len
section
variable {K : PySem.W.Frag} {mg : Str → Option Value} {base : Heap} {P : Program} {w : World}
theorem cov_tab {P : Addr} {q : Str} {Rs : List Res} (h : tabR P q ∈ Rs) : Cov (MP P) Rs := fun H0 H k a ha => by
  have e : a = P := ha
  subst e
  obtain ⟨_, ps, h1, _⟩ := k.2 _ h
  exact ⟨_, h1⟩
/-- a house and calls at seconds -/
structure RunOk (g : List Int) (begin_ : Int) (calls : List (Int × Int)) : Prop where
  each : ∀ x ∈ g, 1 ≤ x
  here : 0 ≤ begin_ ∧ begin_ ≤ g.length
  among : ∀ p ∈ calls, 0 ≤ p.2 ∧ p.2 ≤ g.length
  few : calls.length ≤ 1000
abbrev spStops (K : PySem.W.Frag) (C PN : Addr) : Sp := SpF (α := { p : (List Int × List Int) × (Str × Int) × List (Int × Int) // RunOk p.1.1 p.2.1.2 p.2.2 }) (fun _ => MP PN) (fun _ => [tabR PN lamQ]) (fun p => [PHo K C p.1.1.1 p.1.1.2, PD K (.str p.1.2.1.1), PD K (.int p.1.2.1.2), PD K (.list (p.1.2.2.map prD))]) (fun p => PD K (.list ((runM p.1.1.1 p.1.2.1.1 p.1.2.2.length p.1.2.1.2 true 0 p.1.2.2).map prD)))
theorem ok_stops_of (T : Txt K mg) (TB : LamX.TabB base mg T.cN_nearest T.PN_nearest) : FnOk P w K mg base CX0 10 T.f_stops_of T.d_stops_of ["house", "rule", "begin", "calls"] (spStops K T.C_House T.PN_nearest) := by
  refine fn_F T.F_stops_of sc_stops_of (fun _ => rfl) fun ⟨⟨⟨g, b⟩, ⟨rule, bg⟩, cs⟩, hk⟩ Z0 Z Q X qX hQ => ?_
  obtain ⟨cdv, A, outer, s, E, rfl, hr⟩ := qX
  have hk' : RunOk g bg cs := hk
  have few := hk'.few
  refine xs_asg 4 (xe_var 2) ?_ sc_stops_of.nd
  refine xs_asg 5 (xe_bl (K := K)) ?_ sc_stops_of.nd
  refine xs_asg 6 (xe_int (K := K) (i := 0)) ?_ sc_stops_of.nd
  refine xs_asg 7 (xe_listL T.z_list (xe_var 3)) ?_ sc_stops_of.nd
  refine xs_newL 8 (ds := []) (xa_nil) (by simp) (fun q => ?_) (cov_tab (q := lamQ) List.mem_cons_self) sc_stops_of.nd
  refine xs_while PassesOwn.never (fun m Γ1 Rs1 => ∃ (here : Int) (up : Bool) (s : Int) (left acc : List (Int × Int)) (a9 a10 a11 a12 : Option Pd), left.length ≤ m ∧ acc.length + m ≤ 1000 ∧ acc ++ runM g rule m here up s left = runM g rule cs.length bg true 0 cs ∧ (0 ≤ here ∧ here ≤ g.length) ∧ (∀ p ∈ left, 0 ≤ p.2 ∧ p.2 ≤ g.length) ∧
      Γ1 = [some (PHo K T.C_House g b), some (PD K (.str rule)), some (PD K (.int bg)), some (PD K (.list (cs.map prD))), some (PD K (.int here)), some (PD K (.bool up)), some (PD K (.int s)), some (PD K (.list (left.map prD))), some (PV (.ref q)), a9, a10, a11, a12] ∧ Rs1 = [Res.lst Z q ((acc.map prD).map (PD K)), tabR T.PN_nearest lamQ]) cs.length ⟨bg, true, 0, cs, [], none, none, none, none, Nat.le_refl _, by simpa using few, rfl, hk'.here, hk'.among, rfl, rfl⟩ ?_
  rintro m Γ1 Rs1 ⟨here, up, s, left, acc, a9, a10, a11, a12, hm, hz, hR, hh, ha, rfl, rfl⟩
  refine ⟨_, xt_truL (ds := left.map prD) (xe_var 7), fun hb Hs => ?_, fun hb => ?_⟩
  · have hb' : true = !(left.map prD).isEmpty := hb
    cases left with
    | nil => cases hb'
    | cons p left =>
      cases m with
      | zero => simp at hm
      | succ m =>
        have hlen : left.length + 1 ≤ m + 1 := hm
        obtain ⟨s1, hs1⟩ : ∃ s1, s1 = max s p.1 := ⟨_, rfl⟩
        have hp1 : p.1 ≤ s1 := by omega
        have hne : knownM s1 (p :: left) ≠ [] := known_some List.mem_cons_self hp1
        have hin : ∀ f ∈ knownM s1 (p :: left), 0 ≤ f ∧ f ≤ g.length := fun f hf => by
          obtain ⟨x, hx, rfl⟩ := List.mem_map.mp hf
          exact ha x (List.mem_filter.mp hx).1
        have hkl : (knownM s1 (p :: left)).length ≤ 1000 := by
          have := List.length_filter_le (fun x : Int × Int => decide (x.1 ≤ s1)) (p :: left)
          rw [List.length_cons] at this
          unfold knownM
          rw [List.length_map]
          omega
        obtain ⟨f, hf⟩ : ∃ f, f = (stopM g rule here up (knownM s1 (p :: left))).1 := ⟨_, rfl⟩
        obtain ⟨u2, hu2⟩ : ∃ u2, u2 = (stopM g rule here up (knownM s1 (p :: left))).2 := ⟨_, rfl⟩
        have hfm : f ∈ knownM s1 (p :: left) := by
          rw [hf]
          exact stop_mem hne
        have hff := hin f hfm
        obtain ⟨s2, hs2⟩ : ∃ s2, s2 = s1 + far g here f := ⟨_, rfl⟩
        have h12 : s1 ≤ s2 := by
          have := far_nn hk'.each here f
          omega
        refine xs_asg 6 (YE.to (P' := PD K (.int s1)) (xe_max2 T.z_max (xe_var 6) (xe_ixT (d := .int p.1) (xe_ixL (d := prD p) (xe_var 7) xe_int (atI_nat (xs := (p :: left).map prD) (j := 0) rfl)) xe_int (atI_nat (xs := [PyData.int p.1, PyData.int p.2]) (j := 0) rfl))) (by rw [hs1]; rfl)) ?_ sc_stops_of.nd
        refine xs_filtPr (fun x => .int x.1) (fun x => .int x.2) (p :: left) 9 10 11 (by decide) (fun x => .int x.2) (fun x => decide (x.1 ≤ s1)) (xi_list (xe_var 7)) (fun x hx s0 H0 C cl fp => by exact xt_le (K := K) (xe_var 10) (xe_var 6)) (fun x hx _ s0 H0 C cl fp => by exact xe_var 11) ?_ sc_stops_of.nd (blkOk_by rfl) (by rw [List.length_cons]; omega) (cov_tab (q := lamQ) (by simp)) (fun _ _ _ _ _ => pg_tup rfl (pgs_cons (pg_name (i := 10) sc_stops_of.nd rfl (Or.inl rfl)) (pgs_cons (pg_name (i := 11) sc_stops_of.nd rfl (Or.inl rfl)) pgs_nil))) rfl
        have ek : ((p :: left).filter fun x => decide (x.1 ≤ s1)).map (fun x => PyData.int x.2) = li (knownM s1 (p :: left)) := by
          unfold knownM li
          rw [List.map_map]
          rfl
        rw [ek]
        refine xs_unp 11 5 (P := PD K (.int f)) (Q := PD K (.bool u2)) (xe_pt2 (ye_swap (xe_callM (ok_next_stop T TB) (C := PD K (stD (f, u2))) hr T.g_next_stop T.F_next_stop.kp T.b_next_stop (xa_cons (xe_var 0) (xa_cons (xe_var 1) (xa_cons (xe_var 4) (xa_cons (xe_var 5) (xa_1 (xe_var 9)))))) (fun vs H h => ⟨⟨((g, b), (rule, here, up), knownM s1 (p :: left)), hh, hin, hne, hkl⟩, h, rfl, fun _ h => h, fun a ha => by
          have e : a = T.PN_nearest := ha
          simp [tabR, e], fun v H h => by
          rw [hf, hu2]
          exact h⟩)))) ?_ sc_stops_of.nd
        refine xs_addI 6 rfl (xe_meth (ok_House_seconds T) ⟨((g, b), here, f), hh, hff⟩ (xe_var 0) (xa_cons (xe_var 4) (xa_1 (xe_var 11))) rfl rfl T.c_House T.m_House_seconds (hr.mono (by decide)) T.b_House_seconds) ?_ sc_stops_of.nd
        refine xs_app (q := q) (P := PD K (prD (f, s2))) (xe_var 8) (xe_tup (K := K) (ds := [.int f, .int s2]) (xa_cons (xe_var 11) (xa_1 (YE.to (xe_var 6) (by rw [hs2]; rfl)))) (by simp)) (by rw [List.length_map, List.length_map]; omega) ?_ (pe_bm PySem.F.plainAttrs_list PySem.F.slot_list_append PySem.F.type_list_append mt_append pe_wp (pa_cons pe_wp pa_nil))
        refine xs_filtPr (fun x => .int x.1) (fun x => .int x.2) (p :: left) 7 10 12 (by decide) prD (fun x => (!decide (x.2 = f) || decide (s2 < x.1))) (xi_list (xe_var 7)) (fun x hx s0 H0 C cl fp => by exact xt_orB (xt_neI (K := K) (xe_var 12) (xe_var 11)) fun _ => xt_gt (K := K) (xe_var 10) (YE.to (xe_var 6) (by rw [hs2]; rfl))) (fun x hx _ s0 H0 C cl fp => by exact xe_tup (K := K) (ds := [.int x.1, .int x.2]) (xa_cons (xe_var 10) (xa_1 (xe_var 12))) (by simp)) ?_ sc_stops_of.nd (blkOk_by rfl) (by rw [List.length_cons]; omega) (cov_tab (q := lamQ) (by simp)) (fun _ _ _ _ _ => pg_tup rfl (pgs_cons (pg_name (i := 10) sc_stops_of.nd rfl (Or.inl rfl)) (pgs_cons (pg_name (i := 12) sc_stops_of.nd rfl (Or.inl rfl)) pgs_nil))) rfl
        refine xs_asg 4 (xe_var 11) ?_ sc_stops_of.nd
        have hll := still_less h12 hfm
        rw [List.length_cons] at hll
        refine xs_turnW (fun σ H h => h) (Nat.lt_succ_self m) ⟨f, u2, s2, stillM s2 f (p :: left), acc ++ [(f, s2)], some (PD K (.list (li (knownM s1 (p :: left))))), a10, some (PD K (.int f)), a12, by omega, by simp; omega, ?_, hff, fun x hx => ha x (List.mem_filter.mp hx).1, ?_, by simp⟩
        · rw [← hR, List.append_assoc]
          refine congrArg (acc ++ ·) ?_
          rw [run_one, ← hs1, ← hf, ← hu2, ← hs2]
          rfl
        · rw [hs2]
          rfl
  · have hb' : false = !(left.map prD).isEmpty := hb
    cases left with
    | cons p left => cases hb'
    | nil =>
      rw [runM_nil, List.append_nil] at hR
      subst hR
      refine xs_frzK (ds := (runM g rule cs.length bg true 0 cs).map prD) 8 rfl rfl ?_
      exact xs_ret (xe_var 8) fun v H0 H s k hv => hQ v H0 H s ⟨by simp [tabR], fun r hr => k.2 r hr⟩ hv
end
end K61
namespace K61
open PySem L2 Lh
open LhL (ltK tabR LamP)
/-! ### a night that is served -/
def servedM (g : List Int) (rule : Str) (bg : Int) (cs : List Int) : List (Int × Int) := runM g rule cs.length bg true 0 (cs.map fun f => (0, f))
structure NightOk (g : List Int) (rule : Str) (bg : Int) (cs : List Int) : Prop where
  gaps : GapsOk g
  rule : rule ∈ Rules
  here : 0 ≤ bg ∧ bg ≤ g.length
  calls : CallsOk g cs
theorem CallsOk.few {g cs : List Int} (h : CallsOk g cs) : cs.length ≤ g.length + 1 := by
  have q := List.nodup_range' (s := 0) (n := g.length + 1)
  have sub : cs ⊆ rgI 0 (g.length + 1) := fun f hf => mem_rgI.mpr (by
    have := h.among f hf
    omega)
  have := h.once.length_le_of_subset sub
  rwa [rgI_len] at this
section
variable {K : PySem.W.Frag} {mg : Str → Option Value} {base : Heap} {P : Program} {w : World}
abbrev spServed (K : PySem.W.Frag) (C PN : Addr) : Sp := SpF (α := { p : (List Int × List Int) × (Str × Int) × List Int // NightOk p.1.1 p.2.1.1 p.2.1.2 p.2.2 }) (fun _ => MP PN) (fun _ => [tabR PN lamQ]) (fun p => [PHo K C p.1.1.1 p.1.1.2, PD K (.str p.1.2.1.1), PD K (.int p.1.2.1.2), PD K (.tuple (li p.1.2.2))]) (fun p => PD K (.list ((servedM p.1.1.1 p.1.2.1.1 p.1.2.1.2 p.1.2.2).map prD)))
theorem ok_served (T : Txt K mg) (TB : LamX.TabB base mg T.cN_nearest T.PN_nearest) : FnOk P w K mg base CX0 11 T.f_served T.d_served ["house", "rule", "begin", "calls"] (spServed K T.C_House T.PN_nearest) := by
  refine fn_F T.F_served sc_served (fun _ => rfl) fun ⟨⟨⟨g, b⟩, ⟨rule, bg⟩, cs⟩, hk⟩ Z0 Z Q X qX hQ => ?_
  obtain ⟨cdv, A, outer, s, E, rfl, hr⟩ := qX
  have hk' : NightOk g rule bg cs := hk
  have hl := hk'.calls.few
  have h9 := hk'.gaps.nine
  refine xs_expr (xe_callD (ok_check_rule T) ⟨rule, hk'.rule⟩ (hr.mono (by decide)) T.g_check_rule T.F_check_rule.kp T.b_check_rule (xa_1 (xe_var 1))) ?_
  refine xs_expr (xe_callD (ok_check_floors T) ⟨((g, b), [bg]), fun x hx => by
    have e : x = bg := by simpa using hx
    rw [e]
    exact hk'.here⟩ (hr.mono (by decide)) T.g_check_floors T.F_check_floors.kp T.b_check_floors (xa_cons (xe_var 0) (xa_1 (xe_tup (ds := [.int bg]) (xa_1 (xe_var 2)) (by simp))))) ?_
  refine xs_expr (xe_callD (ok_check_calls T) ⟨((g, b), cs), hk'.calls⟩ (hr.mono (by decide)) T.g_check_calls T.F_check_calls.kp T.b_check_calls (xa_cons (xe_var 0) (xa_1 (xe_var 3)))) ?_
  refine xs_ret (P := PD K (.list ((servedM g rule bg cs).map prD))) (xe_callM (ok_stops_of T TB) hr T.g_stops_of T.F_stops_of.kp T.b_stops_of (xa_cons (xe_var 0) (xa_cons (xe_var 1) (xa_cons (xe_var 2) (xa_1 (P := PD K (.list ((cs.map fun f => ((0 : Int), f)).map prD))) (YE.dat (xe_mapG PyData.int cs 4 (fun f => prD (0, f)) (xi_tup (xe_var 3)) (fun f hf s0 H0 C cl fp => by exact xe_tup (K := K) (ds := [.int 0, .int f]) (xa_cons xe_int (xa_1 (xe_var 4))) (by simp)) sc_served.nd (blkOk_by rfl) (by omega) (cov_tab (q := lamQ) List.mem_cons_self) (fun _ _ _ _ _ => pg_name (i := 4) sc_served.nd rfl (Or.inl rfl))) (by rw [List.map_map]; rfl)))))) (fun vs H h => ⟨⟨((g, b), (rule, bg), cs.map fun f => ((0 : Int), f)), fun x hx => (hk'.gaps.each x hx).1, hk'.here, fun p hp => by
    obtain ⟨f, hf, rfl⟩ := List.mem_map.mp hp
    exact hk'.calls.among f hf, by
    rw [List.length_map]
    omega⟩, h, rfl, fun _ h => h, fun a ha => by
    have e : a = T.PN_nearest := ha
    simp [tabR, e], fun v H h => by
    unfold servedM
    dsimp only at h
    rw [List.length_map] at h
    exact h⟩)) fun v H0 H s k hv => hQ v H0 H s k hv
end
end K61
namespace K61
open PySem L2 Lh
open LhL (ltK tabR LamP)
abbrev tupD (o : List Int) : PyData := .tuple (li o)
section
variable {K : PySem.W.Frag} {mg : Str → Option Value} {base : Heap} {P : Program} {w : World}
theorem li_erase (l : List Int) (k : Nat) : ((li l).map (PD K)).eraseIdx k = (li (l.eraseIdx k)).map (PD K) := by
  induction l generalizing k with
  | nil => cases k <;> rfl
  | cons x xs ih =>
    cases k with
    | zero => rfl
    | succ k =>
      show PD K (.int x) :: ((li xs).map (PD K)).eraseIdx k = PD K (.int x) :: (li (xs.eraseIdx k)).map (PD K)
      rw [ih]
theorem li_snoc (l : List Int) (f : Int) : (li l).map (PD K) ++ [PD K (.int f)] = (li (l ++ [f])).map (PD K) := by
  simp [li]
theorem pick_perm {l : List Int} {k : Nat} {f : Int} (h : l[k]? = some f) : (f :: l.eraseIdx k).Perm l := by
  obtain ⟨hlt, e⟩ := List.getElem?_eq_some_iff.mp h
  have h2 : l = l.take k ++ f :: l.drop (k + 1) := by
    rw [← e, ← List.drop_eq_getElem_cons hlt, List.take_append_drop]
  rw [List.eraseIdx_eq_take_drop_succ]
  conv => rhs; rw [h2]
  exact List.perm_middle.symm
theorem p312 {α : Type} {a b c : α} : [a, b, c].Perm [c, a, b] := List.perm_append_comm (l₁ := [a, b]) (l₂ := [c])
theorem p231 {α : Type} {a b c : α} : [a, b, c].Perm [b, c, a] := List.perm_append_comm (l₁ := [a]) (l₂ := [b, c])
theorem p213 {α : Type} {a b c : α} : [a, b, c].Perm [b, a, c] := List.Perm.swap b a [c]
theorem p321 {α : Type} {a b c : α} : [a, b, c].Perm [c, b, a] := p312.trans (List.Perm.cons c (List.Perm.swap b a []))
abbrev spLCalls (K : PySem.W.Frag) (C : Addr) : Sp := SpF (α := { p : ((Addr × Addr) × List Int × List Int) × Int // p.1.2.1.length ≤ 9 ∧ 0 ≤ p.2 ∧ p.2 ≤ 100 }) (fun p => MB p.1.1.1.1 p.1.1.1.2) (fun p => [Res.box p.1.1.1.1 p.1.1.1.2]) (fun p => [PV (.ref p.1.1.1.1), PHo K C p.1.1.2.1 p.1.1.2.2, PD K (.int p.1.2)])
  (fun p => PEx (fun cs : List Int => CallsOk p.1.1.2.1 cs ∧ (cs.length : Int) ≤ p.1.2) fun cs => PD K (tupD cs))
theorem ok_law_calls (T : Txt K mg) : FnOk P w K mg base CX0 3 T.f__law_calls T.d__law_calls ["_law_box", "_law_house_here", "_law_most"] (spLCalls K T.C_House) := by
  refine fn_F T.F__law_calls sc__law_calls (fun _ => rfl) fun ⟨⟨⟨⟨bx, l⟩, g, b⟩, mo⟩, h9, hm0, hm1⟩ Z0 Z Q X qX hQ => ?_
  obtain ⟨cdv, A, outer, s, E, rfl, hr⟩ := qX
  have h9' : g.length ≤ 9 := h9
  have hm0' : 0 ≤ mo := hm0
  have hm1' : mo ≤ 100 := hm1
  refine xs_parF 3 4 (fe_listRg (n := ((li g).length : Int) + 1) T.z_list T.z_range (xe_add (xe_lenT T.z_len (xe_prop (ok_House_gaps T) (g, b) (xe_var 1) rfl T.c_House T.m_House_gaps (hr.mono (by decide)) T.b_House_gaps)) xe_int) (by simp [li]; omega)) (fun p q => ?_) sc__law_calls.nd
  refine xs_perm (Rs' := [Res.box bx l, Res.lst Z q ((li []).map (PD K)), Res.lst Z p ((li (rgI 0 (((li g).length : Int) + 1).toNat)).map (PD K))]) p312 ?_
  refine xs_forNE 5 (xi_rangeE T.z_range (xe_take T (hr.mono (by decide)) (xe_var 0) (xe_add (xe_var 2) xe_int) (by show 1 ≤ mo + 1; omega) (by show mo + 1 < 1000000; omega) (fun _ h => h)) (fun n hn => by
    have hn' : 0 ≤ n ∧ n < mo + 1 := hn
    omega)) (fun t Γ1 Rs1 => ∃ (left found : List Int) (a5 : Option Pd), found.length ≤ t ∧ (found ++ left).Perm (rgI 0 (g.length + 1)) ∧ Γ1 = [some (PV (.ref bx)), some (PHo K T.C_House g b), some (PD K (.int mo)), some (PV (.ref p)), some (PV (.ref q)), a5] ∧ Rs1 = [Res.box bx l, Res.lst Z q ((li found).map (PD K)), Res.lst Z p ((li left).map (PD K))]) ⟨_, [], none, Nat.le_refl _, ?_, rfl, rfl⟩ ?_ ?_ sc__law_calls.nd
  · have e : (((li g).length : Int) + 1).toNat = g.length + 1 := by simp [li]
    rw [e]
    exact List.Perm.refl _
  · rintro n hn t Qt Γ1 Rs1 hq ⟨left, found, a5, hl, hp, rfl, rfl⟩ Hs
    have hlen : found.length + left.length = g.length + 1 := by
      have := hp.length_eq
      rw [List.length_append, rgI_len] at this
      exact this
    refine xs_perm (Rs' := [Res.lst Z p ((li left).map (PD K)), Res.box bx l, Res.lst Z q ((li found).map (PD K))]) p312 ?_
    refine xs_if (xt_neN (ds := li left) rfl hr (xe_var 3) (shaped_li left)) (fun hb => ?_) fun hb => ?_
    · have hb' : true = !(li left).isEmpty := hb
      have hpos : 1 ≤ left.length := by
        cases left with
        | nil => cases hb'
        | cons x xs => simp
      refine xs_perm (Rs' := [Res.lst Z q ((li found).map (PD K)), Res.lst Z p ((li left).map (PD K)), Res.box bx l]) p312 ?_
      refine xs_appPop (xe_var 4) (xe_var 3) (ye_perm (Rs' := [Res.box bx l, Res.lst Z p ((li left).map (PD K)), Res.lst Z q ((li found).map (PD K))]) p321 (YE.to (xe_take T (hr.mono (by decide)) (xe_var 0) (ye_perm (Rs' := [Res.lst Z p ((li left).map (PD K)), Res.box bx l, Res.lst Z q ((li found).map (PD K))]) p213 (xe_lenM T.z_len (xe_var 3))) (by simp [li]; omega) (by simp [li]; omega) (fun _ h => h)) rfl)) (by simp [li]; omega) (by simp [li]; omega) (fun k P hP => ?_) (pe_bm PySem.F.plainAttrs_list PySem.F.slot_list_append PySem.F.type_list_append mt_append pe_wp (pa_cons (pe_bm PySem.F.plainAttrs_list PySem.F.slot_list_pop PySem.F.type_list_pop mt_popAt pe_wp (pa_cons pe_wp pa_nil)) pa_nil))
      obtain ⟨f, hf, rfl⟩ : ∃ f, left[k]? = some f ∧ PD K (.int f) = P := by
        have h := hP
        unfold li at h
        rw [List.getElem?_map, List.getElem?_map] at h
        obtain ⟨d, hd, e⟩ := Option.map_eq_some_iff.mp h
        obtain ⟨f, hf, e2⟩ := Option.map_eq_some_iff.mp hd
        subst e2
        exact ⟨f, hf, e⟩
      rw [li_snoc, li_erase]
      refine xs_then (xs_perm p312 (xs_turn (fun σ H h => h) ⟨left.eraseIdx k, found ++ [f], _, by simp; omega, ?_, rfl, rfl⟩))
      rw [List.append_assoc]
      exact ((pick_perm hf).append_left found).trans hp
    · exact xs_then (xs_perm p231 (xs_turn (fun σ H h => h) ⟨left, found, _, by omega, hp, rfl, rfl⟩))
  · rintro n hn Γ1 Rs1 ⟨left, found, a5, hl, hp, rfl, rfl⟩
    have hn' : 0 ≤ n ∧ n < mo + 1 := hn
    have hl2 : (found.length : Int) ≤ mo := by
      have e : ((li (rgI 0 n.toNat)).map (PD K)).length = n.toNat := by simp [li, rgI_len]
      rw [e] at hl
      omega
    have hc : CallsOk g found := ⟨(List.nodup_append.mp (hp.nodup_iff.mpr ((rgI_up _).imp fun h e => by omega))).1, fun f hf => by
      have h := mem_rgI.mp (hp.mem_iff.mp (List.mem_append_left left hf))
      omega⟩
    refine xs_perm (Rs' := [Res.lst Z q ((li found).map (PD K)), Res.lst Z p ((li left).map (PD K)), Res.box bx l]) p231 ?_
    refine xs_frzK 4 rfl rfl ?_
    refine xs_frzK 3 rfl rfl ?_
    exact xs_ret (xe_tupL T.z_tuple (xe_var 4)) fun v H0 H s k hv => hQ v H0 H s k ⟨found, ⟨hc, hl2⟩, hv⟩
end
end K61
/-! min(t, key=lambda x: (.., ..)), t a tuple of ints. -/
namespace LhL
open PySem L2 LamX PySem.W PyProof.Rows
section
variable {X : Cx} {pins : List (Addr × Obj)} {σ : L2.St} {l f a b : Addr} {ns : List Int} {kf : Int → Int × Int} {Gd : Hp → Prop} {R : Result → Shared → Prop}
theorem itT_obj {h : Heap} {i x : Addr} {n : Nat} (e : h.IsTupleIter i x n) : ∃ o, h.get? i = some o ∧ ∀ v, o.data ≠ .cell v := by
  obtain ⟨o, h1, _, h2⟩ := e
  exact ⟨o, h1, fun v z => by
    rw [h2] at z
    cases z⟩
theorem minKT_loop (hh : X.A.handled = none) (hu : X.A.in1.units < cLine) (key : KeyRun X pins σ f ns kf Gd) (hab : a ≠ b) (hla : l ≠ a)
    (hR : ∀ (m : Int) (H : Hp) (z : Shared) (tk : Tok), m ∈ ns → (∀ n ∈ ns, ¬ ltK (kf n) (kf m)) → Inv X pins σ H z → Gd H → R (.ok (.ret (.int m tk))) z) :
    ∀ (r j : Nat) (H : Hp) (s : Shared) (m : Int) (tm : Tok) (kt : Addr) (c : Nat), ns.length - j = r → j ≤ ns.length → Inv X pins σ H s → Gd H → SqT X.K H l (ns.map V.int) → FpOk X pins H a → FpOk X pins H b → s.heap.IsTupleIter a l j →
      s.heap.get? b = some (seqObj "list" #[.int m tm, .ref kt] c) → SqT X.K H kt [.int (kf m).1, .int (kf m).2] → m ∈ ns → (∀ n ∈ ns.take j, ¬ ltK (kf n) (kf m)) →
      codeAny (model X.prog X.w) X.A (.builtin "min.loop" ⟨[.ref a, .ref f, .ref b], []⟩) R s := by
  intro r
  induction r with
  | zero =>
    intro j H s m tm kt c hr hj I gd hl fa fb hit hb hkt hm hbest
    have ej : j = ns.length := by omega
    obtain ⟨its, rv, pl, _⟩ := I.tuple hl
    have hsz : its.toArray.size = ns.length := by rw [List.size_toArray, ← rv.length, List.length_map]
    refine codeAny_builtin PySem.F.entry_min_loop ?_
    rw [Around.under_plainId PySem.F.plain_min_loop _]
    show wpAny _ X.A.in1 (seqItems? (.ref b) >>= _) _ _ s
    refine wpAny_bind (wpAny_seqItems hb rfl (show wpAny _ X.A.in1 (tryCatch (pyNext (.ref a)) _ >>= _) _ _ _ from wpAny_bind (wpAny_tryCatch ?_)))
    refine (Walks.tuple (A := X.A.in1) (by simpa using hh) a l hla its.toArray).done _ _ _ ⟨by rw [hsz, ← ej]; exact hit, pl⟩ fun h' tk hk => ?_
    have I1 : Inv X pins σ H { s with heap := h', toks := tk } := I.turnedL (ch := [a]) hk fun x hx => by
      rw [List.mem_singleton.mp hx]
      exact fa
    have hb' := hk b _ (by simpa using fun e => hab e.symm) hb
    show wpAny _ X.A.in1 (updateSeq b (fun _ => #[]) >>= _) _ _ _
    refine wpAny_bind (wpAny_updateSeq hb' rfl (wpAny_bind (wpAny_letGo (wpAny_pure ?_))))
    have I2 := I1.turnedL (ch := [b]) (h' := h'.update b (Obj.mapSeq fun _ => #[])) (t' := tk) (fun x o hx e => (Heap.get?_update_other _ _ (fun z => hx (by rw [z]; simp))).trans e) fun x hx => by
      rw [List.mem_singleton.mp hx]
      exact fb
    exact hR m H _ tm hm (fun n hn => hbest n (by rw [ej, List.take_length]; exact hn)) I2 gd
  | succ r ih =>
    intro j H s m tm kt c hr hj I gd hl fa fb hit hb hkt hm hbest
    have hlt : j < ns.length := by omega
    obtain ⟨its, rv, pl, _⟩ := I.tuple hl
    have hi := Lh.vals_ints rv
    have hsz : its.toArray.size = ns.length := by rw [List.size_toArray, ← rv.length, List.length_map]
    refine codeAny_builtin PySem.F.entry_min_loop ?_
    rw [Around.under_plainId PySem.F.plain_min_loop _]
    show wpAny _ X.A.in1 (seqItems? (.ref b) >>= _) _ _ s
    refine wpAny_bind (wpAny_seqItems hb rfl (show wpAny _ X.A.in1 (tryCatch (pyNext (.ref a)) _ >>= _) _ _ _ from wpAny_bind (wpAny_tryCatch ?_)))
    refine (Walks.tuple (A := X.A.in1) (by simpa using hh) a l hla its.toArray).item j _ _ _ (by rw [hsz]; exact hlt) ⟨hit, pl⟩ fun v h' tk hv hst hk => ?_
    obtain ⟨tn, en⟩ := IntsAre.int_at hi j v (by simpa using hv)
    have en2 : v = .int ns[j] tn := by rw [en, List.getD_eq_getElem?_getD, List.getElem?_eq_getElem hlt]; rfl
    subst en2
    have hn : ns[j] ∈ ns := List.getElem_mem hlt
    have I1 : Inv X pins σ H { s with heap := h', toks := tk } := I.turnedL (ch := [a]) hk fun x hx => by
      rw [List.mem_singleton.mp hx]
      exact fa
    have hb' : h'.get? b = _ := hk b _ (by simpa using fun e => hab e.symm) hb
    have I2 := I1.pinned (fp := [a, b]) (fun x hx => by
      rcases List.mem_cons.mp hx with e | e
      · rw [e]
        exact fa
      · rw [List.mem_singleton.mp e]
        exact fb) fun x hx => by
      rcases List.mem_cons.mp hx with e | e
      · rw [e]
        exact itT_obj hst.1
      · rw [List.mem_singleton.mp e]
        exact is_obj hb'
    show wpAny _ X.A.in1 (tryCatch (holding [.int ns[j] tn] (call (.ref f) [.int ns[j] tn])) _ >>= _) _ _ _
    refine wpAny_bind (wpAny_tryCatch (wpAny_holding (wpAny_mono (key _ ns[j] hn H _ tn I2 gd) (fun u z hz => ?_) fun _ _ hF => hF.elim)))
    obtain ⟨H', I3, gd', ext, t, rfl, hT⟩ := hz
    have pin : ∀ x ∈ [a, b], ∀ o, h'.get? x = some o → z.heap.get? x = some o ∧ H' x = none := fun x hx o e =>
      let q := I3.pin (x, o) (List.mem_append_right _ (List.mem_append_right _ (mem_pinsAt hx e)))
      ⟨q.1, q.2.1⟩
    have I4 : Inv X pins σ H' z := I3.unpinned
    have hbz := pin b (by simp) _ hb'
    obtain ⟨oa, ha1, ha2, ha3⟩ := hst.1
    have haz := pin a (by simp) _ ha1
    have hkt' := sqT_ext ext hkt
    show wpAny _ X.A.in1 (tryCatch (holding [.int ns[j] tn, .ref t] (richCompare .Lt (.ref t) (.ref kt) >>= _)) _ >>= _) _ _ _
    refine wpAny_bind (wpAny_tryCatch (wpAny_holding (wpAny_bind (pair_lt I4 hT hkt' hu _ _ _ _ ?_))))
    refine wpAny_bind (wpAny_holding (wpAny_truthy_bool (wpAny_bind (wpAny_letGo (wpAny_pure ?_)))))
    by_cases better : ltK (kf ns[j]) (kf m)
    · simp only [better, decide_true, if_true]
      refine wpAny_bind (wpAny_updateSeq hbz.1 rfl (wpAny_bind (wpAny_letGo ?_)))
      obtain ⟨c2, hc2⟩ : ∃ c2, (z.heap.update b (Obj.mapSeq fun _ => #[.int ns[j] tn, .ref t])).get? b = some (seqObj "list" #[.int ns[j] tn, .ref t] c2) := ⟨_, get?_update_seq hbz.1 fun _ => #[.int ns[j] tn, .ref t]⟩
      have other : ∀ x o, x ≠ b → z.heap.get? x = some o → (z.heap.update b (Obj.mapSeq fun _ => #[.int ns[j] tn, .ref t])).get? x = some o := fun x o hx e => (Heap.get?_update_other _ _ (Ne.symm hx)).trans e
      have I5 := I4.turnedL (ch := [b]) (t' := z.toks) (fun x o hx e => other x o (fun q => hx (by rw [q]; simp)) e) fun x hx => by
        rw [List.mem_singleton.mp hx]
        exact fp_to fb hbz.2
      refine wpAny_pure ⟨plainId_quiet PySem.F.plain_min_loop _, ih (j + 1) H' _ ns[j] tn t c2 (by omega) hlt I5 gd' (sqT_ext ext hl) (fp_to fa haz.2) (fp_to fb hbz.2) ⟨oa, other a _ hab haz.1, ha2, ha3⟩ hc2 hT hn fun n hn' => ?_⟩
      rw [List.take_add_one, List.getElem?_eq_getElem hlt] at hn'
      rcases List.mem_append.mp hn' with q | q
      · have h1 := hbest n q
        unfold ltK at h1 better ⊢
        omega
      · have e : n = ns[j] := by simpa using q
        rw [e]
        unfold ltK
        omega
    · simp only [better, decide_false, Bool.false_eq_true, if_false]
      refine wpAny_bind (wpAny_letGo ?_)
      refine wpAny_pure ⟨plainId_quiet PySem.F.plain_min_loop _, ih (j + 1) H' z m tm kt c (by omega) hlt I4 gd' (sqT_ext ext hl) (fp_to fa haz.2) (fp_to fb hbz.2) ⟨oa, haz.1, ha2, ha3⟩ hbz.1 hkt' hm fun n hn' => ?_⟩
      rw [List.take_add_one, List.getElem?_eq_getElem hlt] at hn'
      rcases List.mem_append.mp hn' with q | q
      · exact hbest n q
      · have e : n = ns[j] := by simpa using q
        rw [e]
        exact better
theorem minKT_call {Q E : Value → Shared → Prop} {H : Hp} {s : Shared} (hh : X.A.handled = none) (hu : X.A.in1.units < cLine) (key : KeyRun X pins σ f ns kf Gd) (hne : 0 < ns.length) (I : Inv X pins σ H s) (gd : Gd H) (hl : SqT X.K H l (ns.map V.int))
    (hQ : ∀ (m : Int) (H : Hp) (z : Shared) (tk : Tok), m ∈ ns → (∀ n ∈ ns, ¬ ltK (kf n) (kf m)) → Inv X pins σ H z → Gd H → Q (.int m tk) z) :
    wpAny (model X.prog X.w) X.A (call (.builtin "min") [.ref l] [(Str.ofString "key", .ref f)]) Q E s := by
  obtain ⟨its, rv, pl, _⟩ := I.tuple hl
  have hi := Lh.vals_ints rv
  have hsz : its.toArray.size = ns.length := by rw [List.size_toArray, ← rv.length, List.length_map]
  have hll : l < s.heap.objs.size := by
    obtain ⟨o, e, _⟩ := pl
    exact Heap.lt_size e
  refine kmk_tree PySem.F.kind_min PySem.F.plain_min PySem.F.entry_min (kmk_min_key _ _) ?_
  show wpAny _ X.A.in1 (Builtin.Builtins.bindParams "min" ["key", "default"] 0 ⟨[], [(Str.ofString "key", .ref f)]⟩ >>= _) _ _ s
  refine wpAny_bind (wpAny_of_eq (show Builtin.Builtins.bindParams "min" ["key", "default"] 0 ⟨[], [(Str.ofString "key", .ref f)]⟩ = pure [some (.ref f), none] from rfl) (wpAny_bind (wpAny_pure (wpAny_bind (wpAny_pyIter_tuple pl (wpAny_bind (wpAny_newList ?_ (Nat.zero_le _))))))))
  have hname : (toString "min" ++ toString ".loop" : String) = "min.loop" := by decide
  rw [hname]
  have eb : (s.heap.push { cls := .type "tuple_iterator", data := .fields #[.ref l, .int 0 0] }).objs.size = s.heap.objs.size + 1 := size_push' ..
  rw [eb]
  have grown : ∀ b o, s.heap.get? b = some o → ((s.heap.push { cls := .type "tuple_iterator", data := .fields #[.ref l, .int 0 0] }).push (seqObj "list" #[] 0)).get? b = some o := fun b o e => Heap.get?_push_of_some _ (Heap.get?_push_of_some _ e)
  have I1 := I.kept (t' := s.toks) grown
  have fa : FpOk X pins H s.heap.objs.size := I.fpOk (Nat.le_refl _) (I.hok.fresh (Nat.le_refl _))
  have fb : FpOk X pins H (s.heap.objs.size + 1) := I.fpOk (Nat.le_succ _) (I.hok.fresh (Nat.le_succ _))
  have ga : ((s.heap.push { cls := .type "tuple_iterator", data := .fields #[.ref l, .int 0 0] }).push (seqObj "list" #[] 0)).IsTupleIter s.heap.objs.size l 0 := ⟨_, Heap.get?_push_of_some _ (Heap.get?_push_size _ rfl), rfl, rfl⟩
  have gb : ((s.heap.push { cls := .type "tuple_iterator", data := .fields #[.ref l, .int 0 0] }).push (seqObj "list" #[] 0)).get? (s.heap.objs.size + 1) = some (seqObj "list" #[] 0) := by
    rw [← eb]
    exact Heap.get?_push_size _ rfl
  obtain ⟨its', rv', pl', _⟩ := I1.tuple hl
  generalize hs1 : ({ s with heap := (s.heap.push { cls := .type "tuple_iterator", data := .fields #[.ref l, .int 0 0] }).push (seqObj "list" #[] 0), toks := s.toks } : Shared) = s1 at I1 pl'
  have h1 : s1.heap = (s.heap.push { cls := .type "tuple_iterator", data := .fields #[.ref l, .int 0 0] }).push (seqObj "list" #[] 0) := by rw [← hs1]
  have nab : s.heap.objs.size ≠ s.heap.objs.size + 1 := Nat.ne_of_lt (Nat.lt_succ_self _)
  rw [← h1] at ga gb
  generalize s.heap.objs.size + 1 = b at nab fb gb ⊢
  generalize hae : s.heap.objs.size = a at nab fa ga ⊢
  have hla : l ≠ a := by
    rw [← hae]
    exact Nat.ne_of_lt hll
  have hi' := Lh.vals_ints rv'
  have hsz' : its'.toArray.size = ns.length := by rw [List.size_toArray, ← rv'.length, List.length_map]
  refine wpAny_pure ⟨plainId_quiet PySem.F.plain_min_loop _, ?_⟩
  show codeAny _ X.A (.builtin "min.loop" ⟨[.ref a, .ref f, .ref b], []⟩) _ s1
  refine codeAny_builtin PySem.F.entry_min_loop ?_
  rw [Around.under_plainId PySem.F.plain_min_loop _]
  show wpAny _ X.A.in1 (seqItems? (.ref b) >>= _) _ _ s1
  refine wpAny_bind (wpAny_seqItems gb rfl (show wpAny _ X.A.in1 (tryCatch (pyNext (.ref a)) _ >>= _) _ _ _ from wpAny_bind (wpAny_tryCatch ?_)))
  refine (Walks.tuple (A := X.A.in1) (by simpa using hh) a l hla its'.toArray).item 0 _ _ _ (by rw [hsz']; exact hne) ⟨ga, pl'⟩ fun v h' tk hv hst hk => ?_
  obtain ⟨tn, en⟩ := IntsAre.int_at hi' 0 v (by simpa using hv)
  have en2 : v = .int ns[0] tn := by rw [en, List.getD_eq_getElem?_getD, List.getElem?_eq_getElem hne]; rfl
  subst en2
  have hn : ns[0] ∈ ns := List.getElem_mem hne
  have I2 : Inv X pins σ H { s1 with heap := h', toks := tk } := I1.turnedL (ch := [a]) hk fun x hx => by
    rw [List.mem_singleton.mp hx]
    exact fa
  have hb' : h'.get? b = _ := hk b _ (by simpa using fun e => nab e.symm) gb
  have I3 := I2.pinned (fp := [a, b]) (fun x hx => by
    rcases List.mem_cons.mp hx with e | e
    · rw [e]
      exact fa
    · rw [List.mem_singleton.mp e]
      exact fb) fun x hx => by
    rcases List.mem_cons.mp hx with e | e
    · rw [e]
      exact itT_obj hst.1
    · rw [List.mem_singleton.mp e]
      exact is_obj hb'
  show wpAny _ X.A.in1 (tryCatch (holding [.int ns[0] tn] (call (.ref f) [.int ns[0] tn])) _ >>= _) _ _ _
  refine wpAny_bind (wpAny_tryCatch (wpAny_holding (wpAny_mono (key _ ns[0] hn H _ tn I3 gd) (fun u z hz => ?_) fun _ _ hF => hF.elim)))
  obtain ⟨H', I4, gd', ext, t, rfl, hT⟩ := hz
  have pin : ∀ x ∈ [a, b], ∀ o, h'.get? x = some o → z.heap.get? x = some o ∧ H' x = none := fun x hx o e =>
    let q := I4.pin (x, o) (List.mem_append_right _ (List.mem_append_right _ (mem_pinsAt hx e)))
    ⟨q.1, q.2.1⟩
  have I5 : Inv X pins σ H' z := I4.unpinned
  have hbz := pin b (by simp) _ hb'
  obtain ⟨oa, ha1, ha2, ha3⟩ := hst.1
  have haz := pin a (by simp) _ ha1
  show wpAny _ X.A.in1 (updateSeq b (fun _ => #[.int ns[0] tn, .ref t]) >>= _) _ _ _
  refine wpAny_bind (wpAny_updateSeq hbz.1 rfl ?_)
  obtain ⟨c2, hc2⟩ : ∃ c2, (z.heap.update b (Obj.mapSeq fun _ => #[.int ns[0] tn, .ref t])).get? b = some (seqObj "list" #[.int ns[0] tn, .ref t] c2) := ⟨_, get?_update_seq hbz.1 fun _ => #[.int ns[0] tn, .ref t]⟩
  have other : ∀ x o, x ≠ b → z.heap.get? x = some o → (z.heap.update b (Obj.mapSeq fun _ => #[.int ns[0] tn, .ref t])).get? x = some o := fun x o hx e => (Heap.get?_update_other _ _ (Ne.symm hx)).trans e
  have I6 := I5.turnedL (ch := [b]) (t' := z.toks) (fun x o hx e => other x o (fun q => hx (by rw [q]; simp)) e) fun x hx => by
    rw [List.mem_singleton.mp hx]
    exact fp_to fb hbz.2
  rw [hname]
  refine wpAny_pure ⟨plainId_quiet PySem.F.plain_min_loop _, minKT_loop hh hu key nab hla (fun m H z tk h1 h2 J g => hQ m H z tk h1 h2 J g) _ 1 H' _ ns[0] tn t c2 rfl hne I6 gd' (sqT_ext ext hl) (fp_to fa haz.2) (fp_to fb hbz.2) ⟨oa, other a _ nab haz.1, ha2, ha3⟩ hc2 hT hn fun n hn' => ?_⟩
  have e : n = ns[0] := by
    rw [List.take_one] at hn'
    cases ns with
    | nil => exact absurd hne (by simp)
    | cons x xs => simpa using hn'
  rw [e]
  unfold ltK
  omega
end
end LhL
namespace LhL
open PySem L2 LamX PySem.W PyProof.Rows Lh
open Evl (Ex ex_l ex_t ex_rd fresh_back)
section
variable {M : Addr → Prop} {Γ : Ct} {Rs : List Res} {X : Cx}
theorem xe_minLamT {q0 : Str} {kw x : Str} {xs body : Expr} {params : Arguments} {scope : Scope} {np lp kp pos : Pos} {c P : Addr} {ns : List Int} {kf : Int → Int × Int} {k : Nat} (hm : X.mg "min" = none) (TB : TabB X.base X.mg c P) (hcode : X.env.code = .ref c) (hq0 : X.env.qual ++ "<lambda>" = q0) (hM : M P) (L : LamP X.env.scope scope x) (hx : x ∉ X.N)
    (hdef : defaultsOf params X.env = ([], [])) (hr : Room (k + 3) X.A) (hxs : XE M Γ (tabR P q0 :: Rs) X xs (PD X.K (.tuple (li ns)))) (hne : 0 < ns.length)
    (hb : ∀ (f c' : Addr) (pm ctv : Value) (u : Value), bindArgs (kla_fn "<lambda>" (X.env.qual ++ "<lambda>") params body scope (cloFrom X.env.cells scope.names []) pm (.ref c') ctv) ⟨[u], []⟩ = pure [(x, u)])
    (hbody : ∀ n ∈ ns, ∀ (A : Around) (outer : List Env) (s : Shared) (H : Hp) (f c' : Addr), Room k (lamPx X x A outer s H scope f c').A → XE M0 (Γ ++ [some (PD X.K (.int n))]) [] (lamPx X x A outer s H scope f c') body (PD X.K (.tuple [.int (kf n).1, .int (kf n).2])))
    (hkw : kw = "key" := by rfl) (hg : Gl X "min" := by rfl) (hs : starEach [xs] X.env = (false, eval xs X.env) :: starEach [] X.env := by rfl) (hc : X.calm = true := by rfl) (hpl : (backTo pos (starEach [xs] X.env)).any (·.1) = false := by rfl) :
    XE M Γ (tabR P q0 :: Rs) X (.Call (.Name "min" np) [xs] [⟨some kw, .Lambda params body scope lp, kp⟩] pos) (PEx (fun m => m ∈ ns ∧ ∀ n ∈ ns, ¬ ltK (kf n) (kf m)) fun m => PD X.K (.int m)) := by
  subst hkw hq0
  intro σ H0 H l ex rok Qf q pins s I
  refine wpAny_Call_Name_kw (ld_blt I hg hm (by decide +kernel : bootBuiltins "min" = some (.builtin "min")) ?_)
  have hX := I.ok.hd hc
  refine callWith_kw (L2.thn (pa_wp.run pos pins s σ H (fun vs G1 => ∃ K1, Step M H0 H K1 G1 ∧ Rok (tabR P (X.env.qual ++ "<lambda>") :: Rs) K1 G1 ∧ DAll [PD X.K (.tuple (li ns))] vs K1) I ((xa_1 hxs hs) σ H0 H l ex rok _ fun vs K1 G1 s1 k1 hv => ⟨K1, s1, k1, hv⟩)) fun us s1 hq => ?_) (by rw [hs]; rfl) hpl rfl rfl
  obtain ⟨vs, G1, I1, r1, K1, t1, k1, hv⟩ := hq
  obtain ⟨v, rfl, l1, ys, rfl, hl, hd⟩ := da1 hv
  obtain rfl := hd.ints
  obtain ⟨u, rfl, ru⟩ := r1.one
  obtain rfl : u = Value.ref l1 := ru
  obtain ⟨kP, ps, gP, kn⟩ := k1.2 _ List.mem_cons_self
  have kn1 : Known G1 ps (X.env.qual ++ "<lambda>") := ⟨kn.1, fun pos cv h => by
    obtain ⟨c1, e1, e2⟩ := kn.2 pos cv h
    exact ⟨c1, e1, t1.le _ _ e2⟩⟩
  show wpAny _ _ (evalAll ((do let v ← eval (.Lambda params body scope lp) X.env; standAt pos; pure v) :: [])) _ _ s1
  refine wpAny_evalAll_cons (wpAny_bind (lam_new I1 TB hcode gP kn1 hdef (clo_of L I1.ok) fun f c' pm ctv G2 z I2 made obf fpf hc' => ?_))
  refine wpAny_bind (wpAny_standAt (wpAny_pure (wpAny_evalAll_nil ?_)))
  obtain ⟨K2, t2, k2⟩ := made_step hM t1.le k1 gP kn made
  show wpAny _ X.A (call (.builtin "min") [.ref l1] [(Str.ofString "key", .ref f)]) _ _ z
  have I3 := I2.pinned (fp := [f]) (fun b hb => by
    rw [List.mem_singleton.mp hb]
    exact fpf) fun b hb => by
    rw [List.mem_singleton.mp hb]
    exact ⟨_, obf, fun v e => by cases e⟩
  have Γ2 : Sl Γ σ K2 := (l.ex t1.ex).ex t2.ex
  have run : KeyRun X (pins ++ pinsAt [f] z.heap) σ f ns kf fun G => ∃ K3, Step M0 K2 G2 K3 G := by
    intro pl n hn G y tk J ⟨K3, t3⟩
    have pf := J.pin (f, _) (List.mem_append_right _ (List.mem_append_left _ (List.mem_append_right _ (mem_pinsAt (by simp) obf))))
    have hcG : G c' = some (CodeO c' (X.env.qual ++ "<lambda>")) := t3.un _ _ (fun z => z) hc'
    have hr1 : Room (k + 1) X.A.in1 := (hr.mono (by omega : k + 2 ≤ k + 3)).in1
    refine wpAny_call (codeAny_mono (lamp_run (E := fun _ _ _ => False) (v := .int n) (Q := fun v G' => ∃ K4, Step M0 K3 G K4 G' ∧ (PD X.K (.tuple [.int (kf n).1, .int (kf n).2])).p v K4) J L hx pf.1 hcG J.env0.in1 hr1 (hb f c' pm ctv _) ⟨tk, rfl⟩ fun room => ?_) fun r y' hq => ?_)
    · exact hbody n hn _ _ _ _ _ _ room (σ ++ [some (.int n)]) K3 G (Sl.snoc (Γ2.ex t3.ex) (show (PD X.K (.int n)).p (.int n) K3 from rfl)) t3.le Rok.nil (fun v G' => ∃ K4, Step M0 K3 G K4 G' ∧ (PD X.K (.tuple [.int (kf n).1, .int (kf n).2])).p v K4) fun v K4 G' t4 _ hv4 => ⟨K4, t4, hv4⟩
    · cases r with
      | error e => exact hq.elim
      | ok fl =>
        cases fl with
        | ret u =>
          obtain ⟨v, G', J', rv, K4, t4, t, xs4, rfl, ht, hd4⟩ := J.after hq
          obtain ⟨x1, w1, e1, y1, x2, w2, e2, y2, e3⟩ := hd4
          have y1' : x1 = .int (kf n).1 := y1
          have y2' : x2 = .int (kf n).2 := y2
          subst y1' y2' e3 e2 e1
          obtain rfl : u = Value.ref t := rv
          exact ⟨G', J', ⟨K4, t3.trans t4⟩, fun b o h => t4.un b o (fun z => z) h, t, rfl, ex_t t4.le ht⟩
        | next => exact hq.elim
        | brk => exact hq.elim
        | cont => exact hq.elim
  refine minKT_call (Gd := fun G => ∃ K3, Step M0 K2 G2 K3 G) hX (by have := hr.un; show X.A.units + 1 < cLine; omega) run hne I3 ⟨K2, Step.rfl t2.le⟩ (ex_t (t2.ex.trans t2.le) hl) fun m G y tk hm1 hm2 J ⟨K3, t3⟩ => ?_
  exact ⟨.int m, G, J.unpinned, ⟨tk, rfl⟩, q (.int m) K3 G ((t1.trans t2).trans t3.of0) (k2.step0 t3) ⟨m, ⟨hm1, hm2⟩, rfl⟩⟩
end
end LhL
namespace K61
open PySem L2 Lh
open LhL (ltK tabR LamP)
section
variable {K : PySem.W.Frag} {mg : Str → Option Value} {base : Heap} {P : Program} {w : World}
/-! ### the nearest call -/
abbrev spNearT (K : PySem.W.Frag) (C PN : Addr) : Sp := SpF (α := { p : (List Int × List Int) × Int × List Int // (0 ≤ p.2.1 ∧ p.2.1 ≤ p.1.1.length) ∧ (∀ f ∈ p.2.2, 0 ≤ f ∧ f ≤ p.1.1.length) ∧ 0 < p.2.2.length }) (fun _ => MP PN) (fun _ => [tabR PN lamQ]) (fun p => [PHo K C p.1.1.1 p.1.1.2, PD K (.int p.1.2.1), PD K (.tuple (li p.1.2.2))]) (fun p => PD K (.int (nearM p.1.1.1 p.1.2.1 p.1.2.2)))
theorem ok_nearestT (T : Txt K mg) (TB : LamX.TabB base mg T.cN_nearest T.PN_nearest) : FnOk P w K mg base CX0 8 T.f_nearest T.d_nearest ["house", "here", "calls"] (spNearT K T.C_House T.PN_nearest) := by
  refine LhL.fn_FC T.N_nearest sc_nearest (fun _ => rfl) fun ⟨⟨⟨g, b⟩, here, ns⟩, hh, hns, hne⟩ Z0 Z Q X qX hQ => ?_
  obtain ⟨A, outer, s, E, rfl, hr⟩ := qX
  have hh' : 0 ≤ here ∧ here ≤ g.length := hh
  have hns' : ∀ f ∈ ns, 0 ≤ f ∧ f ≤ g.length := hns
  have hne' : 0 < ns.length := hne
  refine xs_ret (P := PD K (.int (nearM g here ns))) (YE.imp (LhL.xe_minLamT (k := 4) (kf := keyM g here) (x := "floor") T.z_min TB rfl rfl rfl (LhL.lamP_by rfl) (by show ("floor" : Str) ∉ n_nearest; decide +kernel) rfl hr (xe_var 2) hne' (fun f c' pm ctv u => rfl) (fun n hn A' outer' s' H' f c' room => ?_)) fun v H h => ?_) fun v H0 H s k hv => hQ v H0 H s k hv
  · exact xe_tup (K := K) (ds := [.int (far g here n), .int n]) (xa_cons (xe_meth (ok_House_seconds T) ⟨((g, b), here, n), hh', hns' n hn⟩ (xe_var 0) (xa_cons (xe_var 1) (xa_1 (xe_var 3))) rfl rfl T.c_House T.m_House_seconds room T.b_House_seconds) (xa_1 (xe_var 3))) (by simp)
  · obtain ⟨m, ⟨hm1, hm2⟩, hv⟩ := h
    rw [near_eq hm1 hm2]
    exact hv
end
end K61
namespace K61
open PySem L2 Lh
open LhL (ltK tabR LamP)
section
variable {K : PySem.W.Frag} {mg : Str → Option Value} {base : Heap} {P : Program} {w : World}
abbrev spSweepT (K : PySem.W.Frag) : Sp := SpP (α := { p : (Int × Bool) × List Int // p.2 ≠ [] ∧ p.2.length ≤ 1000 }) (fun p => [PD K (.int p.1.1.1), PD K (.bool p.1.1.2), PD K (.tuple (li p.1.2))]) (fun p => PD K (stD (sweepM p.1.1.1 p.1.1.2 p.1.2)))
theorem ok_next_in_sweepT (T : Txt K mg) : FnOk P w K mg base CX0 1 T.f_next_in_sweep T.d_next_in_sweep ["here", "is_up", "calls"] (spSweepT K) := by
  refine fn_F T.F_next_in_sweep sc_next_in_sweep (fun _ => rfl) fun ⟨⟨⟨here, up⟩, cs⟩, hne, hz⟩ Z0 Z Q X qX hQ => ?_
  obtain ⟨cdv, A, outer, s, E, rfl, hr⟩ := qX
  have hne' : cs ≠ [] := hne
  have hz' : cs.length ≤ 1000 := hz
  refine xs_if (xt_inT (xe_var 0) (xe_var 2)) (fun hb => ?_) fun hb => xs_then ?_
  · have hb' : true = decide (here ∈ cs) := hb
    refine xs_ret (YE.dat (xe_tup (K := K) (ds := [.int here, .bool up]) (xa_cons (xe_var 0) (xa_1 (xe_var 1))) (by simp)) ?_) fun v H0 H s k hv => hQ v H0 H s k hv
    show _ = stD (sweepM here up cs)
    unfold sweepM
    rw [if_pos (of_decide_eq_true hb'.symm)]
  have hb' : false = decide (here ∈ cs) := hb
  have hin : here ∉ cs := of_decide_eq_false hb'.symm
  refine xs_filtG PyData.int cs 3 4 (fun n => .int n) (fun f => decide (here < f)) (xi_tup (xe_var 2)) (fun f hf s0 H0 C cl fp => by exact xt_gt (K := K) (xe_var 4) (xe_var 0)) (fun f hf _ s0 H0 C cl fp => by exact xe_var 4) ?_ sc_next_in_sweep.nd (blkOk_by rfl) (by omega) cov0 (fun _ _ _ _ _ => pg_name (i := 4) sc_next_in_sweep.nd rfl (Or.inl rfl)) rfl
  refine xs_filtG PyData.int cs 5 4 (fun n => .int n) (fun f => decide (f < here)) (xi_tup (xe_var 2)) (fun f hf s0 H0 C cl fp => by exact xt_lt (K := K) (xe_var 4) (xe_var 0)) (fun f hf _ s0 H0 C cl fp => by exact xe_var 4) ?_ sc_next_in_sweep.nd (blkOk_by rfl) (by omega) cov0 (fun _ _ _ _ _ => pg_name (i := 4) sc_next_in_sweep.nd rfl (Or.inl rfl)) rfl
  have em : ∀ l : List Int, (l.map fun n => PyData.int n).isEmpty = l.isEmpty := fun l => by cases l <;> rfl
  refine xs_if (B := Is (!(aboveM here cs).isEmpty && (up || (belowM here cs).isEmpty))) (YT.eq (xt_andB (xt_truL (ds := (aboveM here cs).map fun n => PyData.int n) (xe_var 3)) fun _ => xt_orB (xt_bool (K := K) (xe_var 1)) fun _ => xt_notB (xt_truL (ds := (belowM here cs).map fun n => PyData.int n) (xe_var 5))) (by rw [em, em, Bool.not_not])) (fun hb => ?_) fun hb => xs_then ?_
  · have h2 : (!(aboveM here cs).isEmpty && (up || (belowM here cs).isEmpty)) = true := hb.symm
    have h3 : aboveM here cs ≠ [] := fun e => by
      rw [e] at h2
      simp at h2
    refine xs_ret (YE.dat (xe_tup (K := K) (ds := [.int (lowM (aboveM here cs)), .bool true]) (xa_cons (xe_minL (ns := aboveM here cs) T.z_min (xe_var 3) (List.length_pos_iff.mpr h3) fun k h1 h2 => low_eq h1 h2) (xa_1 xe_bl)) (by simp)) ?_) fun v H0 H s k hv => hQ v H0 H s k hv
    show _ = stD (sweepM here up cs)
    unfold sweepM
    rw [if_neg hin, if_pos h2]
  · have h2 : (!(aboveM here cs).isEmpty && (up || (belowM here cs).isEmpty)) = false := hb.symm
    have h3 : belowM here cs ≠ [] := by
      by_cases h4 : aboveM here cs = []
      · exact some_side hin hne' h4
      · intro e
        rw [e] at h2
        have h5 : (aboveM here cs).isEmpty = false := by simpa using h4
        rw [h5] at h2
        simp at h2
    refine xs_ret (YE.dat (xe_tup (K := K) (ds := [.int (topM (belowM here cs)), .bool false]) (xa_cons (xe_maxL (ns := belowM here cs) T.z_max (xe_var 5) (List.length_pos_iff.mpr h3) fun k h1 h2 => top_eq h1 h2) (xa_1 xe_bl)) (by simp)) ?_) fun v H0 H s k hv => hQ v H0 H s k hv
    show _ = stD (sweepM here up cs)
    unfold sweepM
    rw [if_neg hin, if_neg (by rw [h2]; simp)]
abbrev spStopT (K : PySem.W.Frag) (C PN : Addr) : Sp := SpF (α := { p : (List Int × List Int) × (Str × Int × Bool) × List Int // (0 ≤ p.2.1.2.1 ∧ p.2.1.2.1 ≤ p.1.1.length) ∧ (∀ f ∈ p.2.2, 0 ≤ f ∧ f ≤ p.1.1.length) ∧ p.2.2 ≠ [] ∧ p.2.2.length ≤ 1000 }) (fun _ => MP PN) (fun _ => [tabR PN lamQ])
  (fun p => [PHo K C p.1.1.1 p.1.1.2, PD K (.str p.1.2.1.1), PD K (.int p.1.2.1.2.1), PD K (.bool p.1.2.1.2.2), PD K (.tuple (li p.1.2.2))]) (fun p => PD K (stD (stopM p.1.1.1 p.1.2.1.1 p.1.2.1.2.1 p.1.2.1.2.2 p.1.2.2)))
theorem ok_next_stopT (T : Txt K mg) (TB : LamX.TabB base mg T.cN_nearest T.PN_nearest) : FnOk P w K mg base CX0 9 T.f_next_stop T.d_next_stop ["house", "rule", "here", "is_up", "calls"] (spStopT K T.C_House T.PN_nearest) := by
  refine fn_F T.F_next_stop sc_next_stop (fun _ => rfl) fun ⟨⟨⟨g, b⟩, ⟨rule, here, up⟩, cs⟩, hh, hc, hne, hz⟩ Z0 Z Q X qX hQ => ?_
  obtain ⟨cdv, A, outer, s, E, rfl, hr⟩ := qX
  have hh' : 0 ≤ here ∧ here ≤ g.length := hh
  have hc' : ∀ f ∈ cs, 0 ≤ f ∧ f ≤ g.length := hc
  have hne' : cs ≠ [] := hne
  have hz' : cs.length ≤ 1000 := hz
  refine xs_if (xt_eqS (K := K) (xe_var 1) xe_str) (fun hb => ?_) fun hb => xs_then ?_
  · have hb' : rule = "first" := of_decide_eq_true (show true = decide (rule = "first") from hb).symm
    refine xs_ret (YE.dat (xe_tup (K := K) (ds := [.int (cs.headD 0), .bool up]) (xa_cons (xe_ixT (xe_var 4) xe_int ?_) (xa_1 (xe_var 3))) (by simp)) ?_) fun v H0 H s k hv => hQ v H0 H s k hv
    · cases cs with
      | nil => exact absurd rfl hne'
      | cons x xs => exact atI_nat (xs := li (x :: xs)) (j := 0) rfl
    · show _ = stD (stopM g rule here up cs)
      unfold stopM
      rw [if_pos hb']
  have hb1 : ¬ rule = "first" := of_decide_eq_false (show false = decide (rule = "first") from hb).symm
  refine xs_if (xt_eqS (K := K) (xe_var 1) xe_str) (fun hb => ?_) fun hb => xs_then ?_
  · have hb' : rule = "near" := of_decide_eq_true (show true = decide (rule = "near") from hb).symm
    refine xs_ret (YE.dat (xe_tup (K := K) (ds := [.int (nearM g here cs), .bool up]) (xa_cons (xe_callM (ok_nearestT T TB) (C := PD K (.int (nearM g here cs))) hr T.g_nearest T.F_nearest.kp T.b_nearest (xa_cons (xe_var 0) (xa_cons (xe_var 2) (xa_1 (xe_var 4)))) (fun vs H h => ⟨⟨((g, b), here, cs), hh', hc', List.length_pos_iff.mpr hne'⟩, h, rfl, fun _ h => h, fun a ha => by
      have e : a = T.PN_nearest := ha
      simp [tabR, e], fun _ _ h => h⟩)) (xa_1 (xe_var 3))) (by simp)) ?_) fun v H0 H s k hv => hQ v H0 H s k hv
    show _ = stD (stopM g rule here up cs)
    unfold stopM
    rw [if_neg hb1, if_pos hb']
  have hb2 : ¬ rule = "near" := of_decide_eq_false (show false = decide (rule = "near") from hb).symm
  refine xs_ret (YE.dat (xe_callD (ok_next_in_sweepT T) ⟨((here, up), cs), hne', hz'⟩ (hr.mono (by decide)) T.g_next_in_sweep T.F_next_in_sweep.kp T.b_next_in_sweep (xa_cons (xe_var 2) (xa_cons (xe_var 3) (xa_1 (xe_var 4))))) ?_) fun v H0 H s k hv => hQ v H0 H s k hv
  show stD (sweepM here up cs) = stD (stopM g rule here up cs)
  unfold stopM
  rw [if_neg hb1, if_neg hb2]
end
end K61
namespace K61
open PySem L2 Lh LhX
open LhL (ltK tabR LamP)
/-! ### what is heard of stops -/
def goD (g : List Int) (here f : Int) : List PyData := if here = f then [] else [.tuple [.str "go", .int (far g here f)]]
def sndD (g b : List Int) : Int → List Int → List PyData
  | _, [] => []
  | here, f :: fs => (goD g here f ++ [.tuple [.str "bell", .bool (decide (f ∈ b))], .tuple [.str "door"]]) ++ sndD g b f fs
theorem go_len (g : List Int) (h f : Int) : (goD g h f).length ≤ 1 := by
  unfold goD
  split <;> simp
theorem snd_len (g b : List Int) : ∀ (here : Int) (fs : List Int), (sndD g b here fs).length ≤ 3 * fs.length
  | _, [] => Nat.le_refl _
  | here, f :: fs => by
    have h := snd_len g b f fs
    show (_ ++ sndD g b f fs).length ≤ _
    have h2 := go_len g here f
    rw [List.length_append, List.length_append, List.length_cons]
    simp only [List.length_cons, List.length_nil]
    omega
theorem pd_snoc {K : PySem.W.Frag} (ds : List PyData) (d : PyData) : ds.map (PD K) ++ [PD K d] = (ds ++ [d]).map (PD K) := by
  simp
/-! ### a lift at work -/
/-- where it is, its direction, its seconds, its open calls, its stops -/
structure CtlS where
  here : Int
  up : Bool
  clock : Int
  op : List Int
  st : List Int
abbrev restM (f : Int) (xs : List Int) : List Int := xs.filter fun x => !decide (x = f)
def callM (s : CtlS) (f : Int) : CtlS := { s with op := if f ∈ s.op then s.op else s.op ++ [f] }
def nextM (g : List Int) (rule : Str) (s : CtlS) : Int × Bool := stopM g rule s.here s.up s.op
def serveM (g : List Int) (rule : Str) (s : CtlS) : CtlS := ⟨(nextM g rule s).1, (nextM g rule s).2, s.clock + far g s.here (nextM g rule s).1, restM (nextM g rule s).1 s.op, s.st ++ [(nextM g rule s).1]⟩
def toldM (g : List Int) (rule : Str) (s : CtlS) : Int × Int := ((nextM g rule s).1, far g s.here (nextM g rule s).1)
def allM (g : List Int) (rule : Str) : Nat → CtlS → List (Int × Int) × CtlS
  | 0, s => ([], s)
  | n + 1, s => if s.op = [] then ([], s) else (toldM g rule s :: (allM g rule n (serveM g rule s)).1, (allM g rule n (serveM g rule s)).2)
structure CtlOk (g : List Int) (s : CtlS) : Prop where
  here : 0 ≤ s.here ∧ s.here ≤ g.length
  once : s.op.Nodup
  among : ∀ f ∈ s.op, 0 ≤ f ∧ f ≤ g.length
  stops : ∀ f ∈ s.st, 0 ≤ f ∧ f ≤ g.length
theorem up_few {n : Nat} {l : List Int} (nd : l.Nodup) (h : ∀ f ∈ l, 0 ≤ f ∧ f ≤ n) : l.length ≤ n + 1 := by
  have sub : l ⊆ rgI 0 (n + 1) := fun f hf => mem_rgI.mpr (by have := h f hf; omega)
  have := nd.length_le_of_subset sub
  rw [rgI_len] at this
  exact this
theorem CtlOk.few {g : List Int} {s : CtlS} (h : CtlOk g s) : s.op.length ≤ g.length + 1 := up_few h.once h.among
theorem next_in {g : List Int} {rule : Str} {s : CtlS} (h : CtlOk g s) (hne : s.op ≠ []) : (nextM g rule s).1 ∈ s.op ∧ 0 ≤ (nextM g rule s).1 ∧ (nextM g rule s).1 ≤ g.length := by
  have q : (nextM g rule s).1 ∈ s.op := stop_mem hne
  exact ⟨q, h.among _ q⟩
theorem CtlOk.call {g : List Int} {s : CtlS} {f : Int} (h : CtlOk g s) (hf : 0 ≤ f ∧ f ≤ g.length) : CtlOk g (callM s f) := by
  refine ⟨h.here, ?_, ?_, h.stops⟩
  · show (if f ∈ s.op then s.op else s.op ++ [f]).Nodup
    split
    · exact h.once
    · rename_i hn
      exact List.nodup_append.mpr ⟨h.once, by simp, fun x hx y hy e => hn (by
        rw [List.mem_singleton] at hy
        rw [← hy, ← e]
        exact hx)⟩
  · show ∀ x ∈ (if f ∈ s.op then s.op else s.op ++ [f]), _
    split
    · exact h.among
    · intro x hx
      rcases List.mem_append.mp hx with q | q
      · exact h.among x q
      · rw [List.mem_singleton.mp q]
        exact hf
theorem CtlOk.serve {g : List Int} {rule : Str} {s : CtlS} (h : CtlOk g s) (hne : s.op ≠ []) : CtlOk g (serveM g rule s) := by
  have q := next_in (rule := rule) h hne
  refine ⟨q.2, h.once.filter _, fun x hx => h.among x (List.mem_filter.mp hx).1, fun x hx => ?_⟩
  rcases List.mem_append.mp hx with z | z
  · exact h.stops x z
  · rw [List.mem_singleton.mp z]
    exact q.2
theorem serve_less {g : List Int} {rule : Str} {s : CtlS} (h : CtlOk g s) (hne : s.op ≠ []) : (serveM g rule s).op.length < s.op.length :=
  List.length_filter_lt_length_iff_exists.mpr ⟨_, (next_in (rule := rule) h hne).1, by simp⟩
section
variable {K : PySem.W.Frag} {mg : Str → Option Value} {base : Heap} {P : Program} {w : World} {A : Str → Addr}
abbrev ctlF (K : PySem.W.Frag) (CH : Addr) (g b : List Int) (rule : Str) (bg : Int) (q : Addr) (s : CtlS) : List (Str × Pd) := [("_is_up", PD K (.bool s.up)), ("_open_calls", PD K (.tuple (li s.op))), ("_clock", PD K (.int s.clock)), ("_here", PD K (.int s.here)), ("_stops", PV (.ref q)), ("_begin", PD K (.int bg)), ("_rule", PD K (.str rule)), ("_house", PHo K CH g b)]
abbrev ctlR (K : PySem.W.Frag) (CH CC : Addr) (g b : List Int) (rule : Str) (bg : Int) (x dx q : Addr) (s : CtlS) : List Res := [Res.obj CC x dx (ctlF K CH g b rule bg q s), Res.lst Hn q ((li s.st).map (PD K))]
abbrev spSounds (K : PySem.W.Frag) (C : Addr) : Sp := SpF (α := { p : (List Int × List Int) × Int × Addr × List Int // p.1.1.length ≤ 9 ∧ (0 ≤ p.2.1 ∧ p.2.1 ≤ p.1.1.length) ∧ (∀ f ∈ p.2.2.2, 0 ≤ f ∧ f ≤ p.1.1.length) ∧ p.2.2.2.length ≤ 300 }) (fun _ => M0) (fun p => [Res.lst Hn p.1.2.2.1 ((li p.1.2.2.2).map (PD K))]) (fun p => [PHo K C p.1.1.1 p.1.1.2, PD K (.int p.1.2.1), PV (.ref p.1.2.2.1)]) (fun p => PD K (.list (sndD p.1.1.1 p.1.1.2 p.1.2.1 p.1.2.2.2)))
theorem ok_sounds (T : Txt K mg) : FnOk P w K mg base CX0 5 T.f_sounds T.d_sounds ["house", "begin", "stops"] (spSounds K T.C_House) := by
  refine fn_F T.F_sounds sc_sounds (fun _ => rfl) fun ⟨⟨⟨g, b⟩, bg, q, st⟩, h9, hb0, hs, hz⟩ Z0 Z Q X qX hQ => ?_
  obtain ⟨cdv, A1, outer, s, E, rfl, hr⟩ := qX
  have h9' : g.length ≤ 9 := h9
  have hb0' : 0 ≤ bg ∧ bg ≤ g.length := hb0
  have hs' : ∀ f ∈ st, 0 ≤ f ∧ f ≤ g.length := hs
  have hz' : st.length ≤ 300 := hz
  refine xs_expr (xe_callD (ok_check_floors T) ⟨((g, b), bg :: st), fun x hx => by
    rcases List.mem_cons.mp hx with e | h
    · rw [e]
      exact hb0'
    · exact hs' x h⟩ (hr.mono (by decide)) T.g_check_floors T.F_check_floors.kp T.b_check_floors (xa_cons (xe_var 0) (xa_1 (xe_tupSM (q := q) (ns := st) (xe_var 1) (xe_var 2) (by omega))))) ?_
  refine xs_newL 3 (ds := []) xa_nil (by simp) (fun ql => ?_) cov0 sc_sounds.nd
  refine xs_asg 4 (xe_var 1) ?_ sc_sounds.nd
  refine xs_perm (List.Perm.swap _ _ _) ?_
  refine xs_forM (q := q) 5 (xe_var 2) (fun t Γ1 Rs1 => ∃ (acc : List PyData) (h : Int) (a5 : Option Pd), acc.length ≤ 3 * t ∧ (0 ≤ h ∧ h ≤ g.length) ∧ acc ++ sndD g b h (st.drop t) = sndD g b bg st ∧ Γ1 = [some (PHo K T.C_House g b), some (PD K (.int bg)), some (PV (.ref q)), some (PV (.ref ql)), some (PD K (.int h)), a5] ∧ Rs1 = [Res.lst Z ql (acc.map (PD K))]) ⟨[], bg, none, by simp, hb0', rfl, rfl, rfl⟩ ?_ ?_ sc_sounds.nd
  · rintro t Qt Γ1 Rs1 hq ⟨acc, h, a5, hl, hh, hacc, rfl, rfl⟩ Hs
    obtain ⟨d, hd, rfl⟩ := map_at hq
    obtain ⟨f, hf, rfl⟩ := li_at hd
    have htl : t < st.length := (List.getElem?_eq_some_iff.mp hf).1
    have hff := hs' f (List.mem_of_getElem? hf)
    have hdrop : st.drop t = f :: st.drop (t + 1) := by
      rw [List.drop_eq_getElem_cons htl, (List.getElem?_eq_some_iff.mp hf).2]
    rw [hdrop] at hacc
    refine xs_perm (List.Perm.swap _ _ _) ?_
    refine xs_ifJ (fun _ Γ2 Rs2 => Γ2 = [some (PHo K T.C_House g b), some (PD K (.int bg)), some (PV (.ref q)), some (PV (.ref ql)), some (PD K (.int h)), some (PD K (.int f))] ∧ Rs2 = [Res.lst Z ql ((acc ++ goD g h f).map (PD K)), Res.lst Hn q ((li st).map (PD K))]) (xt_neI (K := K) (xe_var 5) (xe_var 4)) (fun hb nx hnx => ?_) (fun hb nx hnx => ?_) ?_
    · have hb' : true = !decide (f = h) := hb
      have hne : ¬ h = f := fun e => by
        rw [e] at hb'
        simp at hb'
      refine xs_app (q := ql) (P := PD K (.tuple [.str "go", .int (far g h f)])) (xe_var 3) (xe_tup (K := K) (ds := [.str "go", .int (far g h f)]) (xa_cons xe_str (xa_1 (xe_meth (ok_House_seconds T) ⟨((g, b), h, f), hh, hff⟩ (xe_var 0) (xa_cons (xe_var 4) (xa_1 (xe_var 5))) rfl rfl T.c_House T.m_House_seconds (hr.mono (by decide)) T.b_House_seconds))) (by simp)) (by simp; omega) ?_ (pe_bm PySem.F.plainAttrs_list PySem.F.slot_list_append PySem.F.type_list_append mt_append pe_wp (pa_cons pe_wp pa_nil))
      exact xs_turn hnx ⟨rfl, by rw [show goD g h f = [.tuple [.str "go", .int (far g h f)]] from if_neg hne, pd_snoc]⟩
    · have hb' : false = !decide (f = h) := hb
      have he : h = f := by
        have e : f = h := by simpa using hb'
        exact e.symm
      exact xs_turn hnx ⟨rfl, by rw [show goD g h f = [] from if_pos he, List.append_nil]⟩
    rintro Γ2 Rs2 ⟨rfl, rfl⟩
    have hgo : (goD g h f).length ≤ 1 := go_len _ _ _
    refine xs_app (q := ql) (P := PD K (.tuple [.str "bell", .bool (decide (f ∈ b))])) (xe_var 3) (xe_tup (K := K) (ds := [.str "bell", .bool (decide (f ∈ b))]) (xa_cons xe_str (xa_1 (xe_inT (xe_var 5) (xe_prop (ok_House_bells T) (g, b) (xe_var 0) rfl T.c_House T.m_House_bells (hr.mono (by decide)) T.b_House_bells)))) (by simp)) (by rw [List.length_map, List.length_append]; omega) ?_ (pe_bm PySem.F.plainAttrs_list PySem.F.slot_list_append PySem.F.type_list_append mt_append pe_wp (pa_cons pe_wp pa_nil))
    rw [pd_snoc]
    refine xs_app (q := ql) (P := PD K (.tuple [.str "door"])) (xe_var 3) (xe_tup (K := K) (ds := [.str "door"]) (xa_1 xe_str) (by simp)) (by rw [List.length_map, List.length_append, List.length_append]; simp; omega) ?_ (pe_bm PySem.F.plainAttrs_list PySem.F.slot_list_append PySem.F.type_list_append mt_append pe_wp (pa_cons pe_wp pa_nil))
    rw [pd_snoc]
    refine xs_asg 4 (xe_var 5) ?_ sc_sounds.nd
    refine xs_perm (List.Perm.swap _ _ _) ?_
    refine xs_turn (fun σ H h => h) ⟨_, rfl, acc ++ goD g h f ++ [.tuple [.str "bell", .bool (decide (f ∈ b))]] ++ [.tuple [.str "door"]], f, _, ?_, hff, ?_, rfl, rfl⟩
    · simp only [List.length_append, List.length_cons, List.length_nil]
      omega
    · rw [← hacc]
      show _ = acc ++ ((_ ++ _) ++ sndD g b f (st.drop (t + 1)))
      simp only [List.append_assoc]
      rfl
  · rintro Γ1 Rs1 ⟨acc, h, a5, hl, hh, hacc, rfl, rfl⟩
    have hlen : ((li st).map (PD K)).length = st.length := by simp [li]
    rw [hlen, List.drop_length] at hacc
    have hacc' : acc = sndD g b bg st := by
      rw [← hacc]
      show acc = acc ++ []
      rw [List.append_nil]
    subst hacc'
    refine xs_perm (List.Perm.swap _ _ _) (xs_frzK (ds := sndD g b bg st) 3 rfl rfl ?_)
    exact xs_ret (xe_var 3) fun v H0 H s k hv => hQ v H0 H s k hv
end
end K61
namespace K61
open PySem L2 Lh LhX
open LhL (ltK tabR LamP)
/-! ### the class, by its methods -/
theorem p3_cab {α : Type} (a b c : α) : [a, b, c].Perm [c, a, b] := List.perm_append_comm (l₁ := [a, b]) (l₂ := [c])
theorem p3_bac {α : Type} (a b c : α) : [a, b, c].Perm [b, a, c] := List.Perm.swap b a [c]
def MC (x q : Addr) : Addr → Prop := fun a => a = x ∨ a = q
def MCP (x q P : Addr) : Addr → Prop := fun a => a = x ∨ a = q ∨ a = P
theorem cov_ctl {CC x dx q P : Addr} {fs : List (Str × Pd)} {Ps : List Pd} {qq : Str} {Rs : List Res} (h1 : Res.obj CC x dx fs ∈ Rs) (h2 : Res.lst Hn q Ps ∈ Rs) (h3 : tabR P qq ∈ Rs) : Cov (MCP x q P) Rs := fun H0 H k a ha => by
  rcases ha with e | e | e
  · subst e
    obtain ⟨_, vs, h, _⟩ := k.2 _ h1
    exact ⟨_, h⟩
  · subst e
    obtain ⟨_, _, xs, h, _⟩ := k.2 _ h2
    exact ⟨_, h⟩
  · subst e
    obtain ⟨_, ps, h, _⟩ := k.2 _ h3
    exact ⟨_, h⟩
section
variable {K : PySem.W.Frag} {mg : Str → Option Value} {base : Heap} {P : Program} {w : World} {A : Str → Addr}
abbrev spInit (K : PySem.W.Frag) (CH CC : Addr) : Sp := SpIO (α := { p : (List Int × List Int) × Str × Int // p.2.1 ∈ Rules ∧ (0 ≤ p.2.2 ∧ p.2.2 ≤ p.1.1.length) }) CC (fun p => [PHo K CH p.1.1.1 p.1.1.2, PD K (.str p.1.2.1), PD K (.int p.1.2.2)]) (fun p x dx q => ctlR K CH CC p.1.1.1 p.1.1.2 p.1.2.1 p.1.2.2 x dx q ⟨p.1.2.2, true, 0, [], []⟩)
theorem ok_Control_init (T : Txt K mg) : FnOk P w K mg base CX0 4 T.f_Control_init T.d_Control_init ["self", "house", "rule", "begin"] (spInit K T.C_House T.C_Control) := by
  refine fn_IO T.F_Control_init sc_Control_init (fun _ => rfl) fun ⟨⟨⟨g, b⟩, rule, bg⟩, hr1, hb1⟩ o dx Z0 Z Q X qX hZ hQ => ?_
  obtain ⟨cdv, A1, outer, s, E, rfl, hr⟩ := qX
  have hr1' : rule ∈ Rules := hr1
  have hb1' : 0 ≤ bg ∧ bg ≤ g.length := hb1
  refine xs_expr (xe_callD (ok_check_rule T) ⟨rule, hr1'⟩ (hr.mono (by decide)) T.g_check_rule T.F_check_rule.kp T.b_check_rule (xa_1 (xe_var 2))) ?_
  refine xs_expr (xe_callD (ok_check_floors T) ⟨((g, b), [bg]), fun x hx => by
    rw [List.mem_singleton.mp hx]
    exact hb1'⟩ (hr.mono (by decide)) T.g_check_floors T.F_check_floors.kp T.b_check_floors (xa_cons (xe_var 1) (xa_1 (xe_tup (K := K) (ds := [.int bg]) (xa_1 (xe_var 3)) (by simp))))) ?_
  refine xs_fld (xe_var 0) (xe_var 1) T.c_Control T.a_Control_house (by simp) rfl (fun _ _ _ _ => hZ) ?_
  refine xs_fld (xe_var 0) (xe_var 2) T.c_Control T.a_Control_rule (by simp) rfl (fun _ _ _ _ => hZ) ?_
  refine xs_fld (xe_var 0) (xe_var 3) T.c_Control T.a_Control_begin (by simp) rfl (fun _ _ _ _ => hZ) ?_
  refine xs_fldL (fun q => xe_var 0) T.c_Control T.a_Control_stops (by simp) rfl fun q hq => ?_
  refine xs_fld (xe_var 0) (xe_var 3) T.c_Control T.a_Control_here (by simp) rfl (fun _ _ _ _ => hZ) ?_
  refine xs_fld (xe_var 0) (xe_int (K := K)) T.c_Control T.a_Control_clock (by simp) rfl (fun _ _ _ _ => hZ) ?_
  refine xs_fld (xe_var 0) (xe_tup (K := K) (ds := []) xa_nil (by simp)) T.c_Control T.a_Control_open_calls (by simp) rfl (fun _ _ _ _ => hZ) ?_
  refine xs_fld (xe_var 0) (xe_bl (K := K)) T.c_Control T.a_Control_is_up (by simp) rfl (fun _ _ _ _ => hZ) ?_
  exact xs_nil fun σ H0 H l s b k => hQ q _ _ hq s (rok_made k (by simp))
/-- a property that tells of a field -/
abbrev spGet (K : PySem.W.Frag) (CC : Addr) (f : Str) : Sp := SpF (α := { p : (Addr × Addr) × List (Str × Pd) × Pd // p.2.1.lookup f = some p.2.2 }) (fun _ => M0) (fun p => [Res.obj CC p.1.1.1 p.1.1.2 p.1.2.1]) (fun p => [PV (.ref p.1.1.1)]) (fun p => p.1.2.2)
theorem ok_Control_here (T : Txt K mg) : FnOk P w K mg base CX0 1 T.f_Control_here T.d_Control_here ["self"] (spGet K T.C_Control "_here") := by
  refine fn_F T.F_Control_here sc_Control_here (fun _ => rfl) fun ⟨⟨⟨x, dx⟩, fs, P1⟩, hl⟩ Z0 Z Q X qX hQ => ?_
  obtain ⟨cdv, A1, outer, s, E, rfl, hr⟩ := qX
  exact xs_ret (xe_fldM (xe_var 0) hl T.c_Control T.a_Control_here) fun v H0 H s k hv => hQ v H0 H s k hv
theorem ok_Control_clock (T : Txt K mg) : FnOk P w K mg base CX0 1 T.f_Control_clock T.d_Control_clock ["self"] (spGet K T.C_Control "_clock") := by
  refine fn_F T.F_Control_clock sc_Control_clock (fun _ => rfl) fun ⟨⟨⟨x, dx⟩, fs, P1⟩, hl⟩ Z0 Z Q X qX hQ => ?_
  obtain ⟨cdv, A1, outer, s, E, rfl, hr⟩ := qX
  exact xs_ret (xe_fldM (xe_var 0) hl T.c_Control T.a_Control_clock) fun v H0 H s k hv => hQ v H0 H s k hv
theorem ok_Control_open_calls (T : Txt K mg) : FnOk P w K mg base CX0 1 T.f_Control_open_calls T.d_Control_open_calls ["self"] (spGet K T.C_Control "_open_calls") := by
  refine fn_F T.F_Control_open_calls sc_Control_open_calls (fun _ => rfl) fun ⟨⟨⟨x, dx⟩, fs, P1⟩, hl⟩ Z0 Z Q X qX hQ => ?_
  obtain ⟨cdv, A1, outer, s, E, rfl, hr⟩ := qX
  exact xs_ret (xe_fldM (xe_var 0) hl T.c_Control T.a_Control_open_calls) fun v H0 H s k hv => hQ v H0 H s k hv
/-- what is told of an object: the house, the rule, the begin; the object, its dict, its list; its state -/
abbrev CtA := ((List Int × List Int) × Str × Int) × (Addr × Addr × Addr) × CtlS
abbrev resA (K : PySem.W.Frag) (CH CC : Addr) (p : CtA) (s : CtlS) : List Res := ctlR K CH CC p.1.1.1 p.1.1.2 p.1.2.1 p.1.2.2 p.2.1.1 p.2.1.2.1 p.2.1.2.2 s
abbrev spCall (K : PySem.W.Frag) (CH CC : Addr) : Sp := SpC (α := { p : CtA × Int // p.1.1.1.1.length ≤ 9 ∧ CtlOk p.1.1.1.1 p.1.2.2 ∧ (0 ≤ p.2 ∧ p.2 ≤ p.1.1.1.1.length) }) (fun p => MC p.1.1.2.1.1 p.1.1.2.1.2.2) (fun p => resA K CH CC p.1.1 p.1.1.2.2) (fun p => resA K CH CC p.1.1 (callM p.1.1.2.2 p.1.2)) (fun p => [PV (.ref p.1.1.2.1.1), PD K (.int p.1.2)]) (fun p => PD K (.int ((callM p.1.1.2.2 p.1.2).op.length : Int)))
theorem ok_Control_call (T : Txt K mg) : FnOk P w K mg base CX0 4 T.f_Control_call T.d_Control_call ["self", "floor"] (spCall K T.C_House T.C_Control) := by
  refine fn_C T.F_Control_call sc_Control_call (fun _ => rfl) fun ⟨⟨⟨⟨⟨g, b⟩, rule, bg⟩, ⟨x, dx, q⟩, s⟩, f⟩, h9, hok, hf⟩ Z0 Z Q X qX hQ => ?_
  obtain ⟨cdv, A1, outer, s0, E, rfl, hr⟩ := qX
  have hk : CtlOk g s := hok
  have h9' : g.length ≤ 9 := h9
  have hf' : 0 ≤ f ∧ f ≤ g.length := hf
  have few := hk.few
  refine xs_expr (xe_callD (ok_check_floors T) ⟨((g, b), [f]), fun y hy => by
    rw [List.mem_singleton.mp hy]
    exact hf'⟩ (hr.mono (by decide)) T.g_check_floors T.F_check_floors.kp T.b_check_floors (xa_cons (xe_fldM (xe_var 0) rfl T.c_Control T.a_Control_house) (xa_1 (xe_tup (K := K) (ds := [.int f]) (xa_1 (xe_var 1)) (by simp))))) ?_
  refine xs_ifJ (fun _ Γ2 Rs2 => Γ2 = [some (PV (.ref x)), some (PD K (.int f))] ∧ Rs2 = ctlR K T.C_House T.C_Control g b rule bg x dx q (callM s f)) (xt_niT (xe_var 1) (xe_fldM (xe_var 0) rfl T.c_Control T.a_Control_open_calls)) (fun hb nx hnx => ?_) (fun hb nx hnx => ?_) ?_
  · have hb' : true = !decide (f ∈ s.op) := hb
    have hn : ¬ f ∈ s.op := by simpa using hb'.symm
    refine xs_wr (P := PD K (.tuple (li (callM s f).op))) (xe_var 0) (YE.dat (xe_tupS (ds := li s.op) (d := .int f) (xe_fldM (xe_var 0) rfl T.c_Control T.a_Control_open_calls) (xe_var 1) (by simp [li]; omega)) ?_) rfl T.c_Control T.a_Control_open_calls (.inl (.inl rfl)) (xs_turn hnx ⟨rfl, rfl⟩)
    show PyData.tuple (li s.op ++ [.int f]) = .tuple (li (if f ∈ s.op then s.op else s.op ++ [f]))
    rw [if_neg hn]
    simp [li]
  · have hb' : false = !decide (f ∈ s.op) := hb
    have hn : f ∈ s.op := by simpa using hb'
    refine xs_turn hnx ⟨rfl, ?_⟩
    have e : callM s f = s := by
      unfold callM
      rw [if_pos hn]
    rw [e]
  rintro Γ2 Rs2 ⟨rfl, rfl⟩
  exact xs_ret (YE.dat (xe_lenT T.z_len (xe_fldM (P := PD K (.tuple (li (callM s f).op))) (xe_var 0) rfl T.c_Control T.a_Control_open_calls)) (by simp [li])) fun v H0 H s k hv => hQ v H0 H s k hv
abbrev spServe (K : PySem.W.Frag) (CH CC PN : Addr) : Sp := SpC (α := { p : CtA // p.1.1.1.length ≤ 9 ∧ CtlOk p.1.1.1 p.2.2 ∧ p.2.2.op ≠ [] ∧ p.2.2.st.length ≤ 300 }) (fun p => MCP p.1.2.1.1 p.1.2.1.2.2 PN) (fun p => resA K CH CC p.1 p.1.2.2 ++ [tabR PN lamQ]) (fun p => resA K CH CC p.1 (serveM p.1.1.1.1 p.1.1.2.1 p.1.2.2) ++ [tabR PN lamQ]) (fun p => [PV (.ref p.1.2.1.1)]) (fun p => PD K (prD (toldM p.1.1.1.1 p.1.1.2.1 p.1.2.2)))
theorem ok_Control_serve (T : Txt K mg) (TB : LamX.TabB base mg T.cN_nearest T.PN_nearest) : FnOk P w K mg base CX0 12 T.f_Control_serve T.d_Control_serve ["self"] (spServe K T.C_House T.C_Control T.PN_nearest) := by
  refine fn_C T.F_Control_serve sc_Control_serve (fun _ => rfl) fun ⟨⟨⟨⟨g, b⟩, rule, bg⟩, ⟨x, dx, q⟩, s⟩, h9, hok, hne, hz⟩ Z0 Z Q X qX hQ => ?_
  obtain ⟨cdv, A1, outer, s0, E, rfl, hr⟩ := qX
  have hk : CtlOk g s := hok
  have h9' : g.length ≤ 9 := h9
  have hne' : s.op ≠ [] := hne
  have hz' : s.st.length ≤ 300 := hz
  have few := hk.few
  have nin := next_in (rule := rule) hk hne'
  obtain ⟨f, ef⟩ : ∃ f, f = (nextM g rule s).1 := ⟨_, rfl⟩
  obtain ⟨u, eu⟩ : ∃ u, u = (nextM g rule s).2 := ⟨_, rfl⟩
  rw [← ef] at nin
  have mN : ∀ a, MP T.PN_nearest a → MCP x q T.PN_nearest a := fun _ h => .inr (.inr h)
  refine xs_skip (YT.eq (xt_notB (xt_truT (ds := li s.op) (xe_fldM (xe_var 0) rfl T.c_Control T.a_Control_open_calls))) ?_) ?_
  · cases h : s.op with
    | nil => exact absurd h hne'
    | cons y ys => rfl
  refine xs_unpFld 1 (P := PD K (.int f)) (Q := PD K (.bool u)) (xe_pts (ds := [.int f, .bool u]) (ye_perm (p3_cab _ _ _) (xe_callM (C := PD K (stD (f, u))) (ok_next_stopT T TB) (hr.mono (by decide)) T.g_next_stop T.F_next_stop.kp T.b_next_stop (ya_perm (p3_cab _ _ _).symm (xa_cons (xe_fldM (xe_var 0) rfl T.c_Control T.a_Control_house) (xa_cons (xe_fldM (xe_var 0) rfl T.c_Control T.a_Control_rule) (xa_cons (xe_fldM (xe_var 0) rfl T.c_Control T.a_Control_here) (xa_cons (xe_fldM (xe_var 0) rfl T.c_Control T.a_Control_is_up) (xa_1 (xe_fldM (xe_var 0) rfl T.c_Control T.a_Control_open_calls))))))) (fun vs H h => ⟨⟨((g, b), (rule, s.here, s.up), s.op), hk.here, hk.among, hne', by show s.op.length ≤ 1000; omega⟩, h, rfl, mN, fun a ha => by
    have e : a = T.PN_nearest := ha
    simp [tabR, e], fun v H hv => by rw [ef, eu]; exact hv⟩)))) (xe_var 0) rfl T.c_Control T.a_Control_is_up (.inl (.inl rfl)) ?_ sc_Control_serve.nd
  refine xs_asg 2 (P := PD K (.int (far g s.here f))) (xe_meth (ok_House_seconds T) ⟨((g, b), s.here, f), hk.here, nin.2⟩ (xe_fldM (xe_var 0) rfl T.c_Control T.a_Control_house) (xa_cons (xe_fldM (xe_var 0) rfl T.c_Control T.a_Control_here) (xa_1 (xe_var 1))) rfl rfl T.c_House T.m_House_seconds (hr.mono (by decide)) T.b_House_seconds) ?_ sc_Control_serve.nd
  refine xs_wr (P := PD K (.tuple (li (restM f s.op)))) (xe_var 0) (YE.dat (xe_tupL T.z_tuple (xe_filtG PyData.int s.op 3 (fun n => .int n) (fun y => !decide (y = f)) (xi_tup (xe_fldM (xe_var 0) rfl T.c_Control T.a_Control_open_calls)) (fun y hy s0 H0 C cl fp => by exact xt_neI (K := K) (xe_var 3) (xe_var 1)) (fun y hy _ s0 H0 C cl fp => by exact xe_var 3) sc_Control_serve.nd (blkOk_by rfl) (by omega) (cov_ctl (qq := lamQ) List.mem_cons_self (List.mem_cons_of_mem _ List.mem_cons_self) (List.mem_cons_of_mem _ (List.mem_cons_of_mem _ List.mem_cons_self))) (fun _ _ _ _ _ => pg_name (i := 3) sc_Control_serve.nd rfl (Or.inl rfl)))) rfl) rfl T.c_Control T.a_Control_open_calls (.inl (.inl rfl)) ?_
  refine xs_wr (P := PD K (.int f)) (xe_var 0) (xe_var 1) rfl T.c_Control T.a_Control_here (.inl (.inl rfl)) ?_
  refine xs_wrAdd (i := s.clock) (j := far g s.here f) (xe_var 0) (xe_var 2) rfl T.c_Control T.a_Control_clock (.inl (.inl rfl)) ?_
  refine xs_perm (p3_bac _ _ _) ?_
  refine xs_appM (q := q) (P := PD K (.int f)) (.inl (.inr (.inl rfl))) (ye_perm (p3_bac _ _ _) (xe_fldM (xe_var 0) rfl T.c_Control T.a_Control_stops)) (xe_var 1) (by simp [li]; omega) ?_ (pe_bm PySem.F.plainAttrs_list PySem.F.slot_list_append PySem.F.type_list_append mt_append pe_wp (pa_cons pe_wp pa_nil))
  rw [li_snoc]
  refine xs_perm (p3_bac _ _ _) ?_
  refine xs_ret (xe_tup (K := K) (ds := [.int f, .int (far g s.here f)]) (xa_cons (xe_var 1) (xa_1 (xe_var 2))) (by simp)) fun v H0 H s1 k hv => hQ v H0 H s1 ?_ ?_
  · have e : serveM g rule s = ⟨f, u, s.clock + far g s.here f, restM f s.op, s.st ++ [f]⟩ := by
      unfold serveM
      rw [← ef, ← eu]
    show Rok (ctlR K T.C_House T.C_Control g b rule bg x dx q (serveM g rule s) ++ [tabR T.PN_nearest lamQ]) H0 H
    rw [e]
    exact k
  · show (PD K (prD (toldM g rule s))).p v H0
    unfold toldM
    rw [← ef]
    exact hv
end
end K61
namespace K61
open PySem L2 Lh LhX
open LhL (ltK tabR LamP)
theorem p4_rot {α : Type} (a b c d : α) : [a, b, c, d].Perm [b, c, d, a] := List.perm_append_comm (l₁ := [a]) (l₂ := [b, c, d])
theorem all_more {g : List Int} {rule : Str} {n : Nat} {s : CtlS} (h : s.op ≠ []) : allM g rule (n + 1) s = (toldM g rule s :: (allM g rule n (serveM g rule s)).1, (allM g rule n (serveM g rule s)).2) := by
  show (if s.op = [] then _ else _) = _
  rw [if_neg h]
theorem all_none {g : List Int} {rule : Str} {n : Nat} {s : CtlS} (h : s.op = []) : allM g rule n s = ([], s) := by
  cases n with
  | zero => rfl
  | succ n =>
    show (if s.op = [] then _ else _) = _
    rw [if_pos h]
section
variable {K : PySem.W.Frag} {mg : Str → Option Value} {base : Heap} {P : Program} {w : World} {A : Str → Addr}
abbrev spServeAll (K : PySem.W.Frag) (CH CC PN : Addr) : Sp := SpC (α := { p : CtA // p.1.1.1.length ≤ 9 ∧ CtlOk p.1.1.1 p.2.2 ∧ p.2.2.st.length + p.2.2.op.length ≤ 300 }) (fun p => MCP p.1.2.1.1 p.1.2.1.2.2 PN) (fun p => resA K CH CC p.1 p.1.2.2 ++ [tabR PN lamQ]) (fun p => resA K CH CC p.1 (allM p.1.1.1.1 p.1.1.2.1 p.1.2.2.op.length p.1.2.2).2 ++ [tabR PN lamQ]) (fun p => [PV (.ref p.1.2.1.1)]) (fun p => PD K (.list ((allM p.1.1.1.1 p.1.1.2.1 p.1.2.2.op.length p.1.2.2).1.map prD)))
theorem ok_Control_serve_all (T : Txt K mg) (TB : LamX.TabB base mg T.cN_nearest T.PN_nearest) : FnOk P w K mg base CX0 13 T.f_Control_serve_all T.d_Control_serve_all ["self"] (spServeAll K T.C_House T.C_Control T.PN_nearest) := by
  refine fn_C T.F_Control_serve_all sc_Control_serve_all (fun _ => rfl) fun ⟨⟨⟨⟨g, b⟩, rule, bg⟩, ⟨x, dx, q⟩, s⟩, h9, hok, hz⟩ Z0 Z Q X qX hQ => ?_
  obtain ⟨cdv, A1, outer, s0, E, rfl, hr⟩ := qX
  have hk : CtlOk g s := hok
  have h9' : g.length ≤ 9 := h9
  have hz' : s.st.length + s.op.length ≤ 300 := hz
  refine xs_newL 1 (ds := []) xa_nil (by simp) (fun ql => ?_) (cov_ctl (qq := lamQ) List.mem_cons_self (List.mem_cons_of_mem _ List.mem_cons_self) (List.mem_cons_of_mem _ (List.mem_cons_of_mem _ List.mem_cons_self))) sc_Control_serve_all.nd
  refine xs_while PassesOwn.never (fun m Γ1 Rs1 => ∃ (s1 : CtlS) (acc : List (Int × Int)), s1.op.length ≤ m ∧ acc.length + m ≤ 400 ∧ CtlOk g s1 ∧ s1.st.length + s1.op.length ≤ 300 ∧ acc ++ (allM g rule m s1).1 = (allM g rule s.op.length s).1 ∧ (allM g rule m s1).2 = (allM g rule s.op.length s).2 ∧
    Γ1 = [some (PV (.ref x)), some (PV (.ref ql))] ∧ Rs1 = Res.lst Z ql ((acc.map prD).map (PD K)) :: (ctlR K T.C_House T.C_Control g b rule bg x dx q s1 ++ [tabR T.PN_nearest lamQ])) s.op.length ⟨s, [], Nat.le_refl _, by simp; omega, hk, hz', rfl, rfl, rfl, rfl⟩ ?_
  rintro m Γ1 Rs1 ⟨s1, acc, hm, ha, hk1, hz1, hA1, hA2, rfl, rfl⟩
  refine ⟨_, yt_perm (List.Perm.swap _ _ _) (xt_truT (ds := li s1.op) (xe_fldM (xe_var 0) rfl T.c_Control T.a_Control_open_calls)), fun hb Hs => ?_, fun hb => ?_⟩
  · have hb' : true = !(li s1.op).isEmpty := hb
    have hne : s1.op ≠ [] := fun e => by
      rw [e] at hb'
      cases hb'
    cases m with
    | zero =>
      have := List.length_pos_iff.mpr hne
      omega
    | succ m =>
      have hless := serve_less (rule := rule) hk1 hne
      have hst : (serveM g rule s1).st.length = s1.st.length + 1 := by simp [serveM]
      rw [all_more hne] at hA1 hA2
      refine xs_appC (q := ql) (M' := MCP x q T.PN_nearest) (P := PD K (prD (toldM g rule s1))) (Rs' := ctlR K T.C_House T.C_Control g b rule bg x dx q (serveM g rule s1) ++ [tabR T.PN_nearest lamQ]) (fun a h => .inl h) (xe_var 1) (yc_perm (p4_rot _ _ _ _) (p4_rot _ _ _ _).symm (xc_meth0 (rs1 := ctlR K T.C_House T.C_Control g b rule bg x dx q s1 ++ [tabR T.PN_nearest lamQ]) (rs2 := ctlR K T.C_House T.C_Control g b rule bg x dx q (serveM g rule s1) ++ [tabR T.PN_nearest lamQ]) (Rs2 := [Res.lst Z ql ((acc.map prD).map (PD K))]) (ok_Control_serve T TB) ⟨(((g, b), rule, bg), (x, dx, q), s1), h9', hk1, hne, by show s1.st.length ≤ 300; omega⟩ (xe_var 0) rfl rfl rfl rfl (fun _ h => h) (fun a h => ?_) List.mem_cons_self rfl T.c_Control T.m_Control_serve (hr.mono (by decide)) T.b_Control_serve)) (by rw [List.length_map, List.length_map]; omega) ?_ (pe_bm PySem.F.plainAttrs_list PySem.F.slot_list_append PySem.F.type_list_append mt_append pe_wp (pa_cons pe_wp pa_nil))
      · have h' : a = x ∨ a = q ∨ a = T.PN_nearest := h
        show a ∈ [x, q, T.PN_nearest]
        simpa using h'
      · refine xs_turnW (fun σ H h => h) (Nat.lt_succ_self m) ⟨serveM g rule s1, acc ++ [toldM g rule s1], by omega, by simp; omega, hk1.serve hne, by omega, ?_, hA2, rfl, ?_⟩
        · rw [← hA1, List.append_assoc]
          rfl
        · rw [List.map_append, List.map_append]
          rfl
  · have hb' : false = !(li s1.op).isEmpty := hb
    have he : s1.op = [] := by
      cases h : s1.op with
      | nil => rfl
      | cons y ys =>
        rw [h] at hb'
        cases hb'
    rw [all_none he] at hA1 hA2
    have hA1' : acc = (allM g rule s.op.length s).1 := by
      rw [← hA1]
      show acc = acc ++ []
      rw [List.append_nil]
    have hA2' : s1 = (allM g rule s.op.length s).2 := hA2
    subst hA1'
    refine xs_frzK (ds := (allM g rule s.op.length s).1.map prD) 1 rfl rfl ?_
    refine xs_ret (xe_var 1) fun v H0 H s2 k hv => hQ v H0 H s2 ?_ hv
    show Rok (ctlR K T.C_House T.C_Control g b rule bg x dx q (allM g rule s.op.length s).2 ++ [tabR T.PN_nearest lamQ]) H0 H
    rw [← hA2']
    exact k
abbrev spHeard (K : PySem.W.Frag) (CH CC : Addr) : Sp := SpC (α := { p : CtA // p.1.1.1.length ≤ 9 ∧ CtlOk p.1.1.1 p.2.2 ∧ (0 ≤ p.1.2.2 ∧ p.1.2.2 ≤ p.1.1.1.length) ∧ p.2.2.st.length ≤ 300 }) (fun _ => M0) (fun p => resA K CH CC p.1 p.1.2.2) (fun p => resA K CH CC p.1 p.1.2.2) (fun p => [PV (.ref p.1.2.1.1)]) (fun p => PD K (.list (sndD p.1.1.1.1 p.1.1.1.2 p.1.1.2.2 p.1.2.2.st)))
theorem ok_Control_heard (T : Txt K mg) : FnOk P w K mg base CX0 6 T.f_Control_heard T.d_Control_heard ["self"] (spHeard K T.C_House T.C_Control) := by
  refine fn_C T.F_Control_heard sc_Control_heard (fun _ => rfl) fun ⟨⟨⟨⟨g, b⟩, rule, bg⟩, ⟨x, dx, q⟩, s⟩, h9, hok, hb0, hz⟩ Z0 Z Q X qX hQ => ?_
  obtain ⟨cdv, A1, outer, s0, E, rfl, hr⟩ := qX
  have hk : CtlOk g s := hok
  exact xs_ret (ye_perm (List.Perm.swap _ _ _) (xe_callM (C := PD K (.list (sndD g b bg s.st))) (ok_sounds T) (hr.mono (by decide)) T.g_sounds T.F_sounds.kp T.b_sounds (ya_perm (List.Perm.swap _ _ _) (xa_cons (xe_fldM (xe_var 0) rfl T.c_Control T.a_Control_house) (xa_cons (xe_fldM (xe_var 0) rfl T.c_Control T.a_Control_begin) (xa_1 (xe_fldM (xe_var 0) rfl T.c_Control T.a_Control_stops))))) (fun vs H h => ⟨⟨((g, b), bg, q, s.st), h9, hb0, hk.stops, hz⟩, h, rfl, fun _ z => z.elim, fun _ z => z.elim, fun _ _ h => h⟩))) fun v H0 H s1 k hv => hQ v H0 H s1 k hv
end
end K61
namespace K61
open PySem L2 Lh LhX
open LhL (ltK tabR LamP)
/-! ### who listens -/
structure LisS where
  ops : List PyData
  kn0 : List KnS
  kn : KnS
  und : List (PyData × KnS)
def LisS.add (S : LisS) (op : PyData) (k : KnS) : LisS := ⟨S.ops ++ [op], S.kn0 ++ [S.kn], k, []⟩
abbrev lisF (K : PySem.W.Frag) (CH CK : Addr) (g b : List Int) (S : LisS) : List (Str × Pd) := [("_undone", PTs K (S.und.map fun u => PTs K [PD K u.1, PKn K CK (g.length + 1) u.2])), ("_known", PTs K (S.kn0.map (PKn K CK (g.length + 1)) ++ [PKn K CK (g.length + 1) S.kn])), ("_operations", PD K (.tuple S.ops)), ("_house", PHo K CH g b)]
abbrev lisR (K : PySem.W.Frag) (CH CK CL : Addr) (g b : List Int) (x dx : Addr) (S : LisS) : List Res := [Res.obj CL x dx (lisF K CH CK g b S)]
abbrev LisA := ((List Int × List Int) × (Addr × Addr)) × LisS
structure LisOk (g : List Int) (S : LisS) : Prop where
  kn : KnOk g S.kn
  ops : S.ops.length < 900
  size : S.kn0.length < 900
theorem ye_ofC {M : Addr → Prop} {Γ : Ct} {Rs : List Res} {t : TE} {P : Pd} (h : YC M Γ Rs Rs t P) : YE M Γ Rs t P := fun σ H0 H l e k Q q => h σ H0 H l e k Q q
section
variable {K : PySem.W.Frag} {mg : Str → Option Value} {base : Heap} {P : Program} {w : World}
abbrev rL (K : PySem.W.Frag) (CH CK CL : Addr) (p : LisA) (S : LisS) : List Res := lisR K CH CK CL p.1.1.1 p.1.1.2 p.1.2.1 p.1.2.2 S
abbrev spLInit (K : PySem.W.Frag) (CH CK CL : Addr) : Sp := SpI CL (α := { p : (List Int × List Int) × List Int // p.1.1.length ≤ 9 ∧ p.2.length ≤ 10 ∧ (∀ x ∈ p.2, 0 ≤ x ∧ x ≤ p.1.1.length) ∧ ¬ totG (p.1.1.length + 1) p.2 [] = 0 }) (fun p => [PHo K CH p.1.1.1 p.1.1.2, PD K (.tuple (li p.1.2))]) (fun p => lisF K CH CK p.1.1.1 p.1.1.2 ⟨[], [], ⟨[], p.1.2, []⟩, []⟩)
theorem ok_Listener_init (T : Txt K mg) : FnOk P w K mg base CX0 11 T.f_Listener_init T.d_Listener_init ["self", "house", "start"] (spLInit K T.C_House T.C_Known T.C_Listener) := by
  refine fn_I T.F_Listener_init sc_Listener_init (fun _ => rfl) fun ⟨⟨⟨g, b⟩, st⟩, h9, hz, hs, ht⟩ o dx Z0 Z Q X qX hZ hQ => ?_
  obtain ⟨cdv, A, outer, sh, E, rfl, hr⟩ := qX
  refine xs_expr (xe_callD (ok_check_floors T) ⟨((g, b), st), hs⟩ (hr.mono (by decide)) T.g_check_floors T.F_check_floors.kp T.b_check_floors (xa_cons (xe_var 1) (xa_1 (xe_var 2)))) ?_
  refine xs_fld (xe_var 0) (xe_var 1) T.c_Listener T.a_Listener_house (by simp) rfl (fun _ _ _ _ => hZ) ?_
  refine xs_fld (xe_var 0) (xe_tup (K := K) (ds := []) xa_nil (by simp)) T.c_Listener T.a_Listener_operations (by simp) rfl (fun _ _ _ _ => hZ) ?_
  refine xs_fld (xe_var 0) (xe_tupP (K := K) (Ps := [PKn K T.C_Known (g.length + 1) ⟨[], st, []⟩]) (xa_1 (xe_callD (ok_beginning T) ⟨((g, b), st), h9, hz, ht⟩ (hr.mono (by decide)) T.g_beginning T.F_beginning.kp T.b_beginning (xa_cons (xe_var 1) (xa_1 (xe_var 2))))) (by simp)) T.c_Listener T.a_Listener_known (by simp) rfl (fun _ _ _ _ => hZ) ?_
  refine xs_fld (xe_var 0) (xe_tupP (K := K) (Ps := []) xa_nil (by simp)) T.c_Listener T.a_Listener_undone (by simp) rfl (fun _ _ _ _ => hZ) ?_
  exact xs_nil fun σ H0 H l s b k => hQ _ _ s k
abbrev spAdd (K : PySem.W.Frag) (CH CK CL : Addr) : Sp := SpC (α := { p : LisA × PyData × KnS // LisOk p.1.1.1.1 p.1.2 }) (fun p => MX p.1.1.1.2.1) (fun p => rL K CH CK CL p.1.1 p.1.1.2) (fun p => rL K CH CK CL p.1.1 (p.1.1.2.add p.1.2.1 p.1.2.2)) (fun p => [PV (.ref p.1.1.1.2.1), PD K p.1.2.1, PKn K CK (p.1.1.1.1.1.length + 1) p.1.2.2]) (fun _ => PD K .none)
theorem ok_Listener__add (T : Txt K mg) : FnOk P w K mg base CX0 1 T.f_Listener__add T.d_Listener__add ["self", "operation", "known"] (spAdd K T.C_House T.C_Known T.C_Listener) := by
  refine fn_C T.F_Listener__add sc_Listener__add (fun _ => rfl) fun ⟨⟨⟨⟨⟨g, b⟩, x, dx⟩, S⟩, op, k⟩, hok⟩ Z0 Z Q X qX hQ => ?_
  obtain ⟨cdv, A1, outer, s0, E, rfl, hr⟩ := qX
  have h1 := LisOk.ops hok
  have h2 := LisOk.size hok
  have h1' : S.ops.length < 900 := h1
  have h2' : S.kn0.length < 900 := h2
  refine xs_wr (P := PD K (.tuple (S.ops ++ [op]))) (xe_var 0) (xe_tupS (xe_fldM (xe_var 0) rfl T.c_Listener T.a_Listener_operations) (xe_var 1) (by omega)) rfl T.c_Listener T.a_Listener_operations (.inl rfl) ?_
  refine xs_wr (P := PTs K ((S.kn0 ++ [S.kn]).map (PKn K T.C_Known (g.length + 1)) ++ [PKn K T.C_Known (g.length + 1) k])) (xe_var 0) (YE.imp (xe_tupSP (xe_fldM (xe_var 0) rfl T.c_Listener T.a_Listener_known) (xe_var 2) (by rw [List.length_append, List.length_map]; simp; omega)) fun v H h => by
    rw [List.map_append]
    exact h) rfl T.c_Listener T.a_Listener_known (.inl rfl) ?_
  refine xs_wr (P := PTs K []) (xe_var 0) (xe_tupP (K := K) (Ps := []) xa_nil (by simp)) rfl T.c_Listener T.a_Listener_undone (.inl rfl) ?_
  exact xs_nil fun σ H0 H l s b k => hQ _ _ _ s k rfl
/-- the last of what is known -/
theorem xe_kn {M : Addr → Prop} {Γ : Ct} {Rs : List Res} {X : Cx} {g b : List Int} {x dx : Addr} {S : LisS} {o i : Expr} {p1 p2 : Pos} (T : Txt K mg) (eK : X.K = K) (ho : XE M Γ (lisR K T.C_House T.C_Known T.C_Listener g b x dx S ++ Rs) X o (PV (.ref x))) (hi : XE M Γ (lisR K T.C_House T.C_Known T.C_Listener g b x dx S ++ Rs) X i (PD X.K (.int (-1)))) (hb : attributeBase o "_known" X.env (eval o X.env) = eval o X.env := by rfl) (hs : PlainIx i := by exact fun _ _ => rfl) :
    XE M Γ (lisR K T.C_House T.C_Known T.C_Listener g b x dx S ++ Rs) X (.Subscript (.Attribute o "_known" p1) i p2) (PKn K T.C_Known (g.length + 1) S.kn) := by
  subst eK
  exact xe_lastP (xe_fldM ho rfl T.c_Listener T.a_Listener_known hb) hi hs
abbrev spFloors (K : PySem.W.Frag) (CH CK CL : Addr) : Sp := SpF (α := { p : LisA // KnOk p.1.1.1 p.2.kn }) (fun _ => M0) (fun p => rL K CH CK CL p.1 p.1.2) (fun p => [PV (.ref p.1.1.2.1)]) (fun p => PD K (.tuple (li (flG (p.1.1.1.1.length + 1) p.1.2.kn.st p.1.2.kn.ls p.1.2.kn.ls.length))))
theorem ok_Listener_floors (T : Txt K mg) : FnOk P w K mg base CX0 2 T.f_Listener_floors T.d_Listener_floors ["self"] (spFloors K T.C_House T.C_Known T.C_Listener) := by
  refine fn_F T.F_Listener_floors sc_Listener_floors (fun _ => rfl) fun ⟨⟨⟨⟨g, b⟩, x, dx⟩, S⟩, hok⟩ Z0 Z Q X qX hQ => ?_
  obtain ⟨cdv, A1, outer, s0, E, rfl, hr⟩ := qX
  have hk : KnOk g S.kn := hok
  refine xs_asg 1 (xe_kn (Rs := []) T rfl (xe_var 0) (xe_neg (K := K) xe_int)) ?_ sc_Listener_floors.nd
  refine xs_ret (xe_tupL T.z_tuple (xe_callD (ok_floors_of T) ⟨((g.length + 1, S.kn), S.kn.ls.length), Nat.le_refl _, hk.ls.ten⟩ (hr.mono (by decide)) T.g_floors_of T.F_floors_of.kp T.b_floors_of (xa_cons (xe_var 1) (xa_1 (YE.dat (xe_lenT T.z_len (xe_fld (xe_var 1) rfl T.c_Known T.a_Knownrows)) ?_))))) fun v H0 H s k hv => hQ v H0 H s k hv
  rw [List.length_map, hk.len]
abbrev spChkM (K : PySem.W.Frag) (CH CK CL : Addr) : Sp := SpC (α := { p : LisA × Nat // KnOk p.1.1.1.1 p.1.2.kn ∧ p.2 ≤ p.1.2.kn.ls.length }) (fun _ => M0) (fun p => rL K CH CK CL p.1.1 p.1.1.2) (fun p => rL K CH CK CL p.1.1 p.1.1.2) (fun p => [PV (.ref p.1.1.1.2.1), PD K (.int (p.1.2 : Nat))]) (fun _ => PD K .none)
theorem ok_Listener__check_moment (T : Txt K mg) : FnOk P w K mg base CX0 1 T.f_Listener__check_moment T.d_Listener__check_moment ["self", "moment"] (spChkM K T.C_House T.C_Known T.C_Listener) := by
  refine fn_C T.F_Listener__check_moment sc_Listener__check_moment (fun _ => rfl) fun ⟨⟨⟨⟨⟨g, b⟩, x, dx⟩, S⟩, m⟩, hok, hm⟩ Z0 Z Q X qX hQ => ?_
  obtain ⟨cdv, A1, outer, s0, E, rfl, hr⟩ := qX
  have hk : KnOk g S.kn := hok
  have hm' : m ≤ S.kn.ls.length := hm
  refine xs_skip (YT.eq (xt_notB (xt_lele (K := K) xe_int (xe_var 1) (YE.dat (xe_lenT T.z_len (xe_fld (xe_kn (Rs := []) T rfl (xe_var 0) (xe_neg (K := K) xe_int)) rfl T.c_Known T.a_Knownrows)) rfl))) ?_) ?_
  · have e : (S.kn.rows.map fun r => PyData.tuple r.ds).length = S.kn.ls.length := by rw [List.length_map, hk.len]
    simp [e]
    omega
  exact xs_nil fun σ H0 H l s b k => hQ _ _ _ s k rfl
abbrev spWayN (K : PySem.W.Frag) (CH CK CL : Addr) : Sp := SpC (α := LisA) (fun _ => M0) (fun p => rL K CH CK CL p p.2) (fun p => rL K CH CK CL p p.2) (fun p => [PV (.ref p.1.2.1)]) (fun p => PD K (.int (p.2.kn.tot p.1.1.1)))
theorem ok_Listener_way_number (T : Txt K mg) : FnOk P w K mg base CX0 2 T.f_Listener_way_number T.d_Listener_way_number ["self"] (spWayN K T.C_House T.C_Known T.C_Listener) := by
  refine fn_C T.F_Listener_way_number sc_Listener_way_number (fun _ => rfl) fun ⟨⟨⟨g, b⟩, x, dx⟩, S⟩ Z0 Z Q X qX hQ => ?_
  obtain ⟨cdv, A1, outer, s0, E, rfl, hr⟩ := qX
  exact xs_ret (xe_callD (ok_way_number_of T) (g.length + 1, S.kn) (hr.mono (by decide)) T.g_way_number_of T.F_way_number_of.kp T.b_way_number_of (xa_1 (xe_kn (Rs := []) T rfl (xe_var 0) (xe_neg (K := K) xe_int)))) fun v H0 H s k hv => hQ v H0 H s k hv
abbrev spFlThen (K : PySem.W.Frag) (CH CK CL : Addr) : Sp := SpC (α := { p : LisA × Nat // KnOk p.1.1.1.1 p.1.2.kn ∧ p.2 ≤ p.1.2.kn.ls.length }) (fun _ => M0) (fun p => rL K CH CK CL p.1.1 p.1.1.2) (fun p => rL K CH CK CL p.1.1 p.1.1.2) (fun p => [PV (.ref p.1.1.1.2.1), PD K (.int (p.1.2 : Nat))]) (fun p => PD K (.list (li (flG (p.1.1.1.1.1.length + 1) p.1.1.2.kn.st p.1.1.2.kn.ls p.1.2))))
theorem ok_Listener_floors_then (T : Txt K mg) : FnOk P w K mg base CX0 2 T.f_Listener_floors_then T.d_Listener_floors_then ["self", "moment"] (spFlThen K T.C_House T.C_Known T.C_Listener) := by
  refine fn_C T.F_Listener_floors_then sc_Listener_floors_then (fun _ => rfl) fun ⟨⟨⟨⟨⟨g, b⟩, x, dx⟩, S⟩, m⟩, hok, hm⟩ Z0 Z Q X qX hQ => ?_
  obtain ⟨cdv, A1, outer, s0, E, rfl, hr⟩ := qX
  have hk : KnOk g S.kn := hok
  have hm' : m ≤ S.kn.ls.length := hm
  refine xs_exprC (M' := M0) (xc_meth (rs1 := lisR K T.C_House T.C_Known T.C_Listener g b x dx S) (rs2 := lisR K T.C_House T.C_Known T.C_Listener g b x dx S) (Rs2 := []) (ok_Listener__check_moment T) ⟨((((g, b), x, dx), S), m), hk, hm'⟩ (xe_var 0) (xa_1 (xe_var 1)) rfl rfl rfl rfl (fun _ h => h) (fun _ h => h.elim) List.mem_cons_self rfl T.c_Listener T.m_Listener__check_moment (hr.mono (by decide)) T.b_Listener__check_moment) (fun _ h => h.elim) ?_
  exact xs_ret (xe_callD (ok_floors_of T) ⟨((g.length + 1, S.kn), m), hm', hk.ls.ten⟩ (hr.mono (by decide)) T.g_floors_of T.F_floors_of.kp T.b_floors_of (xa_cons (xe_kn (Rs := []) T rfl (xe_var 0) (xe_neg (K := K) xe_int)) (xa_1 (xe_var 1)))) fun v H0 H s k hv => hQ v H0 H s k hv
abbrev hearD (r : Row) : PyData := .tuple [.str "hear", .tuple r.ds]
abbrev toldD (m : Nat) (fl : List Int) : PyData := .tuple [.str "told", .int (m : Nat), .tuple (li fl)]
abbrev spHear (K : PySem.W.Frag) (CH CK CL : Addr) : Sp := SpC (α := { p : LisA × Row // LisOk p.1.1.1.1 p.1.2 ∧ p.2.Ok p.1.1.1.1 ∧ p.1.2.kn.ls.length < 1000 ∧ ¬ (p.1.2.kn.more p.1.1.1.1 p.1.1.1.2 p.2).tot p.1.1.1.1 = 0 }) (fun p => MX p.1.1.1.2.1) (fun p => rL K CH CK CL p.1.1 p.1.1.2) (fun p => rL K CH CK CL p.1.1 (p.1.1.2.add (hearD p.1.2) (p.1.1.2.kn.more p.1.1.1.1.1 p.1.1.1.1.2 p.1.2))) (fun p => [PV (.ref p.1.1.1.2.1), PD K (.tuple p.1.2.ds)]) (fun p => PD K (.int ((flG (p.1.1.1.1.1.length + 1) (p.1.1.2.kn.more p.1.1.1.1.1 p.1.1.1.1.2 p.1.2).st (p.1.1.2.kn.more p.1.1.1.1.1 p.1.1.1.1.2 p.1.2).ls (p.1.1.2.kn.more p.1.1.1.1.1 p.1.1.1.1.2 p.1.2).ls.length).length : Nat)))
theorem ok_Listener_hear (T : Txt K mg) : FnOk P w K mg base CX0 11 T.f_Listener_hear T.d_Listener_hear ["self", "row"] (spHear K T.C_House T.C_Known T.C_Listener) := by
  refine fn_C T.F_Listener_hear sc_Listener_hear (fun _ => rfl) fun ⟨⟨⟨⟨⟨g, b⟩, x, dx⟩, S⟩, r⟩, hok, hr0, hz, ht⟩ Z0 Z Q X qX hQ => ?_
  obtain ⟨cdv, A1, outer, s0, E, rfl, hr⟩ := qX
  have hk : LisOk g S := hok
  have hr0' : r.Ok g := hr0
  have hz' : S.kn.ls.length < 1000 := hz
  have h9 : g.length ≤ 9 := by have := hk.kn.ls.ten; omega
  refine xs_expr (xe_callD (ok_check_log T) ⟨((g, b), [r]), fun r2 h2 => by
    rw [List.mem_singleton.mp h2]
    exact hr0', h9⟩ (hr.mono (by decide)) T.g_check_log T.F_check_log.kp T.b_check_log (xa_cons (xe_fldM (xe_var 0) rfl T.c_Listener T.a_Listener_house) (xa_1 (xe_lst (K := K) (ds := [.tuple r.ds]) (xa_1 (xe_var 1)) (by simp))))) ?_
  refine xs_exprC (M' := MX x) (xc_meth (rs1 := lisR K T.C_House T.C_Known T.C_Listener g b x dx S) (rs2 := lisR K T.C_House T.C_Known T.C_Listener g b x dx (S.add (hearD r) (S.kn.more g b r))) (Rs2 := []) (ok_Listener__add T) ⟨((((g, b), x, dx), S), hearD r, S.kn.more g b r), hk⟩ (xe_var 0) (xa_cons (xe_tup (K := K) (ds := [.str "hear", .tuple r.ds]) (xa_cons xe_str (xa_1 (xe_var 1))) (by simp)) (xa_1 (xe_callD (ok_behind_row T) ⟨((g, b), S.kn, r), hk.kn, hz', ht⟩ (hr.mono (by decide)) T.g_behind_row T.F_behind_row.kp T.b_behind_row (xa_cons (xe_fldM (xe_var 0) rfl T.c_Listener T.a_Listener_house) (xa_cons (xe_kn (Rs := []) T rfl (xe_var 0) (xe_neg (K := K) xe_int)) (xa_1 (xe_var 1))))))) rfl rfl rfl rfl (fun _ h => h) (fun a h => by
    have h' : a = x := h
    show a ∈ [x]
    simpa using h') List.mem_cons_self rfl T.c_Listener T.m_Listener__add (hr.mono (by decide)) T.b_Listener__add) (fun _ h => .inl h) ?_
  refine xs_ret (YE.dat (xe_lenT T.z_len (xe_propM (rs1 := lisR K T.C_House T.C_Known T.C_Listener g b x dx (S.add (hearD r) (S.kn.more g b r))) (Rs2 := []) (ok_Listener_floors T) ⟨(((g, b), x, dx), S.add (hearD r) (S.kn.more g b r)), hk.kn.more hz'⟩ (xe_var 0) rfl rfl List.mem_cons_self T.c_Listener T.m_Listener_floors (hr.mono (by decide)) T.b_Listener_floors)) ?_) fun v H0 H s k hv => hQ v H0 H s k hv
  rw [List.length_map]
  rfl
abbrev spTold (K : PySem.W.Frag) (CH CK CL : Addr) : Sp := SpC (α := { p : LisA × Nat × List Int // LisOk p.1.1.1.1 p.1.2 ∧ p.2.1 ≤ p.1.2.kn.ls.length ∧ (∀ f ∈ p.2.2, 0 ≤ f ∧ f ≤ p.1.1.1.1.length) ∧ ¬ (p.1.2.kn.with p.2.1 p.2.2).tot p.1.1.1.1 = 0 }) (fun p => MX p.1.1.1.2.1) (fun p => rL K CH CK CL p.1.1 p.1.1.2) (fun p => rL K CH CK CL p.1.1 (p.1.1.2.add (toldD p.1.2.1 p.1.2.2) (p.1.1.2.kn.with p.1.2.1 p.1.2.2))) (fun p => [PV (.ref p.1.1.1.2.1), PD K (.int (p.1.2.1 : Nat)), PD K (.tuple (li p.1.2.2))]) (fun p => PD K (.int ((p.1.1.2.kn.with p.1.2.1 p.1.2.2).tot p.1.1.1.1.1)))
theorem ok_Listener_told (T : Txt K mg) : FnOk P w K mg base CX0 11 T.f_Listener_told T.d_Listener_told ["self", "moment", "floors"] (spTold K T.C_House T.C_Known T.C_Listener) := by
  refine fn_C T.F_Listener_told sc_Listener_told (fun _ => rfl) fun ⟨⟨⟨⟨⟨g, b⟩, x, dx⟩, S⟩, m, fl⟩, hok, hm, hfl, ht⟩ Z0 Z Q X qX hQ => ?_
  obtain ⟨cdv, A1, outer, s0, E, rfl, hr⟩ := qX
  have hk : LisOk g S := hok
  have hm' : m ≤ S.kn.ls.length := hm
  refine xs_exprC (M' := M0) (xc_meth (rs1 := lisR K T.C_House T.C_Known T.C_Listener g b x dx S) (rs2 := lisR K T.C_House T.C_Known T.C_Listener g b x dx S) (Rs2 := []) (ok_Listener__check_moment T) ⟨((((g, b), x, dx), S), m), hk.kn, hm'⟩ (xe_var 0) (xa_1 (xe_var 1)) rfl rfl rfl rfl (fun _ h => h) (fun _ h => h.elim) List.mem_cons_self rfl T.c_Listener T.m_Listener__check_moment (hr.mono (by decide)) T.b_Listener__check_moment) (fun _ h => h.elim) ?_
  refine xs_expr (xe_callD (ok_check_floors T) ⟨((g, b), fl), hfl⟩ (hr.mono (by decide)) T.g_check_floors T.F_check_floors.kp T.b_check_floors (xa_cons (xe_fldM (xe_var 0) rfl T.c_Listener T.a_Listener_house) (xa_1 (xe_var 2)))) ?_
  refine xs_exprC (M' := MX x) (xc_meth (rs1 := lisR K T.C_House T.C_Known T.C_Listener g b x dx S) (rs2 := lisR K T.C_House T.C_Known T.C_Listener g b x dx (S.add (toldD m fl) (S.kn.with m fl))) (Rs2 := []) (ok_Listener__add T) ⟨((((g, b), x, dx), S), toldD m fl, S.kn.with m fl), hk⟩ (xe_var 0) (xa_cons (xe_tup (K := K) (ds := [.str "told", .int (m : Nat), .tuple (li fl)]) (xa_cons xe_str (xa_cons (xe_var 1) (xa_1 (xe_var 2)))) (by simp)) (xa_1 (xe_callD (ok_with_floors T) ⟨((g, b), S.kn, m, fl), hk.kn, hm', ht⟩ (hr.mono (by decide)) T.g_with_floors T.F_with_floors.kp T.b_with_floors (xa_cons (xe_fldM (xe_var 0) rfl T.c_Listener T.a_Listener_house) (xa_cons (xe_kn (Rs := []) T rfl (xe_var 0) (xe_neg (K := K) xe_int)) (xa_cons (xe_var 1) (xa_1 (xe_var 2)))))))) rfl rfl rfl rfl (fun _ h => h) (fun a h => by
    have h' : a = x := h
    show a ∈ [x]
    simpa using h') List.mem_cons_self rfl T.c_Listener T.m_Listener__add (hr.mono (by decide)) T.b_Listener__add) (fun _ h => .inl h) ?_
  exact xs_ret (ye_ofC (M := MX x) (yc_weak (M := M0) (fun _ h => h.elim) (xc_meth0 (rs1 := lisR K T.C_House T.C_Known T.C_Listener g b x dx (S.add (toldD m fl) (S.kn.with m fl))) (rs2 := lisR K T.C_House T.C_Known T.C_Listener g b x dx (S.add (toldD m fl) (S.kn.with m fl))) (Rs2 := []) (ok_Listener_way_number T) (((g, b), x, dx), S.add (toldD m fl) (S.kn.with m fl)) (xe_var 0) rfl rfl rfl rfl (fun _ h => h) (fun _ h => h.elim) List.mem_cons_self rfl T.c_Listener T.m_Listener_way_number (hr.mono (by decide)) T.b_Listener_way_number))) fun v H0 H s k hv => hQ v H0 H s k hv
end
end K61
namespace K61
open PySem L2 Lh
/-! ### ways that avoid a floor -/
def headW (g b : List Int) (rows : List Row) (x : Int) : List Int := (numsM (g.length + 1) (linksW rows (linksM g b rows) x false)).headD []
theorem meet_end (r : Row) (i e x : Int) : meetM r i e x false = decide (e = x) := by
  cases r <;> rfl
theorem headW_nil {g b : List Int} {x f : Int} (hf : 0 ≤ f ∧ f ≤ g.length) : gtI (headW g b [] x) f = 1 := headM_nil_at (b := b) hf.1 hf.2
theorem headW_at {g b : List Int} {r : Row} {rs : List Row} {x f : Int} (hf : 0 ≤ f ∧ f ≤ g.length) : gtI (headW g b (r :: rs) x) f = sumAt (headW g b rs x) ((nextF g b r f).filter fun o => !decide (o = x)) := by
  have e : headW g b (r :: rs) x = stepM (rowWithout r ((rgI 0 (g.length + 1)).map fun f => nextF g b r f) x false) (headW g b rs x) := rfl
  have hlt : f.toNat < g.length + 1 := by omega
  have hn : ((rgI 0 (g.length + 1)).map fun f => nextF g b r f)[f.toNat]? = some (nextF g b r f) := by
    have : (rgI 0 (g.length + 1))[f.toNat]? = some f := by
      unfold rgI
      simp [hlt]
      omega
    rw [List.getElem?_map, this]
    rfl
  have hw := rowW_at (r := r) (f := x) (gb := false) hn
  have hl : f.toNat < (rowWithout r ((rgI 0 (g.length + 1)).map fun f => nextF g b r f) x false).length := (List.getElem?_eq_some_iff.mp hw).1
  rw [e]
  unfold stepM
  show (List.map (fun es => sumAt (headW g b rs x) es) (rowWithout r ((rgI 0 (g.length + 1)).map fun f => nextF g b r f) x false)).getD f.toNat 0 = _
  rw [List.getD_eq_getElem?_getD, List.getElem?_map, hw]
  show sumAt (headW g b rs x) (withoutM r ((f.toNat : Nat) : Int) (nextF g b r f) x false) = _
  have e2 : withoutM r ((f.toNat : Nat) : Int) (nextF g b r f) x false = (nextF g b r f).filter fun o => !decide (o = x) := by
    unfold withoutM
    exact List.filter_congr fun o _ => by rw [meet_end]
  rw [e2]
theorem headW_le {g b : List Int} {x : Int} : ∀ (rows : List Row) {f : Int}, (0 ≤ f ∧ f ≤ g.length) → gtI (headW g b rows x) f ≤ S g b rows f
  | [], f, hf => by
    rw [headW_nil hf]
    show 1 ≤ gtI (headM g b []) f
    rw [headM_nil_at hf.1 hf.2]
    omega
  | r :: rs, f, hf => by
    rw [headW_at hf]
    show _ ≤ gtI (headM g b (r :: rs)) f
    rw [headM_at hf.1 hf.2]
    unfold sumAt
    rw [sum_without]
    refine sum_le fun o ho => ?_
    have := headW_le (b := b) (x := x) rs (nextF_in hf ho)
    have h0 : 0 ≤ gtI (headM g b rs) o := S_nn o
    show (if o = x then 0 else gtI (headW g b rs x) o) ≤ gtI (headM g b rs) o
    split
    · exact h0
    · exact this
theorem headW_lt {g b : List Int} {x : Int} : ∀ {rows : List Row} {f : Int} {l : List Int}, (0 ≤ f ∧ f ≤ g.length) → Way g b rows f l → x ∈ l → gtI (headW g b rows x) f < S g b rows f
  | [], f, l, hf, h, hx => by
    have h' : l = [] := h
    rw [h'] at hx
    cases hx
  | r :: rs, f, l, hf, ⟨o, l', e, ho, h⟩, hx => by
    rw [headW_at hf]
    show _ < gtI (headM g b (r :: rs)) f
    rw [headM_at hf.1 hf.2]
    unfold sumAt
    rw [sum_without]
    have hor := nextF_in hf ho
    have hp : 0 < gtI (headM g b rs) o := h.pos hor
    refine sum_lt (a := o) (fun z hz => ?_) ho ?_
    · have := headW_le (b := b) (x := x) rs (nextF_in hf hz)
      have h0 : 0 ≤ gtI (headM g b rs) z := S_nn z
      show (if z = x then 0 else gtI (headW g b rs x) z) ≤ gtI (headM g b rs) z
      split
      · exact h0
      · exact this
    · show (if o = x then 0 else gtI (headW g b rs x) o) < gtI (headM g b rs) o
      split
      · exact hp
      · rename_i ne
        rw [e] at hx
        exact headW_lt hor h ((List.mem_cons.mp hx).resolve_left fun q => ne q.symm)
/-- a floor on a way is not judged "never" -/
theorem way_judged {g b st : List Int} {rows : List Row} (hs : ∀ x ∈ st, 0 ≤ x ∧ x ≤ g.length) {f : Int} {l : List Int} (h : Way g b rows f l) (hf : f ∈ st) {x : Int} (hx : x ∈ f :: l) : decide (verdictM g b st rows x false = "never") = false := by
  have hlt : countW g b st rows x false < countM g b st rows := by
    show sumAt (headW g b rows x) (st.filter fun o => !decide (o = x)) < sumAt (headM g b rows) st
    unfold sumAt
    rw [sum_without]
    refine sum_lt (a := f) (fun z hz => ?_) hf ?_
    · have := headW_le (b := b) (x := x) rows (hs z hz)
      have h0 : 0 ≤ gtI (headM g b rows) z := S_nn z
      show (if z = x then 0 else gtI (headW g b rows x) z) ≤ gtI (headM g b rows) z
      split
      · exact h0
      · exact this
    · show (if f = x then 0 else gtI (headW g b rows x) f) < gtI (headM g b rows) f
      split
      · exact h.pos (hs f hf)
      · rename_i ne
        exact headW_lt (hs f hf) h ((List.mem_cons.mp hx).resolve_left fun q => ne q.symm)
  unfold verdictM
  split
  · decide +kernel
  · rw [if_neg (by omega)]
    decide +kernel
end K61
namespace K61
open PySem L2 Lh LhX
/-! ### what is heard of stops, as rows -/
def goR (g : List Int) (here f : Int) : List Row := if here = f then [] else [.go (far g here f)]
def sndR (g b : List Int) : Int → List Int → List Row
  | _, [] => []
  | here, f :: fs => (goR g here f ++ [.bell (decide (f ∈ b)), .door]) ++ sndR g b f fs
def endM (here : Int) : List Int → Int
  | [] => here
  | f :: fs => endM f fs
theorem snd_rows {g b : List Int} : ∀ (here : Int) (fs : List Int), sndD g b here fs = (sndR g b here fs).map fun r => PyData.tuple r.ds
  | _, [] => rfl
  | here, f :: fs => by
    show (goD g here f ++ [.tuple [.str "bell", .bool (decide (f ∈ b))], .tuple [.str "door"]]) ++ sndD g b f fs = ((goR g here f ++ [Row.bell (decide (f ∈ b)), Row.door]) ++ sndR g b f fs).map _
    rw [List.map_append, List.map_append, ← snd_rows f fs]
    congr 2
    unfold goD goR
    split <;> rfl
theorem sndR_len {g b : List Int} (here : Int) (fs : List Int) : (sndR g b here fs).length ≤ 3 * fs.length := by
  have h := snd_len g b here fs
  rw [snd_rows, List.length_map] at h
  exact h
theorem sndR_ok {g b : List Int} (hg : GapsOk g) : ∀ {here : Int} {fs : List Int}, (0 ≤ here ∧ here ≤ g.length) → (∀ f ∈ fs, 0 ≤ f ∧ f ≤ g.length) → ∀ r ∈ sndR g b here fs, r.Ok g
  | _, [], _, _, r, h => by cases h
  | here, f :: fs, h0, h1, r, h => by
    have hf := h1 f List.mem_cons_self
    rcases List.mem_append.mp h with q | q
    · rcases List.mem_append.mp q with q | q
      · unfold goR at q
        split at q
        · cases q
        · rename_i hne
          rw [List.mem_singleton.mp q]
          exact far_bounds hg h0 hf fun e => hne e.symm
      · have q' : r = .bell (decide (f ∈ b)) ∨ r = .door := by simpa using q
        rcases q' with rfl | rfl <;> trivial
    · exact sndR_ok hg hf (fun x hx => h1 x (List.mem_cons_of_mem _ hx)) r q
theorem snd_last {g b : List Int} : ∀ (here : Int) (fs : List Int), sndR g b here fs = [] ∧ fs = [] ∨ ∃ R, sndR g b here fs = R ++ [Row.door]
  | _, [] => .inl ⟨rfl, rfl⟩
  | here, f :: fs => by
    rcases snd_last (g := g) (b := b) f fs with ⟨h, _⟩ | ⟨R, h⟩
    · refine .inr ⟨goR g here f ++ [.bell (decide (f ∈ b))], ?_⟩
      show (goR g here f ++ [Row.bell (decide (f ∈ b)), Row.door]) ++ sndR g b f fs = _
      rw [h]
      simp
    · refine .inr ⟨(goR g here f ++ [.bell (decide (f ∈ b)), .door]) ++ R, ?_⟩
      show (goR g here f ++ [Row.bell (decide (f ∈ b)), Row.door]) ++ sndR g b f fs = _
      rw [h]
      simp
/-- the way that was gone -/
def wayS (g : List Int) : Int → List Int → List Int
  | _, [] => []
  | here, f :: fs => (if here = f then [f, f] else [f, f, f]) ++ wayS g f fs
theorem way_snd {g b : List Int} : ∀ {here : Int} {fs : List Int}, (0 ≤ here ∧ here ≤ g.length) → (∀ f ∈ fs, 0 ≤ f ∧ f ≤ g.length) → Way g b (sndR g b here fs) here (wayS g here fs) ∧ (here :: wayS g here fs)[(sndR g b here fs).length]? = some (endM here fs)
  | here, [], _, _ => ⟨rfl, rfl⟩
  | here, f :: fs, h0, h1 => by
    have hf := h1 f List.mem_cons_self
    obtain ⟨ih, ie⟩ := way_snd (b := b) hf (fun x hx => h1 x (List.mem_cons_of_mem _ hx))
    have hb : f ∈ nextF g b (.bell (decide (f ∈ b))) f := by
      show f ∈ (if decide (f ∈ b) = decide (f ∈ b) then [f] else [])
      rw [if_pos rfl]
      exact List.mem_singleton.mpr rfl
    have hd : f ∈ nextF g b .door f := List.mem_singleton.mpr rfl
    by_cases e : here = f
    · subst e
      have er : sndR g b here (here :: fs) = Row.bell (decide (here ∈ b)) :: Row.door :: sndR g b here fs := by
        show (goR g here here ++ [Row.bell (decide (here ∈ b)), Row.door]) ++ sndR g b here fs = _
        rw [show goR g here here = [] from if_pos rfl]
        rfl
      have ew : wayS g here (here :: fs) = here :: here :: wayS g here fs := by
        show (if here = here then [here, here] else [here, here, here]) ++ wayS g here fs = _
        rw [if_pos rfl]
        rfl
      rw [er, ew]
      exact ⟨⟨here, _, rfl, hb, here, _, rfl, hd, ih⟩, ie⟩
    · have er : sndR g b here (f :: fs) = Row.go (far g here f) :: Row.bell (decide (f ∈ b)) :: Row.door :: sndR g b f fs := by
        show (goR g here f ++ [Row.bell (decide (f ∈ b)), Row.door]) ++ sndR g b f fs = _
        rw [show goR g here f = [.go (far g here f)] from if_neg e]
        rfl
      have ew : wayS g here (f :: fs) = f :: f :: f :: wayS g f fs := by
        show (if here = f then [f, f] else [f, f, f]) ++ wayS g f fs = _
        rw [if_neg e]
        rfl
      have hgo : f ∈ nextF g b (.go (far g here f)) here := by
        show f ∈ (rgI 0 (g.length + 1)).filter fun o => decide (far g here o = far g here f)
        exact List.mem_filter.mpr ⟨mem_rgI.mpr (by omega), by simp⟩
      rw [er, ew]
      exact ⟨⟨f, _, rfl, hgo, f, _, rfl, hb, f, _, rfl, hd, ih⟩, ie⟩
/-! ### the numbers of a listener who hears it all -/
def kA (g b : List Int) (bg : Int) (rows : List Row) : KnS := ⟨rows, [bg], linksM g b rows⟩
theorem kA_more {g b : List Int} {bg : Int} {rows : List Row} {r : Row} : (kA g b bg rows).more g b r = kA g b bg (rows ++ [r]) := by
  show (⟨rows ++ [r], [bg], linksM g b rows ++ [rowL g b r]⟩ : KnS) = ⟨rows ++ [r], [bg], linksM g b (rows ++ [r])⟩
  congr 1
  unfold linksM
  rw [List.map_append]
  rfl
theorem links_len {g b : List Int} {rows : List Row} : (linksM g b rows).length = rows.length := by
  unfold linksM
  rw [List.length_map]
theorem kA_ok {g b : List Int} {bg : Int} {rows : List Row} (h9 : g.length ≤ 9) (hz : rows.length ≤ 1000) : KnOk g (kA g b bg rows) := ⟨LsOk.of_rows h9 hz, links_len.symm, by show 1 ≤ 10; decide⟩
theorem upG_links {g b st : List Int} {rows : List Row} (hs : ∀ x ∈ st, 0 ≤ x ∧ x ≤ g.length) (nd : st.Nodup) : ∀ {t : Nat}, t ≤ rows.length → upG (g.length + 1) st (linksM g b rows) t = upL g b st rows t
  | 0, _ => by
    show v0 (g.length + 1) st = upL g b st rows 0
    unfold v0 upL
    exact List.map_congr_left fun f hf => (up_zero hs nd (fl_in hf)).symm
  | t + 1, ht => by
    have hr : rows[t]? = some rows[t] := List.getElem?_eq_getElem (by omega)
    have hl : (linksM g b rows)[t]? = some ((rgI 0 (g.length + 1)).map fun f => nextF g b rows[t] f) := by
      unfold linksM
      rw [List.getElem?_map, hr]
      rfl
    rw [upG_step hl, upG_links hs nd (by omega)]
    exact upL_step hs hr
theorem sum_in {h : Int → Int} {l : List Int} (hl : l.Nodup) : ∀ {st : List Int}, st.Nodup → (∀ x ∈ st, x ∈ l) → (l.map fun f => (if f ∈ st then (1 : Int) else 0) * h f).sum = (st.map h).sum
  | [], _, _ => by
    have e : (l.map fun f => (if f ∈ ([] : List Int) then (1 : Int) else 0) * h f) = l.map fun _ => (0 : Int) := List.map_congr_left fun f _ => by simp
    rw [e, sum_zero]
    rfl
  | x :: st, nd, hs => by
    obtain ⟨n1, n2⟩ := List.nodup_cons.mp nd
    have e : (l.map fun f => (if f ∈ x :: st then (1 : Int) else 0) * h f) = l.map fun f => (if x = f then (1 : Int) else 0) * h f + (if f ∈ st then (1 : Int) else 0) * h f := List.map_congr_left fun f _ => by
      by_cases q : x = f
      · subst q
        rw [if_pos List.mem_cons_self, if_pos rfl, if_neg n1]
        omega
      · by_cases q2 : f ∈ st
        · rw [if_pos (List.mem_cons_of_mem _ q2), if_neg q, if_pos q2]
          omega
        · rw [if_neg (fun z => (List.mem_cons.mp z).elim (fun z => q z.symm) q2), if_neg q, if_neg q2]
          omega
    rw [e, sum_add, pick_one h hl (hs x List.mem_cons_self), sum_in hl n2 fun y hy => hs y (List.mem_cons_of_mem _ hy), List.map_cons, List.sum_cons]
theorem tot_count {g b st : List Int} {rows : List Row} (hs : ∀ x ∈ st, 0 ≤ x ∧ x ≤ g.length) (nd : st.Nodup) : totG (g.length + 1) st (linksM g b rows) = countM g b st rows := by
  unfold totG thrG
  have e : ((rgI 0 (g.length + 1)).map fun f => gtI (upG (g.length + 1) st (linksM g b rows) 0) f * gtI (headG (g.length + 1) ((linksM g b rows).drop 0)) f) = (rgI 0 (g.length + 1)).map fun f => (if f ∈ st then (1 : Int) else 0) * gtI (headM g b rows) f := List.map_congr_left fun f hf => by
    have hf' := rg_in hf
    show gtI (v0 (g.length + 1) st) f * _ = _
    unfold v0
    rw [rg_at hf'.1 hf'.2]
    rfl
  rw [e, sum_in rg_nodup nd fun x hx => mem_rgI.mpr (by have := hs x hx; omega)]
  rfl
theorem thr_gt {n t : Nat} {st : List Int} {ls : List (List (List Int))} {f : Int} (h0 : 0 ≤ f) (h1 : f < n) : gtI (thrG n st ls t) f = gtI (upG n st ls t) f * gtI (headG n (ls.drop t)) f := by
  unfold thrG
  exact rg_at h0 h1
theorem thr_last {n : Nat} {st : List Int} {ls : List (List (List Int))} {f : Int} (h0 : 0 ≤ f) (h1 : f < n) : gtI (thrG n st ls ls.length) f = gtI (upG n st ls ls.length) f := by
  rw [thr_gt h0 h1, List.drop_length, headG_nil ⟨h0, h1⟩, Int.mul_one]
/-- the floors behind it all -/
theorem fl_last {g b : List Int} {bg : Int} {rows : List Row} (hb : 0 ≤ bg ∧ bg ≤ g.length) : flG (g.length + 1) [bg] (linksM g b rows) rows.length = behM g b rows [bg] := by
  have hs : ∀ x ∈ [bg], 0 ≤ x ∧ x ≤ g.length := fun x hx => by
    rw [List.mem_singleton.mp hx]
    exact hb
  have e : flG (g.length + 1) [bg] (linksM g b rows) rows.length = (rgI 0 (g.length + 1)).filter fun f => decide (f ∈ behM g b rows [bg]) := by
    unfold flG
    refine List.filter_congr fun f hf => ?_
    have hf' := rg_in hf
    have h := thr_last (n := g.length + 1) (st := [bg]) (ls := linksM g b rows) hf'.1 hf'.2
    rw [links_len] at h
    rw [h, upG_links hs (by simp) (Nat.le_refl _), upL_at hf'.1 (by omega)]
    refine decide_eq_decide.mpr ?_
    rw [beh_iff rows hs]
    unfold upM
    rw [List.take_length]
  rw [e]
  refine filter_of_sub ?_ rg_nodup
  rcases List.eq_nil_or_concat rows with h | ⟨R, r, h⟩
  · rw [h]
    show [bg].Sublist (rgI 0 (g.length + 1))
    exact List.singleton_sublist.mpr (mem_rgI.mpr (by omega))
  · rw [h, List.concat_eq_append]
    unfold behM
    rw [List.foldl_append]
    exact List.filter_sublist
/-- at each moment there is a floor -/
theorem fl_some {n t : Nat} {st : List Int} {ls : List (List (List Int))} (h : LsOk n ls) (ht : t ≤ ls.length) (hp : 0 < totG n st ls) : flG n st ls t ≠ [] := fun e => by
  have h1 := tot_all (st := st) h ht
  have h2 : (thrG n st ls t).sum ≤ 0 := by
    have e2 : thrG n st ls t = (rgI 0 n).map (gtI (thrG n st ls t)) := as_map thrG_len
    rw [e2]
    have h3 := sum_cap (c := gtI (thrG n st ls t)) (m := 0) (l := rgI 0 n) fun x hx => by
      rcases Int.lt_or_le 0 (gtI (thrG n st ls t) x) with q | q
      · have : x ∈ flG n st ls t := List.mem_filter.mpr ⟨hx, decide_eq_true q⟩
        rw [e] at this
        cases this
      · exact q
    rw [Int.mul_zero] at h3
    exact h3
  omega
theorem one_of {l : List Int} {a : Int} (nd : l.Nodup) (h : ∀ x ∈ l, x = a) (hne : l ≠ []) : l = [a] := by
  cases l with
  | nil => exact absurd rfl hne
  | cons x xs =>
    have e := h x List.mem_cons_self
    subst e
    cases xs with
    | nil => rfl
    | cons y ys =>
      have e2 := h y (by simp)
      subst e2
      simp at nd
theorem fl_zero {n : Nat} {bg : Int} {ls : List (List (List Int))} (h : LsOk n ls) (hp : 0 < totG n [bg] ls) : flG n [bg] ls 0 = [bg] := by
  refine one_of (rg_nodup.sublist List.filter_sublist) (fun x hx => ?_) (fl_some h (Nat.zero_le _) hp)
  obtain ⟨h1, h2⟩ := List.mem_filter.mp hx
  have hx' := rg_in h1
  have h3 := of_decide_eq_true h2
  rw [thr_gt hx'.1 hx'.2] at h3
  rcases Decidable.em (x = bg) with q | q
  · exact q
  · exfalso
    have e : gtI (upG n [bg] ls 0) x = 0 := by
      show gtI (v0 n [bg]) x = 0
      unfold v0
      rw [rg_at hx'.1 hx'.2, if_neg (by simpa using q)]
    rw [e] at h3
    simp at h3
/-! ### told of floors at the last moment -/
theorem up_with {n : Nat} {s : KnS} {fl : List Int} {t : Nat} (h : LsOk n s.ls) (hl : s.ls.length = t + 1) {x : Int} (hx : 0 ≤ x ∧ x < n) : gtI (upG n (s.with (t + 1) fl).st (s.with (t + 1) fl).ls (t + 1)) x = if x ∈ fl then gtI (upG n s.st s.ls (t + 1)) x else 0 := by
  have e1 : (s.with (t + 1) fl).st = s.st := rfl
  have e2 : (s.with (t + 1) fl).ls = s.ls.set t (restrM fl (s.ls.getD t [])) := rfl
  have hk : s.ls[t]? = some s.ls[t] := List.getElem?_eq_getElem (by omega)
  have hg : s.ls.getD t [] = s.ls[t] := by
    rw [List.getD_eq_getElem?_getD, hk]
    rfl
  have hm : s.ls[t] ∈ s.ls := List.getElem_mem _
  rw [e1, e2, hg]
  generalize s.ls[t] = l at hk hm
  have hw := h.wide l hm
  have hs := h.subs l hm
  have hn : (s.ls.set t (restrM fl l))[t]? = some (restrM fl l) := List.getElem?_set_self (by omega)
  have eu : upG n s.st (s.ls.set t (restrM fl l)) t = upG n s.st s.ls t := by
    unfold upG
    rw [List.take_set_of_le (Nat.le_refl _)]
  have hrw : (restrM fl l).length = n := by
    unfold restrM
    rw [List.length_map]
    exact hw
  have hrs : ∀ es ∈ restrM fl l, es.Sublist (rgI 0 n) := fun es he => by
    obtain ⟨e3, he3, rfl⟩ := List.mem_map.mp he
    exact List.filter_sublist.trans (hs e3 he3)
  rw [upG_step hn, upG_step hk, eu, stepB_at upG_len hrw hrs hx, stepB_at upG_len hw hs hx]
  have er : ∀ m, x ∈ rowAt (restrM fl l) m ↔ x ∈ rowAt l m ∧ x ∈ fl := fun m => by
    unfold rowAt restrM
    rw [List.getD_eq_getElem?_getD, List.getD_eq_getElem?_getD, List.getElem?_map]
    cases l[m.toNat]? with
    | none => simp
    | some es =>
      show x ∈ es.filter (fun e => decide (e ∈ fl)) ↔ _
      rw [List.mem_filter]
      simp
  by_cases q : x ∈ fl
  · rw [if_pos q]
    congr 1
    refine List.map_congr_left fun m _ => ?_
    by_cases q2 : x ∈ rowAt l m
    · rw [if_pos ((er m).2 ⟨q2, q⟩), if_pos q2]
    · rw [if_neg fun z => q2 ((er m).1 z).1, if_neg q2]
  · rw [if_neg q]
    have e : ((rgI 0 n).map fun m => if x ∈ rowAt (restrM fl l) m then gtI (upG n s.st s.ls t) m else 0) = (rgI 0 n).map fun _ => (0 : Int) := List.map_congr_left fun m _ => if_neg fun z => q ((er m).1 z).2
    rw [e, sum_zero]
theorem tot_last {n : Nat} {st : List Int} {ls : List (List (List Int))} (h : LsOk n ls) : totG n st ls = ((rgI 0 n).map fun x => gtI (upG n st ls ls.length) x).sum := by
  rw [← tot_all h (Nat.le_refl _)]
  conv => lhs; rw [as_map (thrG_len (n := n) (st := st) (ls := ls) (t := ls.length))]
  congr 1
  exact List.map_congr_left fun x hx => thr_last (rg_in hx).1 (rg_in hx).2
/-- told where it is -/
theorem told_here {g : List Int} {s : KnS} {here : Int} (hk : KnOk g s) (hin : here ∈ flG (g.length + 1) s.st s.ls s.ls.length) (h0 : s.ls.length = 0 → s.st = [here]) :
    0 < (s.with s.ls.length [here]).tot g ∧ (s.with s.ls.length [here]).tot g ≤ s.tot g ∧ flG (g.length + 1) (s.with s.ls.length [here]).st (s.with s.ls.length [here]).ls (s.with s.ls.length [here]).ls.length = [here] := by
  have hk2 := hk.with (m := s.ls.length) (fl := [here]) (Nat.le_refl _)
  have hle := hk.ls
  obtain ⟨hh, hp⟩ := List.mem_filter.mp hin
  have hh' := rg_in hh
  have hp' := of_decide_eq_true hp
  rw [thr_last hh'.1 hh'.2] at hp'
  have hun : ∀ x, x ∈ rgI 0 (g.length + 1) → 0 ≤ gtI (upG (g.length + 1) s.st s.ls s.ls.length) x := fun x hx => (upG_cap hle (Nat.le_refl _) (rg_in hx)).1
  cases hl : s.ls.length with
  | zero =>
    have est := h0 hl
    have e1 : (s.with 0 [here]) = s := by
      cases s with
      | mk rows st ls =>
        have est' : st = [here] := est
        subst est'
        show (⟨rows, if (0 : Nat) = 0 then [here].filter (fun f => decide (f ∈ [here])) else [here], if (0 : Nat) = 0 then ls else _⟩ : KnS) = _
        rw [if_pos rfl, if_pos rfl]
        simp
    rw [e1]
    have htp : 0 < s.tot g := by
      show 0 < totG (g.length + 1) s.st s.ls
      rw [tot_last hle]
      exact (sum_pos fun x hx => hun x hx).2 ⟨here, hh, hp'⟩
    refine ⟨htp, Int.le_refl _, ?_⟩
    rw [est]
    have ht2 : 0 < totG (g.length + 1) [here] s.ls := by
      have h : 0 < totG (g.length + 1) s.st s.ls := htp
      rwa [est] at h
    rw [hl]
    exact fl_zero hle ht2
  | succ t =>
    rw [hl] at hk2 hp' hun
    have hlen : (s.with (t + 1) [here]).ls.length = t + 1 := by
      have e2 : (s.with (t + 1) [here]).ls = s.ls.set t (restrM [here] (s.ls.getD t [])) := rfl
      rw [e2, List.length_set, hl]
    have hu : ∀ x, x ∈ rgI 0 (g.length + 1) → gtI (upG (g.length + 1) (s.with (t + 1) [here]).st (s.with (t + 1) [here]).ls (t + 1)) x = (if here = x then (1 : Int) else 0) * gtI (upG (g.length + 1) s.st s.ls (t + 1)) x := fun x hx => by
      rw [up_with hle hl (rg_in hx)]
      by_cases q : here = x
      · rw [if_pos (by simp [q]), if_pos q, Int.one_mul]
      · rw [if_neg (by simpa using fun z => q (Eq.symm z)), if_neg q, Int.zero_mul]
    have et : (s.with (t + 1) [here]).tot g = gtI (upG (g.length + 1) s.st s.ls (t + 1)) here := by
      show totG (g.length + 1) (s.with (t + 1) [here]).st (s.with (t + 1) [here]).ls = _
      rw [tot_last hk2.ls, hlen, List.map_congr_left hu]
      exact pick_one _ rg_nodup hh
    have es : s.tot g = ((rgI 0 (g.length + 1)).map fun x => gtI (upG (g.length + 1) s.st s.ls (t + 1)) x).sum := by
      show totG (g.length + 1) s.st s.ls = _
      rw [tot_last hle, hl]
    refine ⟨by rw [et]; exact hp', ?_, ?_⟩
    · rw [et, es, ← pick_one (fun x => gtI (upG (g.length + 1) s.st s.ls (t + 1)) x) rg_nodup hh]
      refine sum_le fun x hx => ?_
      have := hun x hx
      by_cases q : here = x
      · rw [if_pos q, Int.one_mul]
        exact Int.le_refl _
      · rw [if_neg q, Int.zero_mul]
        exact this
    · have ht2 : 0 < totG (g.length + 1) (s.with (t + 1) [here]).st (s.with (t + 1) [here]).ls := by
        have e : totG (g.length + 1) (s.with (t + 1) [here]).st (s.with (t + 1) [here]).ls = gtI (upG (g.length + 1) s.st s.ls (t + 1)) here := et
        rw [e]
        exact hp'
      refine one_of (rg_nodup.sublist List.filter_sublist) (fun x hx => ?_) (fl_some hk2.ls (Nat.le_refl _) ht2)
      obtain ⟨h1, h2⟩ := List.mem_filter.mp hx
      have h3 := of_decide_eq_true h2
      rw [thr_last (rg_in h1).1 (rg_in h1).2, hlen, hu x h1] at h3
      by_cases q : here = x
      · exact q.symm
      · rw [if_neg q, Int.zero_mul] at h3
        omega
end K61
namespace Lh
open PySem L2
open Evl (Ex ex_l ex_t ex_rd fresh_back)
section
variable {M : Addr → Prop} {Γ : Ct} {Rs : List Res} {X : Cx} {a b : Expr} {pos : Pos}
/-- (e, *t), t a tuple -/
theorem xe_tupST {ns : List Int} {n : Int} {kk : Nat} {sp : Pos} (h : XE M Γ Rs X a (PD X.K (.int n))) (h2 : XE M Γ Rs X b (PD X.K (.tuple (li ns)))) (hz : ns.length ≤ 1000) (hs : starEach (a :: [.Starred b sp]) X.env = (false, eval a X.env) :: starEach [.Starred b sp] X.env := by rfl) (hs2 : starEach [.Starred b sp] X.env = (true, eval b X.env) :: starEach [] X.env := by rfl) :
    XE M Γ Rs X (.Tuple [a, .Starred b sp] kk pos) (PD X.K (.tuple (li (n :: ns)))) := by
  exact YE.wp (pe_tup (pa_cons pe_wp (StX.pa_star pe_wp pa_nil hs2) hs)) fun σ H0 H l e k Q q' => h σ H0 H l e k _ fun v H1 G1 s1 k1 hv => h2 σ H1 G1 (l.ex s1.ex) s1.le k1 _ fun u H2 G2 s2 k2 ⟨q, xs, e1, g1, g2⟩ => by
    have hv' : v = .int n := hv
    subst hv' e1
    have ex : xs = ns.map V.int := g2.ints
    subst ex
    have e9 : V.int n :: (ns.map V.int ++ []) = (n :: ns).map V.int := by simp
    refine ⟨q, ns.map V.int, rfl, .inl (ex_t s2.le g1), ?_⟩
    show _ ∧ _
    rw [e9]
    refine ⟨by rw [List.length_map, List.length_cons]; exact Nat.le_trans (show ns.length + 1 ≤ 1001 by omega) (by decide), fun p hp => ?_⟩
    have s := s1.trans s2
    exact q' _ (upd H2 p (.tup ((n :: ns).map V.int))) _ (s.trans (Step.new s.le hp)) (k2.step0 (Step.new s.le hp)) ⟨p, _, rfl, SqT.of upd_same, DdAll.of_ints _⟩
end
end Lh
namespace LhX
open PySem L2 Lh
theorem YTC.eq {M : Addr → Prop} {Γ : Ct} {Rs Rs' : List Res} {t : TT} {u v : Bool} (h : YTC M Γ Rs Rs' t (Is u)) (e : u = v) : YTC M Γ Rs Rs' t (Is v) := e ▸ h
end LhX
namespace K61
open PySem L2 Lh LhX
open LhL (ltK tabR LamP)
section
variable {K : PySem.W.Frag} {mg : Str → Option Value} {base : Heap} {P : Program} {w : World} {A : Str → Addr}
abbrev spSoundsT (K : PySem.W.Frag) (C : Addr) : Sp := SpP (α := { p : (List Int × List Int) × Int × List Int // p.1.1.length ≤ 9 ∧ (0 ≤ p.2.1 ∧ p.2.1 ≤ p.1.1.length) ∧ (∀ f ∈ p.2.2, 0 ≤ f ∧ f ≤ p.1.1.length) ∧ p.2.2.length ≤ 300 }) (fun p => [PHo K C p.1.1.1 p.1.1.2, PD K (.int p.1.2.1), PD K (.tuple (li p.1.2.2))]) (fun p => PD K (.list (sndD p.1.1.1 p.1.1.2 p.1.2.1 p.1.2.2)))
theorem ok_soundsT (T : Txt K mg) : FnOk P w K mg base CX0 5 T.f_sounds T.d_sounds ["house", "begin", "stops"] (spSoundsT K T.C_House) := by
  refine fn_F T.F_sounds sc_sounds (fun _ => rfl) fun ⟨⟨⟨g, b⟩, bg, st⟩, h9, hb0, hs, hz⟩ Z0 Z Q X qX hQ => ?_
  obtain ⟨cdv, A1, outer, s, E, rfl, hr⟩ := qX
  have h9' : g.length ≤ 9 := h9
  have hb0' : 0 ≤ bg ∧ bg ≤ g.length := hb0
  have hs' : ∀ f ∈ st, 0 ≤ f ∧ f ≤ g.length := hs
  have hz' : st.length ≤ 300 := hz
  refine xs_expr (xe_callD (ok_check_floors T) ⟨((g, b), bg :: st), fun x hx => by
    rcases List.mem_cons.mp hx with e | h
    · rw [e]
      exact hb0'
    · exact hs' x h⟩ (hr.mono (by decide)) T.g_check_floors T.F_check_floors.kp T.b_check_floors (xa_cons (xe_var 0) (xa_1 (xe_tupST (ns := st) (xe_var 1) (xe_var 2) (by omega))))) ?_
  refine xs_newL 3 (ds := []) xa_nil (by simp) (fun ql => ?_) cov0 sc_sounds.nd
  refine xs_asg 4 (xe_var 1) ?_ sc_sounds.nd
  refine xs_forN 5 (xi_tup (xe_var 2)) (fun t Γ1 Rs1 => ∃ (acc : List PyData) (h : Int) (a5 : Option Pd), acc.length ≤ 3 * t ∧ (0 ≤ h ∧ h ≤ g.length) ∧ acc ++ sndD g b h (st.drop t) = sndD g b bg st ∧ Γ1 = [some (PHo K T.C_House g b), some (PD K (.int bg)), some (PD K (.tuple (li st))), some (PV (.ref ql)), some (PD K (.int h)), a5] ∧ Rs1 = [Res.lst Z ql (acc.map (PD K))]) ⟨[], bg, none, by simp, hb0', rfl, rfl, rfl⟩ ?_ ?_ sc_sounds.nd
  · rintro t Qt Γ1 Rs1 hq ⟨acc, h, a5, hl, hh, hacc, rfl, rfl⟩ Hs
    obtain ⟨d, hd, rfl⟩ := map_at hq
    obtain ⟨f, hf, rfl⟩ := li_at hd
    have htl : t < st.length := (List.getElem?_eq_some_iff.mp hf).1
    have hff := hs' f (List.mem_of_getElem? hf)
    have hdrop : st.drop t = f :: st.drop (t + 1) := by
      rw [List.drop_eq_getElem_cons htl, (List.getElem?_eq_some_iff.mp hf).2]
    rw [hdrop] at hacc
    refine xs_ifJ (fun _ Γ2 Rs2 => Γ2 = [some (PHo K T.C_House g b), some (PD K (.int bg)), some (PD K (.tuple (li st))), some (PV (.ref ql)), some (PD K (.int h)), some (PD K (.int f))] ∧ Rs2 = [Res.lst Z ql ((acc ++ goD g h f).map (PD K))]) (xt_neI (K := K) (xe_var 5) (xe_var 4)) (fun hb nx hnx => ?_) (fun hb nx hnx => ?_) ?_
    · have hb' : true = !decide (f = h) := hb
      have hne : ¬ h = f := fun e => by
        rw [e] at hb'
        simp at hb'
      refine xs_app (q := ql) (P := PD K (.tuple [.str "go", .int (far g h f)])) (xe_var 3) (xe_tup (K := K) (ds := [.str "go", .int (far g h f)]) (xa_cons xe_str (xa_1 (xe_meth (ok_House_seconds T) ⟨((g, b), h, f), hh, hff⟩ (xe_var 0) (xa_cons (xe_var 4) (xa_1 (xe_var 5))) rfl rfl T.c_House T.m_House_seconds (hr.mono (by decide)) T.b_House_seconds))) (by simp)) (by simp; omega) ?_ (pe_bm PySem.F.plainAttrs_list PySem.F.slot_list_append PySem.F.type_list_append mt_append pe_wp (pa_cons pe_wp pa_nil))
      exact xs_turn hnx ⟨rfl, by rw [show goD g h f = [.tuple [.str "go", .int (far g h f)]] from if_neg hne, pd_snoc]⟩
    · have hb' : false = !decide (f = h) := hb
      have he : h = f := by
        have e : f = h := by simpa using hb'
        exact e.symm
      exact xs_turn hnx ⟨rfl, by rw [show goD g h f = [] from if_pos he, List.append_nil]⟩
    rintro Γ2 Rs2 ⟨rfl, rfl⟩
    have hgo : (goD g h f).length ≤ 1 := go_len _ _ _
    refine xs_app (q := ql) (P := PD K (.tuple [.str "bell", .bool (decide (f ∈ b))])) (xe_var 3) (xe_tup (K := K) (ds := [.str "bell", .bool (decide (f ∈ b))]) (xa_cons xe_str (xa_1 (xe_inT (xe_var 5) (xe_prop (ok_House_bells T) (g, b) (xe_var 0) rfl T.c_House T.m_House_bells (hr.mono (by decide)) T.b_House_bells)))) (by simp)) (by rw [List.length_map, List.length_append]; omega) ?_ (pe_bm PySem.F.plainAttrs_list PySem.F.slot_list_append PySem.F.type_list_append mt_append pe_wp (pa_cons pe_wp pa_nil))
    rw [pd_snoc]
    refine xs_app (q := ql) (P := PD K (.tuple [.str "door"])) (xe_var 3) (xe_tup (K := K) (ds := [.str "door"]) (xa_1 xe_str) (by simp)) (by rw [List.length_map, List.length_append, List.length_append]; simp; omega) ?_ (pe_bm PySem.F.plainAttrs_list PySem.F.slot_list_append PySem.F.type_list_append mt_append pe_wp (pa_cons pe_wp pa_nil))
    rw [pd_snoc]
    refine xs_asg 4 (xe_var 5) ?_ sc_sounds.nd
    refine xs_turn (fun σ H h => h) ⟨acc ++ goD g h f ++ [.tuple [.str "bell", .bool (decide (f ∈ b))]] ++ [.tuple [.str "door"]], f, _, ?_, hff, ?_, rfl, rfl⟩
    · simp only [List.length_append, List.length_cons, List.length_nil]
      omega
    · rw [← hacc]
      show _ = acc ++ ((_ ++ _) ++ sndD g b f (st.drop (t + 1)))
      simp only [List.append_assoc]
      rfl
  · rintro Γ1 Rs1 ⟨acc, h, a5, hl, hh, hacc, rfl, rfl⟩
    have hlen : ((li st).map (PD K)).length = st.length := by simp [li]
    have hacc2 : acc ++ sndD g b h (st.drop ((li st).map (PD K)).length) = sndD g b bg st := hacc
    rw [hlen, List.drop_length] at hacc2
    have hacc' : acc = sndD g b bg st := by
      rw [← hacc2]
      show acc = acc ++ []
      rw [List.append_nil]
    subst hacc'
    refine xs_frzK (ds := sndD g b bg st) 3 rfl rfl ?_
    exact xs_ret (xe_var 3) fun v H0 H s k hv => hQ v H0 H s k hv
/-! ### the law's listener -/
abbrev spIsH (K : PySem.W.Frag) (CH CC : Addr) : Sp := SpF (α := { p : ((List Int × List Int) × Int) × (Addr × Addr × List (Str × Pd)) × Int × List Row // GapsOk p.1.1.1 ∧ (0 ≤ p.1.2 ∧ p.1.2 ≤ p.1.1.1.length) ∧ p.2.1.2.2.lookup ("_here" : Str) = some (PD K (.int p.2.2.1)) ∧ HearOk p.1.1.1 [p.1.2] p.2.2.2 ∧ p.2.2.2.length ≤ 100 ∧ (p.2.2.2 = [] → p.1.2 = p.2.2.1) ∧ ∃ l, Way p.1.1.1 p.1.1.2 p.2.2.2 p.1.2 l ∧ (p.1.2 :: l)[p.2.2.2.length]? = some p.2.2.1 }) (fun _ => M0) (fun p => [Res.obj CC p.1.2.1.1 p.1.2.1.2.1 p.1.2.1.2.2]) (fun p => [PHo K CH p.1.1.1.1 p.1.1.1.2, PD K (.int p.1.1.2), PV (.ref p.1.2.1.1), PD K (logD p.1.2.2.2)]) (fun _ => PD K (.bool true))
theorem ok_law_is_heard (T : Txt K mg) : FnOk P w K mg base CX0 13 T.f__law_is_heard T.d__law_is_heard ["_law_house_here", "_law_begin", "_law_lift", "_law_log"] (spIsH K T.C_House T.C_Control) := by
  refine fn_F T.F__law_is_heard sc__law_is_heard (fun _ => rfl) fun ⟨⟨⟨⟨g, b⟩, bg⟩, ⟨cx, cdx, cfs⟩, here, L⟩, hg, hb, hlk, hk, hz, hnil, l, hw, he⟩ Z0 Z Q X qX hQ => ?_
  obtain ⟨cdv, A1, outer, s0, E, rfl, hr⟩ := qX
  have hg' : GapsOk g := hg
  have h9 := hg'.nine
  have hb' : 0 ≤ bg ∧ bg ≤ g.length := hb
  have hk' : HearOk g [bg] L := hk
  have hz' : L.length ≤ 100 := hz
  have hw' : Way g b L bg l := hw
  have he' : (bg :: l)[L.length]? = some here := he
  have hnil' : L = [] → bg = here := hnil
  have hs1 : ∀ x ∈ [bg], 0 ≤ x ∧ x ≤ g.length := hk'.start
  have hll := hw'.len
  have hin : here ∈ behM g b L [bg] := by
    have h := hw'.beh List.mem_cons_self hs1 L.length here he'
    rwa [List.take_length] at h
  have hpre : ∀ t, t ≤ L.length → 0 < countM g b [bg] (L.take t) := fun t ht => by
    refine (count_pos hs1).2 fun e => ?_
    have hx : t < (bg :: l).length := by rw [List.length_cons]; omega
    have h := hw'.beh List.mem_cons_self hs1 t _ (List.getElem?_eq_getElem hx)
    rw [e] at h
    cases h
  have htot : ∀ t, t ≤ L.length → 0 < (kA g b bg (L.take t)).tot g := fun t ht => by
    show 0 < totG (g.length + 1) [bg] (linksM g b (L.take t))
    rw [tot_count hs1 (by simp)]
    exact hpre t ht
  have hbt : ¬ totG (g.length + 1) [bg] [] = 0 := by
    have h := htot 0 (Nat.zero_le _)
    have h' : 0 < totG (g.length + 1) [bg] [] := h
    omega
  have bgt : ∀ {M : Addr → Prop} {Γ : Ct} {Rs : List Res} {X : Cx} {e : Expr} {kk : Nat} {pos : Pos}, XE M Γ Rs X e (PD X.K (.int bg)) → (starEach [e] X.env = (false, eval e X.env) :: starEach [] X.env) → XE M Γ Rs X (.Tuple [e] kk pos) (PD X.K (.tuple (li [bg]))) := fun h hs => xe_tup (ds := [.int bg]) (xa_1 h hs) (by simp)
  refine xs_asgMk 4 (ym_I T.k_Listener (ok_Listener_init T) ⟨((g, b), [bg]), h9, by simp, hs1, hbt⟩ (hr.mono (by decide)) T.g_Listener T.b_Listener_init (xa_cons (xe_var 0) (xa_1 (bgt (xe_var 1) rfl))) rfl (by simp)) (fun x dx qq zx zq => ?_) sc__law_is_heard.nd
  have hM : ∀ a, MX x a → M0 a ∨ Z a = Option.none := fun a h => .inr (by
    have h' : a = x := h
    rw [h']
    exact zx)
  refine xs_forN 5 (xi_range1 (K := K) T.z_range (xe_lenL (ds := L.map fun r => PyData.tuple r.ds) T.z_len (xe_var 3)) (by rw [List.length_map]; omega)) (fun t Γ1 Rs1 => ∃ (S : LisS) (a5 : Option Pd), S.kn = kA g b bg (L.take t) ∧ S.ops.length = t ∧ S.kn0.length = t ∧ Γ1 = [some (PHo K T.C_House g b), some (PD K (.int bg)), some (PV (.ref cx)), some (PD K (logD L)), some (PV (.ref x)), a5, none] ∧ Rs1 = lisR K T.C_House T.C_Known T.C_Listener g b x dx S ++ [Res.obj T.C_Control cx cdx cfs]) ⟨⟨[], [], ⟨[], [bg], []⟩, []⟩, none, rfl, rfl, rfl, rfl, rfl⟩ ?_ ?_ sc__law_is_heard.nd
  · rintro t Qt Γ1 Rs1 hq ⟨S, a5, hS, hops, hkn0, rfl, rfl⟩ Hs
    obtain ⟨d, hd, rfl⟩ := map_at hq
    obtain ⟨n, hn, rfl⟩ := li_at hd
    have hlen : ((L.map fun r => PyData.tuple r.ds).length : Int).toNat = L.length := by simp
    rw [hlen] at hn
    have htl : t < L.length := by
      have := (List.getElem?_eq_some_iff.mp hn).1
      rwa [rgI_len] at this
    have en : n = (t : Int) := by
      unfold rgI at hn
      rw [List.getElem?_map, List.getElem?_range htl] at hn
      have := (Option.some.inj hn).symm
      simpa using this
    subst en
    obtain ⟨r, hrt⟩ : ∃ r, L[t]? = some r := ⟨_, List.getElem?_eq_getElem htl⟩
    have hrm := List.mem_of_getElem? hrt
    have htk : L.take (t + 1) = L.take t ++ [r] := by
      rw [List.take_add_one, hrt]
      rfl
    have hmore : S.kn.more g b r = kA g b bg (L.take (t + 1)) := by rw [hS, kA_more, htk]
    have hlt : (L.take t).length = t := by rw [List.length_take]; omega
    have hlt1 : (L.take (t + 1)).length = t + 1 := by rw [List.length_take]; omega
    have hlsl : S.kn.ls.length = t := by
      rw [hS]
      show (linksM g b (L.take t)).length = t
      rw [links_len, hlt]
    have hok : LisOk g S := ⟨by rw [hS]; exact kA_ok h9 (by omega), by omega, by omega⟩
    have hnz : ¬ (S.kn.more g b r).tot g = 0 := by
      rw [hmore]
      have := htot (t + 1) (by omega)
      omega
    have hfl : flG (g.length + 1) (S.kn.more g b r).st (S.kn.more g b r).ls (S.kn.more g b r).ls.length = behM g b (L.take (t + 1)) [bg] := by
      rw [hmore]
      show flG (g.length + 1) [bg] (linksM g b (L.take (t + 1))) (linksM g b (L.take (t + 1))).length = _
      rw [links_len]
      exact fl_last hb'
    have hk2 : HearOk g [bg] (L.take (t + 1)) := ⟨h9, hs1, by simp, fun r2 h2 => hk'.log r2 (List.mem_of_mem_take h2), by omega⟩
    have hat : atI (L.map fun r => PyData.tuple r.ds) (t : Int) = some (.tuple r.ds) := atI_nat (by rw [List.getElem?_map, hrt]; rfl)
    refine xs_skipT (M' := MX x) (B := Is false) (YTC.eq (xtc_neI (K := K) (i := ((behM g b (L.take (t + 1)) [bg]).length : Int)) (j := ((behM g b (L.take (t + 1)) [bg]).length : Int)) (YC.imp (xc_meth (rs1 := lisR K T.C_House T.C_Known T.C_Listener g b x dx S) (rs2 := lisR K T.C_House T.C_Known T.C_Listener g b x dx (S.add (hearD r) (S.kn.more g b r))) (Rs2 := [Res.obj T.C_Control cx cdx cfs]) (ok_Listener_hear T) ⟨((((g, b), x, dx), S), r), hok, hk'.log r hrm, by show S.kn.ls.length < 1000; omega, hnz⟩ (xe_var 4) (xa_1 (xe_ixL (xe_var 3) (xe_var 5) hat)) rfl rfl rfl rfl (fun _ h => h) (fun a h => by
      have h' : a = x := h
      show a ∈ [x]
      simpa using h') List.mem_cons_self rfl T.c_Listener T.m_Listener_hear (hr.mono (by decide)) T.b_Listener_hear) (fun v H hv => by
      have hv' : (PD K (.int ((flG (g.length + 1) (S.kn.more g b r).st (S.kn.more g b r).ls (S.kn.more g b r).ls.length).length : Int))).p v H := hv
      rw [hfl] at hv'
      exact hv')) (YE.dat (xe_lenL T.z_len (xe_callD (ok_floors_behind T (ok_floors_behind_row T)) ⟨((g, b), [bg], L.take (t + 1)), hk2⟩ (hr.mono (by decide)) T.g_floors_behind T.F_floors_behind.kp T.b_floors_behind (xa_cons (xe_var 0) (xa_cons (bgt (xe_var 1) rfl) (xa_1 (YE.dat (xe_slLb (xe_var 3) (xe_add (K := K) (xe_var 5) xe_int) (by omega)) ?_)))))) ?_)) (by simp)) hM (fun b hb => hb) ?_
    · show PyData.list _ = PyData.list _
      rw [← List.map_take]
      congr 2
    · show PyData.int _ = PyData.int _
      rw [show (li (behM g b (L.take (t + 1)) [bg])).length = (behM g b (L.take (t + 1)) [bg]).length by simp [li]]
    refine xs_turn (fun σ H h => h) ⟨S.add (hearD r) (S.kn.more g b r), _, hmore, ?_, ?_, rfl, rfl⟩
    · show (S.ops ++ [_]).length = _
      rw [List.length_append]
      simp [hops]
    · show (S.kn0 ++ [_]).length = _
      rw [List.length_append]
      simp [hkn0]
  · rintro Γ1 Rs1 ⟨S, a5, hS, hops, hkn0, rfl, rfl⟩
    have hlen : ((li (rgI 0 ((L.map fun r => PyData.tuple r.ds).length : Int).toNat)).map (PD K)).length = L.length := by simp [li, rgI_len]
    rw [show ((li (rgI 0 ((L.map fun r => PyData.tuple r.ds).length : Int).toNat)).map (PD K)).length = L.length from hlen] at hS hops hkn0
    rw [List.take_length] at hS
    have hlsl : S.kn.ls.length = L.length := by
      rw [hS]
      exact links_len
    have hkn : KnOk g S.kn := by
      rw [hS]
      exact kA_ok h9 (by omega)
    have hok : LisOk g S := ⟨hkn, by omega, by omega⟩
    have htp : 0 < S.kn.tot g := by
      have h := htot L.length (Nat.le_refl _)
      rw [List.take_length] at h
      rw [hS]
      exact h
    have htc : S.kn.tot g = countM g b [bg] L := by
      rw [hS]
      exact tot_count (st := [bg]) hs1 (by simp)
    have hst : S.kn.st = [bg] := by rw [hS]; rfl
    have hfl : flG (g.length + 1) S.kn.st S.kn.ls S.kn.ls.length = behM g b L [bg] := by
      rw [hlsl, hS]
      exact fl_last hb'
    have hinf : here ∈ flG (g.length + 1) S.kn.st S.kn.ls S.kn.ls.length := by rw [hfl]; exact hin
    obtain ⟨th1, th2, th3⟩ := told_here hkn hinf (fun h0 => by
      have hL : L = [] := List.length_eq_zero_iff.mp (by omega)
      rw [hst, hnil' hL])
    have hhr : 0 ≤ here ∧ here ≤ g.length := by
      have := rg_in (List.mem_filter.mp hinf).1
      omega
    rw [hlsl] at th1 th2 th3
    obtain ⟨S2, eS2⟩ : ∃ S2, S2 = S.add (toldD L.length [here]) (S.kn.with L.length [here]) := ⟨_, rfl⟩
    have hkn2 : KnOk g S2.kn := by
      rw [eS2]
      exact hkn.with (by omega)
    have wcnt : ∀ {M : Addr → Prop} {Γ : Ct} {Rs : List Res} {X : Cx} {e1 e2 e3 : Expr} {pos : Pos}, True := trivial
    refine xs_skip (YT.eq (xt_orB (u := false) (v := false) (YT.eq (xt_niT (ye_perm (List.Perm.swap _ _ _) (xe_propM (rs1 := [Res.obj T.C_Control cx cdx cfs]) (Rs2 := lisR K T.C_House T.C_Known T.C_Listener g b x dx S) (ok_Control_here T) ⟨((cx, cdx), cfs, PD K (.int here)), hlk⟩ (xe_var 2) rfl rfl List.mem_cons_self T.c_Control T.m_Control_here (hr.mono (by decide)) T.b_Control_here)) (xe_propM (rs1 := lisR K T.C_House T.C_Known T.C_Listener g b x dx S) (Rs2 := [Res.obj T.C_Control cx cdx cfs]) (ok_Listener_floors T) ⟨(((g, b), x, dx), S), hkn⟩ (xe_var 4) rfl rfl List.mem_cons_self T.c_Listener T.m_Listener_floors (hr.mono (by decide)) T.b_Listener_floors)) ?_) (fun _ => YT.eq (xt_neI (K := K) (ye_ofC (xc_meth0 (rs1 := lisR K T.C_House T.C_Known T.C_Listener g b x dx S) (rs2 := lisR K T.C_House T.C_Known T.C_Listener g b x dx S) (Rs2 := [Res.obj T.C_Control cx cdx cfs]) (ok_Listener_way_number T) (((g, b), x, dx), S) (xe_var 4) rfl rfl rfl rfl (fun _ h => h) (fun _ h => h.elim) List.mem_cons_self rfl T.c_Listener T.m_Listener_way_number (hr.mono (by decide)) T.b_Listener_way_number)) (xe_callD (ok_way_count T) ⟨((g, b), [bg], L), hk'⟩ (hr.mono (by decide)) T.g_way_count T.F_way_count.kp T.b_way_count (xa_cons (xe_var 0) (xa_cons (bgt (xe_var 1) rfl) (xa_1 (xe_var 3)))))) ?_)) rfl) ?_
    · show (!decide (here ∈ flG (g.length + 1) S.kn.st S.kn.ls S.kn.ls.length)) = false
      rw [decide_eq_true hinf]
      rfl
    · show (!decide (S.kn.tot g = countM g b [bg] L)) = false
      rw [decide_eq_true htc]
      rfl
    refine xs_forN 6 (xi_range1 (K := K) T.z_range (xe_add (K := K) (xe_lenL (ds := L.map fun r => PyData.tuple r.ds) T.z_len (xe_var 3)) xe_int) (by rw [List.length_map]; omega)) (fun t Γ1 Rs1 => (∃ a6, Γ1 = [some (PHo K T.C_House g b), some (PD K (.int bg)), some (PV (.ref cx)), some (PD K (logD L)), some (PV (.ref x)), a5, a6]) ∧ Rs1 = lisR K T.C_House T.C_Known T.C_Listener g b x dx S ++ [Res.obj T.C_Control cx cdx cfs]) ⟨⟨_, rfl⟩, rfl⟩ ?_ ?_ sc__law_is_heard.nd
    · rintro t Qt Γ1 Rs1 hq ⟨⟨a6, rfl⟩, rfl⟩ Hs
      obtain ⟨d, hd, rfl⟩ := map_at hq
      obtain ⟨n, hn, rfl⟩ := li_at hd
      have hlen2 : (((L.map fun r => PyData.tuple r.ds).length : Int) + 1).toNat = L.length + 1 := by
        rw [List.length_map]
        omega
      rw [hlen2] at hn
      have htl : t < L.length + 1 := by
        have := (List.getElem?_eq_some_iff.mp hn).1
        rwa [rgI_len] at this
      have en : n = (t : Int) := by
        unfold rgI at hn
        rw [List.getElem?_map, List.getElem?_range htl] at hn
        have := (Option.some.inj hn).symm
        simpa using this
      subst en
      have htk : t ≤ S.kn.ls.length := by omega
      have hfs := fl_some hkn.ls htk htp
      have hf0 : flG (g.length + 1) S.kn.st S.kn.ls 0 = [bg] := by
        have h := htp
        have h2 : 0 < totG (g.length + 1) S.kn.st S.kn.ls := h
        rw [hst] at h2 ⊢
        exact fl_zero hkn.ls h2
      refine xs_skip (YT.eq (xt_orB (u := false) (v := false) (YT.eq (xt_lt (K := K) (xe_lenL (ds := li (flG (g.length + 1) S.kn.st S.kn.ls t)) T.z_len (ye_ofC (xc_meth (rs1 := lisR K T.C_House T.C_Known T.C_Listener g b x dx S) (rs2 := lisR K T.C_House T.C_Known T.C_Listener g b x dx S) (Rs2 := [Res.obj T.C_Control cx cdx cfs]) (ok_Listener_floors_then T) ⟨((((g, b), x, dx), S), t), hkn, htk⟩ (xe_var 4) (xa_1 (xe_var 6)) rfl rfl rfl rfl (fun _ h => h) (fun _ h => h.elim) List.mem_cons_self rfl T.c_Listener T.m_Listener_floors_then (hr.mono (by decide)) T.b_Listener_floors_then))) xe_int) ?_) (fun _ => YT.eq (xt_andB (u := decide ((t : Int) = 0)) (v := false) (xt_eqI (K := K) (xe_var 6) xe_int) (fun h => YT.eq (xt_neLi hr (ns := flG (g.length + 1) S.kn.st S.kn.ls 0) (ms := [bg]) (ye_ofC (xc_meth (rs1 := lisR K T.C_House T.C_Known T.C_Listener g b x dx S) (rs2 := lisR K T.C_House T.C_Known T.C_Listener g b x dx S) (Rs2 := [Res.obj T.C_Control cx cdx cfs]) (ok_Listener_floors_then T) ⟨((((g, b), x, dx), S), 0), hkn, Nat.zero_le _⟩ (xe_var 4) (xa_1 xe_int) rfl rfl rfl rfl (fun _ h => h) (fun _ h => h.elim) List.mem_cons_self rfl T.c_Listener T.m_Listener_floors_then (hr.mono (by decide)) T.b_Listener_floors_then)) (xe_lst (ds := [.int bg]) (xa_1 (xe_var 1)) (by simp))) ?_)) ?_)) rfl) (xs_turn (fun σ H h => h) ⟨⟨_, rfl⟩, rfl⟩)
      · have h1 : 0 < (flG (g.length + 1) S.kn.st S.kn.ls t).length := List.length_pos_iff.mpr hfs
        have h2 : (li (flG (g.length + 1) S.kn.st S.kn.ls t)).length = (flG (g.length + 1) S.kn.st S.kn.ls t).length := by simp [li]
        exact decide_eq_false (by omega)
      · rw [hf0]
        simp
      · simp
    rintro Γ1 Rs1 ⟨⟨a6, rfl⟩, rfl⟩
    refine xs_skipT (M' := MX x) (B := Is false) (YTC.eq (xtc_gt (K := K) (xc_meth (rs1 := lisR K T.C_House T.C_Known T.C_Listener g b x dx S) (rs2 := lisR K T.C_House T.C_Known T.C_Listener g b x dx S2) (Rs2 := [Res.obj T.C_Control cx cdx cfs]) (ok_Listener_told T) ⟨((((g, b), x, dx), S), L.length, [here]), hok, by show L.length ≤ S.kn.ls.length; omega, fun f hf => by
      rw [List.mem_singleton.mp hf]
      exact hhr, by show ¬ (S.kn.with L.length [here]).tot g = 0; omega⟩ (xe_var 4) (xa_cons (YE.dat (xe_lenL (ds := L.map fun r => PyData.tuple r.ds) T.z_len (xe_var 3)) (by rw [List.length_map])) (xa_1 (xe_tup (K := K) (ds := [.int here]) (xa_1 (ye_perm (List.Perm.swap _ _ _) (xe_propM (rs1 := [Res.obj T.C_Control cx cdx cfs]) (Rs2 := lisR K T.C_House T.C_Known T.C_Listener g b x dx S) (ok_Control_here T) ⟨((cx, cdx), cfs, PD K (.int here)), hlk⟩ (xe_var 2) rfl rfl List.mem_cons_self T.c_Control T.m_Control_here (hr.mono (by decide)) T.b_Control_here))) (by simp)))) rfl rfl (by rw [eS2]) rfl (fun _ h => h) (fun a h => by
      have h' : a = x := h
      show a ∈ [x]
      simpa using h') List.mem_cons_self rfl T.c_Listener T.m_Listener_told (hr.mono (by decide)) T.b_Listener_told) (xe_callD (ok_way_count T) ⟨((g, b), [bg], L), hk'⟩ (hr.mono (by decide)) T.g_way_count T.F_way_count.kp T.b_way_count (xa_cons (xe_var 0) (xa_cons (bgt (xe_var 1) rfl) (xa_1 (xe_var 3)))))) ?_) hM (fun b hb => hb) ?_
    · exact decide_eq_false (by
        show ¬ countM g b [bg] L < (S.kn.with L.length [here]).tot g
        omega)
    have hjud := way_judged hs1 hw' List.mem_cons_self (List.mem_of_getElem? he')
    have hnz : ¬ countM g b [bg] L = 0 := by omega
    have hfl2 : flG (g.length + 1) S2.kn.st S2.kn.ls S2.kn.ls.length = [here] := by
      rw [eS2]
      exact th3
    refine xs_ret (P := PD K (.bool true)) (YE.dat (xe_andB (u := true) (v := true) (YE.dat (xe_eqD hr (xe_propM (rs1 := lisR K T.C_House T.C_Known T.C_Listener g b x dx S2) (Rs2 := [Res.obj T.C_Control cx cdx cfs]) (ok_Listener_floors T) ⟨(((g, b), x, dx), S2), hkn2⟩ (xe_var 4) rfl rfl List.mem_cons_self T.c_Listener T.m_Listener_floors (hr.mono (by decide)) T.b_Listener_floors) (xe_tup (K := K) (ds := [.int here]) (xa_1 (ye_perm (List.Perm.swap _ _ _) (xe_propM (rs1 := [Res.obj T.C_Control cx cdx cfs]) (Rs2 := lisR K T.C_House T.C_Known T.C_Listener g b x dx S2) (ok_Control_here T) ⟨((cx, cdx), cfs, PD K (.int here)), hlk⟩ (xe_var 2) rfl rfl List.mem_cons_self T.c_Control T.m_Control_here (hr.mono (by decide)) T.b_Control_here))) (by simp)) (PySem.W.shaped_ints _) rfl) ?_) (fun _ => YE.dat (xe_neS (K := K) (xe_callD (ok_judged T) ⟨((g, b), ([bg], L), here), hk', hhr, hnz⟩ (hr.mono (by decide)) T.g_judged T.F_judged.kp T.b_judged (xa_cons (xe_var 0) (xa_cons (bgt (xe_var 1) rfl) (xa_cons (xe_var 3) (xa_1 (ye_perm (List.Perm.swap _ _ _) (xe_propM (rs1 := [Res.obj T.C_Control cx cdx cfs]) (Rs2 := lisR K T.C_House T.C_Known T.C_Listener g b x dx S2) (ok_Control_here T) ⟨((cx, cdx), cfs, PD K (.int here)), hlk⟩ (xe_var 2) rfl rfl List.mem_cons_self T.c_Control T.m_Control_here (hr.mono (by decide)) T.b_Control_here))))))) xe_str) ?_)) rfl) fun v H0 H s k hv => hQ v H0 H s (Rok.snd k) hv
    · show PyData.bool (PyData.eqv (.tuple (li (flG (g.length + 1) S2.kn.st S2.kn.ls S2.kn.ls.length))) (.tuple (li [here]))) = .bool true
      rw [hfl2, eqv_tli]
      simp
    · show PyData.bool (!decide (verdictM g b [bg] L here false = "never")) = .bool true
      rw [hjud]
      rfl
end
end K61
namespace LhX
open PySem L2 PySem.W PyProof.Rows PySem.Calls Lh
open Evl (Ex ex_l ex_t ex_rd fresh_back)
/-- what is known of t's value and of what is at hand behind it, for one of many -/
def YCE {α : Type} (M : Addr → Prop) (Γ : Ct) (Rs : List Res) (A : α → Prop) (Rs' : α → List Res) (t : TE) (P : α → Pd) : Prop := ∀ (σ : L2.St) (H0 H : Hp), Sl Γ σ H0 → Ex H0 H → Rok Rs H0 H → ∀ Q : VK, (∀ a v H0' H', A a → Lh.Step M H0 H H0' H' → Rok (Rs' a) H0' H' → (P a).p v H0' → Q v H') → t σ H Q
section
variable {β : Type} {M M' : Addr → Prop} {Γ : Ct} {Rs R1' : List Res} {X : Cx} {Z0 Z Hl : Hp} {D : Ends} {K : PySem.W.Frag} {mg : Str → Option Value} {rest : List Stmt} {e o : Expr} {es ts : List Expr} {pos : Pos} {x dx C : Addr} {m : Str} {rs1 Rs2 : List Res}
/-- o.m(e, ..), where e is one of many -/
theorem xce_meth {P' : Program} {w' : World} {base' : Heap} {α : Type} {M1 : α → Addr → Prop} {R1 R2 : α → List Res} {pre : α → List Pd} {post : α → Pd} {g : Addr} {fd : FuncData} {ps : List Str} {n : Nat} {apos : Pos} {pl : Sem Bool} {Ps : List Pd} {fs : List (Str × Pd)} {A : β → Prop} {rs2 : β → List Res} {PP : β → Pd} (F : FnOk P' w' K mg base' L2.CX0 n g fd ps (SpC M1 R1 R2 pre post))
    (h : XE M Γ (rs1 ++ Rs2) X o (PV (.ref x))) (ha : XA M Γ (rs1 ++ Rs2) X (e :: es) Ps) (hx : ∀ vs H, DAll Ps vs H → ∃ (a : β) (y : α), A a ∧ DAll (pre y) (.ref x :: vs) H ∧ R1 y = rs1 ∧ R2 y = rs2 a ∧ post y = PP a ∧ (∀ c, M1 y c → M c) ∧ (∀ c, M1 y c → c ∈ rs1.flatMap Res.ad)) (hA : ∀ a, (rs2 a).flatMap Res.ad = rs1.flatMap Res.ad) (hob : Res.obj C x dx fs ∈ rs1 ++ Rs2) (hnf : fs.lookup m = Option.none) (hc : Cls K C) (hm : Meth K C m g) (hr : Room n X.A) (hb : Binds K fd ps [])
    (hst : starEach (e :: es) X.env = (false, eval e X.env) :: starEach es X.env := by rfl) (hpl : (backTo pos (starEach es X.env)).any (·.1) = false := by rfl)
    (ht : eval (.Call (.Attribute o m apos) (e :: es) [] pos) X.env = (do
      let obj ← eval o X.env
      standAt apos.atName
      let (meth, self0) ← holding [obj] (getMethod obj m pl)
      callWith pos meth self0 (backTo pos (starEach (e :: es) X.env)) (backToKw pos (keywordEach [] X.env))) := by rfl) (eP : X.prog = P' := by rfl) (ew : X.w = w' := by rfl) (eK : X.K = K := by rfl) (em : X.mg = mg := by rfl) (eb : X.base = base' := by rfl) : YCE M Γ (rs1 ++ Rs2) A (fun a => rs2 a ++ Rs2) (wpE X (.Call (.Attribute o m apos) (e :: es) [] pos)) PP := by
  subst eP ew eK em eb
  refine fun σ H0 H l ex k Q q => PE.wp (pe_meth (pl := pl) pe_wp hc hm F hr hb (dvs := []) .nil pass0 pa_wp hst hpl ht) (h σ H0 H l ex k _ fun v H1 G1 s1 k1 hv => ?_)
  obtain ⟨vs, q1, q2⟩ := obj_ask k1 hob hnf
  refine ⟨x, dx, vs, hv, q1, q2, ?_⟩
  refine ha σ H1 G1 (l.ex s1.ex) s1.le k1 _ fun ws H2 G2 s2 k2 hw => ?_
  obtain ⟨a, y, ya, yp, y1, y2, y3, y4, y5⟩ := hx ws H2 hw
  refine ⟨y, H2, s2.le, by rw [y1]; exact Rok.fst k2, ?_, fun v H3 G3 s3 k3 p3 => q a v H3 G3 ya ((s1.trans s2).trans (s3.imp y4)) (Rok.call k2 s3 (by rw [← y2]; exact k3) y5 (hA a)) (by rw [← y3]; exact p3)⟩
  rw [List.append_nil]
  have hv' : v = .ref x := hv
  rw [hv']
  exact yp
/-- x = e -/
theorem xs_asgCE (i : Nat) {z : Str} {pos' : Pos} {A : β → Prop} {Rs' : β → List Res} {P : β → Pd} (he : YCE M' Γ Rs A Rs' (wpE X e) P) (hM : ∀ a, M' a → M a ∨ Z a = Option.none) (h : ∀ a, A a → XS M (Γ.set i (some (P a))) (Rs' a) X Z0 Z Hl D rest) (hN : X.N.Nodup) (hi : X.N[i]? = some z := by rfl) (hx : Loc X.env.scope z := by first | exact Or.inl rfl | exact Or.inr rfl)
    (hs : swapsWith e (some (.Name z pos')) pos.line X.env = pure false := by rfl) (hf : X.fn z = true ∨ X.env.scope.names.lookup z = some .local := by first | exact .inl rfl | exact .inr rfl) : XS M Γ Rs X Z0 Z Hl D (.Assign [.Name z pos'] e pos :: rest) :=
  xs_cons (ps_set hN hi hx pe_wp hs hf) fun σ H0 H l s b k => he σ H0 H l s.le k _ fun a v H1 G1 ha s1 k1 a1 => h a ha _ H1 G1 ((l.ex s1.ex).set a1) (s.into s1 hM) (b.trans s1.ex) k1
/-- x, y, .. = e, e changes what is at hand -/
theorem xs_unpNC (is : List Nat) {Rs' : List Res} {Ps : List Pd} {kt : Nat} {pt : Pos} (he : XC M' Γ Rs Rs' X e (PTs X.K Ps)) (hM : ∀ a, M' a → M a ∨ Z a = Option.none) (h : XS M (setAll Γ is Ps) Rs' X Z0 Z Hl D rest) (hg : PGs X ts (gNames is)) (hl : is.length = Ps.length := by rfl) (hc : X.calm = true := by rfl)
    (hn : (assignEach ts X.env).length = is.length := by rfl) (hst : (assignEach ts X.env).findIdx? (·.1) = Option.none := by rfl)
    (hs : swapsWithSole [.Tuple ts kt pt] e pos.line X.env = pure false := by rfl) (hw : swappedStores [.Tuple ts kt pt] e X.env = pure Option.none := by rfl)
    (h1 : (assignEach [.Tuple ts kt pt] X.env).map (·.2) = [assign (.Tuple ts kt pt) X.env] := by rfl) : XS M Γ Rs X Z0 Z Hl D (.Assign [.Tuple ts kt pt] e pos :: rest) :=
  xs_cons (ps_asg pe_wp (pg_tup (n := is.length) hc hg hn hst) hs hw h1) fun σ H0 H l s b r => he σ H0 H l s.le r _ fun v H1 G1 s1 k1 ⟨t, xs, ev, ht, hd⟩ =>
    ⟨t, xs, ev, ex_t s1.le ht, by rw [hd.1, hl], gv_names hl hd (l.ex s1.ex) fun σ' l' => h σ' H1 G1 l' (s.into s1 hM) (b.trans s1.ex) k1⟩
theorem xs_dropR {ss : List Stmt} (h : XS M Γ Rs2 X Z0 Z Hl D ss) : XS M Γ (rs1 ++ Rs2) X Z0 Z Hl D ss := fun σ H0 H l s b k => h σ H0 H l s b (Rok.snd k)
end
end LhX
namespace K61
open PySem L2 Lh LhX
open LhL (ltK tabR LamP)
/-! ### the law's helpers -/
def isRule (d : PyData) : Prop := ∃ z, z ∈ Rules ∧ d = .str z
theorem rule_at {k : Int} (hk : 0 ≤ k ∧ k < 3) : ∃ d, atI (lsD Rules) k = some d ∧ isRule d := by
  obtain ⟨k0, k1⟩ := hk
  have e : k = 0 ∨ k = 1 ∨ k = 2 := by omega
  rcases e with rfl | rfl | rfl
  · exact ⟨_, rfl, "first", by decide, rfl⟩
  · exact ⟨_, rfl, "near", by decide, rfl⟩
  · exact ⟨_, rfl, "sweep", by decide, rfl⟩
theorem shaped_prs (l : List (Int × Int)) : SeqAt.shaped (.list (l.map prD)) = true := by
  have h := shaped_tups (l.map fun p => [p.1, p.2])
  rw [List.map_map] at h
  exact h
theorem mp_ad {P : Addr} {q : Str} : ∀ a, MP P a → a ∈ (tabR P q).ad := fun a ha => by
  have e : a = P := ha
  simp [tabR, e]
def ML (b l P : Addr) : Addr → Prop := fun a => MB b l a ∨ a = P
theorem cov_law {b l P : Addr} {q : Str} {Rs : List Res} (h1 : Res.box b l ∈ Rs) (h2 : tabR P q ∈ Rs) : Cov (ML b l P) Rs := fun H0 H k a ha => by
  rcases ha with ha | ha
  · obtain ⟨ns, z, _, _, h3, h4⟩ := k.2 _ h1
    rcases ha with e | e
    · subst e
      exact ⟨_, h3⟩
    · subst e
      exact ⟨_, h4⟩
  · subst ha
    obtain ⟨_, ps, h3, _⟩ := k.2 _ h2
    exact ⟨_, h3⟩
section
variable {K : PySem.W.Frag} {mg : Str → Option Value} {M : Addr → Prop} {Γ : Ct} {Rs2 : List Res} {X : Cx} {o r q e : Expr} {p pos : Pos} {g b : List Int} {one : Str} {bg : Int} {cs : List Int}
theorem xe_served (T : Txt K mg) (TB : LamX.TabB X.base mg T.cN_nearest T.PN_nearest) (hr : Room 11 X.A) (ho : XE M Γ (tabR T.PN_nearest lamQ :: Rs2) X o (PHo K T.C_House g b)) (h1 : XE M Γ (tabR T.PN_nearest lamQ :: Rs2) X r (PD K (.str one))) (hb : XE M Γ (tabR T.PN_nearest lamQ :: Rs2) X q (PD K (.int bg))) (he : XE M Γ (tabR T.PN_nearest lamQ :: Rs2) X e (PD K (.tuple (li cs)))) (hk : NightOk g one bg cs) (hM : ∀ a, MP T.PN_nearest a → M a)
    (hg : Gl X "served" := by rfl) (hs0 : starEach [o, r, q, e] X.env = (false, eval o X.env) :: starEach [r, q, e] X.env := by rfl) (hs1 : starEach [r, q, e] X.env = (false, eval r X.env) :: starEach [q, e] X.env := by rfl) (hs3 : starEach [q, e] X.env = (false, eval q X.env) :: starEach [e] X.env := by rfl) (hs4 : starEach [e] X.env = (false, eval e X.env) :: starEach [] X.env := by rfl) (hpl : (backTo pos (starEach [r, q, e] X.env)).any (·.1) = false := by rfl)
    (eK : X.K = K := by rfl) (em : X.mg = mg := by rfl) : XE M Γ (tabR T.PN_nearest lamQ :: Rs2) X (.Call (.Name "served" p) [o, r, q, e] [] pos) (PD K (.list ((servedM g one bg cs).map prD))) :=
  xe_callM (ok_served (P := X.prog) (w := X.w) (base := X.base) T TB) hr T.g_served T.F_served.kp T.b_served (xa_cons ho (xa_cons h1 (xa_cons hb (xa_1 he hs4) hs3) hs1) hs0) (fun vs H h => ⟨⟨((g, b), (one, bg), cs), hk⟩, h, rfl, hM, mp_ad, fun _ _ h => h⟩) hg (by decide) hs0 hpl rfl rfl eK em rfl
end

/-! ### all at once is what a night serves -/
theorem known_all {s : Int} (hs : 0 ≤ s) (op : List Int) : knownM s (op.map fun f => ((0 : Int), f)) = op := by
  unfold knownM
  rw [List.filter_eq_self.mpr fun p hp => by
    obtain ⟨f, _, rfl⟩ := List.mem_map.mp hp
    exact decide_eq_true hs, List.map_map]
  exact List.map_id _
theorem still_rest {s f : Int} (hs : 0 ≤ s) (op : List Int) : stillM s f (op.map fun x => ((0 : Int), x)) = (restM f op).map fun x => ((0 : Int), x) := by
  unfold stillM restM
  rw [List.filter_map]
  congr 1
  refine List.filter_congr fun x _ => ?_
  show (!decide (x = f) || decide (s < 0)) = !decide (x = f)
  rw [decide_eq_false (show ¬ s < 0 by omega), Bool.or_false]
def lastC (c : Int) : List (Int × Int) → Int
  | [] => c
  | p :: ps => lastC p.2 ps
theorem lastC_snoc {c : Int} {p : Int × Int} : ∀ {l : List (Int × Int)}, lastC c (l ++ [p]) = p.2
  | [] => rfl
  | q :: l => lastC_snoc (l := l)
theorem all_run {g : List Int} (hg : ∀ x ∈ g, 1 ≤ x) {rule : Str} : ∀ (n : Nat) {s : CtlS}, 0 ≤ s.clock → (allM g rule n s).1.map Prod.fst = (runM g rule n s.here s.up s.clock (s.op.map fun f => ((0 : Int), f))).map Prod.fst ∧ (allM g rule n s).2.clock = lastC s.clock (runM g rule n s.here s.up s.clock (s.op.map fun f => ((0 : Int), f)))
  | 0, s, _ => ⟨rfl, rfl⟩
  | n + 1, s, h0 => by
    cases hop : s.op with
    | nil =>
      rw [all_none hop]
      exact ⟨rfl, rfl⟩
    | cons y ys =>
      have hne : s.op ≠ [] := by rw [hop]; simp
      rw [all_more hne]
      have hf := far_nn hg s.here (nextM g rule s).1
      have ih := all_run hg (rule := rule) n (s := serveM g rule s) (by
        show 0 ≤ s.clock + far g s.here (nextM g rule s).1
        omega)
      have em : max s.clock 0 = s.clock := by omega
      have e : runM g rule (n + 1) s.here s.up s.clock ((y :: ys).map fun f => ((0 : Int), f)) = ((nextM g rule s).1, (serveM g rule s).clock) :: runM g rule n (serveM g rule s).here (serveM g rule s).up (serveM g rule s).clock ((serveM g rule s).op.map fun f => ((0 : Int), f)) := by
        rw [List.map_cons, run_one, ← List.map_cons (f := fun f => ((0 : Int), f)), ← hop]
        show ((stopM g rule s.here s.up (knownM (max s.clock 0) _)).1, max s.clock 0 + far g s.here (stopM g rule s.here s.up (knownM (max s.clock 0) _)).1) :: _ = _
        rw [em, known_all h0]
        have e2 : stillM (s.clock + far g s.here (stopM g rule s.here s.up s.op).1) (stopM g rule s.here s.up s.op).1 (s.op.map fun f => ((0 : Int), f)) = (restM (nextM g rule s).1 s.op).map fun f => ((0 : Int), f) := still_rest (by
          have hf' : 0 ≤ far g s.here (stopM g rule s.here s.up s.op).1 := hf
          omega) _
        rw [e2]
        rfl
      rw [e]
      exact ⟨by rw [List.map_cons, List.map_cons, ih.1]; rfl, ih.2⟩
/-! ### the calls, two of them once more -/
def callsM (s : CtlS) (xs : List Int) : CtlS := xs.foldl callM s
theorem calls_new {xs : List Int} : ∀ {s : CtlS}, (s.op ++ xs).Nodup → callsM s xs = { s with op := s.op ++ xs } := by
  induction xs with
  | nil => intro s _; show s = _; simp
  | cons x xs ih =>
    intro s nd
    have hx : ¬ x ∈ s.op := fun h => by
      have := (List.nodup_append.mp nd).2.2 x h x List.mem_cons_self
      exact this rfl
    have e : callM s x = { s with op := s.op ++ [x] } := by
      unfold callM
      rw [if_neg hx]
    show callsM (callM s x) xs = _
    rw [e, ih (s := { s with op := s.op ++ [x] }) (by
      show ((s.op ++ [x]) ++ xs).Nodup
      rw [List.append_assoc]
      exact nd)]
    simp
theorem calls_old {xs : List Int} : ∀ {s : CtlS}, (∀ x ∈ xs, x ∈ s.op) → callsM s xs = s := by
  induction xs with
  | nil => intro s _; rfl
  | cons x xs ih =>
    intro s h
    have e : callM s x = s := by
      unfold callM
      rw [if_pos (h x List.mem_cons_self)]
    show callsM (callM s x) xs = _
    rw [e]
    exact ih fun y hy => h y (List.mem_cons_of_mem _ hy)
theorem calls_all {bg : Int} {cs : List Int} (nd : cs.Nodup) : callsM ⟨bg, true, 0, [], []⟩ (cs ++ cs.take 2) = ⟨bg, true, 0, cs, []⟩ := by
  unfold callsM
  rw [List.foldl_append]
  have e1 : cs.foldl callM ⟨bg, true, 0, [], []⟩ = ⟨bg, true, 0, cs, []⟩ := calls_new (s := ⟨bg, true, 0, [], []⟩) (by simpa using nd)
  rw [e1]
  exact calls_old (s := ⟨bg, true, 0, cs, []⟩) fun x hx => List.mem_of_mem_take hx
theorem end_snoc {f : Int} : ∀ {fs : List Int} {here : Int}, endM here (fs ++ [f]) = f
  | [], _ => rfl
  | _ :: fs, _ => end_snoc (fs := fs)
end K61
namespace K61
open PySem L2 Lh LhX
open LhL (ltK tabR LamP)
theorem canLay_row (r : Row) : PyData.canLay0 (rowD r) = true ∧ PyData.depth (rowD r) ≤ 10 := by
  cases r with
  | look l =>
    have hx := shaped_li l
    have hx1 : PyData.canLay0 (.tuple (li l)) = true := SeqAt.canLay_of_shaped (d := .tuple (li l)) hx
    have hx2 : PyData.depthAll (li l) ≤ 1 := PySem.W.depthAll_ints l
    refine ⟨?_, ?_⟩
    · simp only [rowD, Row.ds, PyData.canLay0, PyData.canLayAll0] at hx1 ⊢
      simp [hx1, (by decide +kernel : PyData.strOk (Str.ofString "look") = true)]
    · simp only [rowD, Row.ds, PyData.depth, PyData.depthAll]
      omega
  | go s => exact ⟨by simp [rowD, Row.ds, PyData.canLay0, PyData.canLayAll0, (by decide +kernel : PyData.strOk (Str.ofString "go") = true)], by simp [rowD, Row.ds, PyData.depth, PyData.depthAll]⟩
  | bell u => exact ⟨by simp [rowD, Row.ds, PyData.canLay0, PyData.canLayAll0, (by decide +kernel : PyData.strOk (Str.ofString "bell") = true)], by simp [rowD, Row.ds, PyData.depth, PyData.depthAll]⟩
  | door => exact ⟨by simp [rowD, Row.ds, PyData.canLay0, PyData.canLayAll0, (by decide +kernel : PyData.strOk (Str.ofString "door") = true)], by simp [rowD, Row.ds, PyData.depth, PyData.depthAll]⟩
  | gap => exact ⟨by simp [rowD, Row.ds, PyData.canLay0, PyData.canLayAll0, (by decide +kernel : PyData.strOk (Str.ofString "gap") = true)], by simp [rowD, Row.ds, PyData.depth, PyData.depthAll]⟩
theorem canLay_rows : ∀ a : List Row, PyData.canLayAll0 (a.map rowD) = true ∧ PyData.depthAll (a.map rowD) ≤ 10
  | [] => by simp [PyData.canLayAll0, PyData.depthAll]
  | x :: xs => by
    obtain ⟨h1, h2⟩ := canLay_rows xs
    obtain ⟨h3, h4⟩ := canLay_row x
    refine ⟨?_, ?_⟩
    · simp only [List.map_cons, PyData.canLayAll0, h3, h1]
      rfl
    · simp only [List.map_cons, PyData.depthAll]
      omega
theorem shaped_rows (a : List Row) : SeqAt.shaped (.list (a.map rowD)) = true := by
  obtain ⟨h1, h2⟩ := canLay_rows a
  have h3 : PyData.depth (.list (a.map rowD)) ≤ 64 := by simp only [PyData.depth]; omega
  show (PyData.canLay0 (.list (a.map rowD)) && decide (PyData.depth (.list (a.map rowD)) ≤ 64)) = true
  rw [Bool.and_eq_true]
  exact ⟨by simp only [PyData.canLay0]; exact h1, decide_eq_true h3⟩

/-- what is known in the law's loop -/
abbrev gY (K : PySem.W.Frag) (C : Addr) (ns : List Int) (bx : Addr) (g b : List Int) (bg : Int) (rule : Str) (cs : List Int) (x y : Addr) (due : List (Int × Int)) (s : CtlS) (a8 a11 a13 a14 a15 a16 a17 : Option Pd) : Ct := [some (PSc K ns), some (PV (.ref bx)), some (PHo K C g b), some (PD K (.int bg)), some (PD K (.str rule)), some (PD K (tupD cs)), some (PV (.ref x)), some (PV (.ref y)), a8, some (PD K (.list (due.map prD))), some (PD K (.int s.clock)), a11, some (PD K (.list (li s.st))), a13, a14, a15, a16, a17]
section
variable {K : PySem.W.Frag} {mg : Str → Option Value} {base : Heap} {P : Program} {w : World} {A : Str → Addr}
theorem ok_law (T : Txt K mg) (TB : LamX.TabB base mg T.cN_nearest T.PN_nearest) : FnOk P w K mg base CX0 15 T.f_law T.d_law ["_law_script"] (spLawT K T.PN_nearest) := by
  refine fn_LT (lq := lamQ) T.F_law sc_law rfl fun ns Z0 Z Q X qX hQ => ?_
  obtain ⟨cdv, A1, outer, sh, E, rfl, hr⟩ := qX
  have fin : ∀ (v : V) (H0 H : Hp), (PD K (.bool true)).p v H0 → Q v H := fun v H0 H h => by
    have e : v = .bl true := h
    subst e
    exact hQ H
  have n79 : (1 : Int) ≤ 7 ∧ (7 : Int) ≤ 9 := by decide
  have n29 : (1 : Int) ≤ 2 ∧ (2 : Int) ≤ 9 := by decide
  have n99 : (1 : Int) ≤ 9 ∧ (9 : Int) ≤ 9 := by decide
  refine xs_begunR 1 (ok_law_begun T) (hr.mono (by decide)) T.g__law_begun T.F__law_begun.kp T.b__law_begun (xe_var 0) (fun bx l hne zb zl => ?_) sc_law.nd
  refine xs_weak (M' := ML bx l T.PN_nearest) (fun _ h => .inr h) ?_
  have mB : ∀ a, MB bx l a → ML bx l T.PN_nearest a := fun _ h => .inl h
  have mN : ∀ a, MP T.PN_nearest a → ML bx l T.PN_nearest a := fun _ h => .inr h
  have cv : Cov (ML bx l T.PN_nearest) [Res.box bx l, tabR T.PN_nearest lamQ] := cov_law (q := lamQ) (by simp) (by simp)
  -- the house
  refine xs_asgE 2 (A := fun q : List Int × List Int => HouseOk q.1 q.2) (P := fun q => PHo K T.C_House q.1 q.2) (xe_callM (ok_law_house T) (hr.mono (by decide)) T.g__law_house T.F__law_house.kp T.b__law_house (xa_cons (xe_var 1) (xa_cons (xe_int (K := K) (i := 7)) (xa_1 (xe_ixLE (B := fun d => d = .int 2 ∨ d = .int 9) (xe_lst (ds := [.int 2, .int 9]) (xa_cons xe_int (xa_1 xe_int)) (by simp)) (xe_take T (hr.mono (by decide)) (xe_var 1) xe_int (by decide) (by decide) mB) (fun k hk => ?_))))) (fun vs H h => ?_)) (fun ⟨g, b⟩ hh => ?_) sc_law.nd
  · obtain ⟨k0, k1⟩ := hk
    have e : k = 0 ∨ k = 1 := by omega
    rcases e with rfl | rfl
    · exact ⟨_, rfl, .inl rfl⟩
    · exact ⟨_, rfl, .inr rfl⟩
  · obtain ⟨v1, r1, e1, q1, h1⟩ := h.inv
    obtain ⟨v2, r2, e2, q2, h2⟩ := h1.inv
    obtain ⟨v3, r3, e3, ⟨d, hd, q3⟩, h3⟩ := h2.inv
    have e4 := h3.nil_inv
    subst e1 e2 e3 e4
    rcases hd with rfl | rfl
    · exact ⟨⟨((bx, l), 7, 2), n79, n29⟩, DAll.cons q1 (DAll.cons q2 (DAll.cons q3 DAll.nil)), rfl, mB, fun _ h => mb_ad h, fun _ _ h => ⟨_, h.choose_spec.1.1, h.choose_spec.2⟩⟩
    · exact ⟨⟨((bx, l), 7, 9), n79, n99⟩, DAll.cons q1 (DAll.cons q2 (DAll.cons q3 DAll.nil)), rfl, mB, fun _ h => mb_ad h, fun _ _ h => ⟨_, h.choose_spec.1.1, h.choose_spec.2⟩⟩
  have hh' : HouseOk g b := hh
  have hg := hh'.gaps
  have h9 : g.length ≤ 9 := hg.nine
  have hg1 : ∀ x ∈ g, 1 ≤ x := fun x hx => (hg.each x hx).1
  -- where it begins, its rule
  refine xs_par 3 4 (P := PIn K 0 ((g.length : Int) + 1)) (Q := PEx isRule fun d => PD K d) (xa_cons (xe_take T (hr.mono (by decide)) (xe_var 1) (xe_lenO (ok_House_len T) (g, b) T.z_len (xe_var 2) rfl rfl (by omega) T.m_House_len.at_ T.m_House_len.fn (hr.mono (by decide)) T.b_House_len) (by show 1 ≤ (g.length : Int) + 1; omega) (by show (g.length : Int) + 1 < 1000000; omega) mB) (xa_1 (xe_ixLE (xe_lst (ds := lsD Rules) (xa_cons xe_str (xa_cons xe_str (xa_1 xe_str))) (by decide)) (xe_take T (hr.mono (by decide)) (xe_var 1) xe_int (by decide) (by decide) mB) (fun k hk => rule_at hk)))) ?_ sc_law.nd
  refine xs_slot 3 rfl fun bg hbg => ?_
  refine xs_slot 4 rfl fun d1 hd1 => ?_
  obtain ⟨rule, hrule, e1⟩ := hd1
  subst e1
  have hbg' : 0 ≤ bg ∧ bg < (g.length : Int) + 1 := hbg
  have hb2 : 0 ≤ bg ∧ bg ≤ g.length := by omega
  -- the calls
  refine xs_asgE 5 (A := fun cs : List Int => CallsOk g cs ∧ (cs.length : Int) ≤ 6) (P := fun cs => PD K (tupD cs)) (xe_callM (ok_law_calls T) (hr.mono (by decide)) T.g__law_calls T.F__law_calls.kp T.b__law_calls (xa_cons (xe_var 1) (xa_cons (xe_var 2) (xa_1 (xe_int (K := K) (i := 6))))) (fun vs H h => ⟨⟨(((bx, l), g, b), 6), h9, by show (0 : Int) ≤ 6; decide, by show (6 : Int) ≤ 100; decide⟩, h, rfl, mB, fun _ h => mb_ad h, fun _ _ h => h⟩)) (fun cs hcs => ?_) sc_law.nd
  obtain ⟨hc, hc6⟩ : CallsOk g cs ∧ (cs.length : Int) ≤ 6 := hcs
  have hc6' : cs.length ≤ 6 := by omega
  -- two lifts
  obtain ⟨s0, es0⟩ : ∃ s0 : CtlS, s0 = ⟨bg, true, 0, [], []⟩ := ⟨_, rfl⟩
  have ok0 : CtlOk g s0 := by
    rw [es0]
    exact ⟨hb2, List.nodup_nil, fun f h => (List.not_mem_nil h).elim, fun f h => (List.not_mem_nil h).elim⟩
  refine xs_parMk 6 7 (ym_O T.k_Control (ok_Control_init T) ⟨((g, b), rule, bg), hrule, hb2⟩ (hr.mono (by decide)) T.g_Control T.b_Control_init (xa_cons (xe_var 2) (xa_cons (xe_var 4) (xa_1 (xe_var 3)))) rfl (fun _ _ _ => rfl)) (fun _ _ _ => ym_O T.k_Control (ok_Control_init T) ⟨((g, b), rule, bg), hrule, hb2⟩ (hr.mono (by decide)) T.g_Control T.b_Control_init (xa_cons (xe_var 2) (xa_cons (xe_var 4) (xa_1 (xe_var 3)))) rfl (fun _ _ _ => rfl)) (fun x dx q y dy qy zx zq zy zqy => ?_) sc_law.nd
  refine xs_perm (Rs' := ctlR K T.C_House T.C_Control g b rule bg y dy qy s0 ++ [tabR T.PN_nearest lamQ] ++ (ctlR K T.C_House T.C_Control g b rule bg x dx q s0 ++ [Res.box bx l])) ?_ ?_
  · rw [es0]
    exact (List.Perm.cons _ (List.Perm.cons _ ((List.perm_append_comm (l₁ := [_, _, _]) (l₂ := [_])))))
  have hMy : ∀ a, MCP y qy T.PN_nearest a → ML bx l T.PN_nearest a ∨ Z a = none := fun a h => by
    rcases h with h | h | h
    · exact .inr (h ▸ zy)
    · exact .inr (h ▸ zqy)
    · exact .inl (.inr h)
  have hMy2 : ∀ a, MC y qy a → ML bx l T.PN_nearest a ∨ Z a = none := fun a h => by
    rcases h with h | h
    · exact .inr (h ▸ zy)
    · exact .inr (h ▸ zqy)
  have ec : li cs ++ (li cs).take 2 = li (cs ++ cs.take 2) := by simp [li]
  refine xs_forN 8 (xi_tup (ds := li (cs ++ cs.take 2)) (YE.dat (xe_catT (xe_var 5) (xe_slTb (xe_var 5) (xe_int (K := K)) (by decide)) (by rw [List.length_take]; simp [li]; omega)) (by show PyData.tuple (li cs ++ (li cs).take 2) = _; rw [ec]))) (fun t Γ1 Rs1 => ∃ a8, CtlOk g (callsM s0 ((cs ++ cs.take 2).take t)) ∧ Γ1 = [some (PSc K ns), some (PV (.ref bx)), some (PHo K T.C_House g b), some (PD K (.int bg)), some (PD K (.str rule)), some (PD K (tupD cs)), some (PV (.ref x)), some (PV (.ref y)), a8, none, none, none, none, none, none, none, none, none] ∧ Rs1 = ctlR K T.C_House T.C_Control g b rule bg y dy qy (callsM s0 ((cs ++ cs.take 2).take t)) ++ [tabR T.PN_nearest lamQ] ++ (ctlR K T.C_House T.C_Control g b rule bg x dx q s0 ++ [Res.box bx l])) ⟨none, ok0, rfl, rfl⟩ ?_ ?_ sc_law.nd
  · rintro t Qt Γ1 Rs1 hq ⟨a8, hok, rfl, rfl⟩ Hs
    obtain ⟨d, hd, rfl⟩ := map_at hq
    obtain ⟨f, hf, rfl⟩ := li_at hd
    have hfm : f ∈ cs := by
      rcases List.mem_append.mp (List.mem_of_getElem? hf) with h | h
      · exact h
      · exact List.mem_of_mem_take h
    have hff := hc.among f hfm
    have htk : callsM s0 ((cs ++ cs.take 2).take (t + 1)) = callM (callsM s0 ((cs ++ cs.take 2).take t)) f := by
      rw [List.take_add_one, hf]
      unfold callsM
      rw [List.foldl_append]
      rfl
    obtain ⟨s1, es1⟩ : ∃ s1, s1 = callsM s0 ((cs ++ cs.take 2).take t) := ⟨_, rfl⟩
    rw [← es1] at hok htk ⊢
    refine xs_exprC (M' := MC y qy) (xc_meth (rs1 := ctlR K T.C_House T.C_Control g b rule bg y dy qy s1) (rs2 := ctlR K T.C_House T.C_Control g b rule bg y dy qy (callM s1 f)) (Rs2 := tabR T.PN_nearest lamQ :: (ctlR K T.C_House T.C_Control g b rule bg x dx q s0 ++ [Res.box bx l])) (ok_Control_call T) ⟨((((g, b), rule, bg), (y, dy, qy), s1), f), h9, hok, hff⟩ (xe_var 7) (xa_1 (xe_var 8)) rfl rfl rfl rfl (fun _ h => h) (fun a h => by
      have h' : a = y ∨ a = qy := h
      show a ∈ [y, qy]
      simpa using h') List.mem_cons_self rfl T.c_Control T.m_Control_call (hr.mono (by decide)) T.b_Control_call) hMy2 ?_
    refine xs_turn (fun σ H h => h) ⟨_, ?_, rfl, ?_⟩
    · rw [htk]
      exact hok.call hff
    · rw [htk]
      rfl
  rintro Γ1 Rs1 ⟨a8, hok0, rfl, hR⟩
  have hlen : ((li (cs ++ cs.take 2)).map (PD K)).length = (cs ++ cs.take 2).length := by simp [li]
  obtain ⟨s1, es1⟩ : ∃ s1 : CtlS, s1 = ⟨bg, true, 0, cs, []⟩ := ⟨_, rfl⟩
  have ea : callsM s0 ((cs ++ cs.take 2).take ((li (cs ++ cs.take 2)).map (PD K)).length) = s1 := by
    rw [hlen, List.take_length, es0, es1]
    exact calls_all hc.once
  have hok : CtlOk g s1 := Eq.mp (congrArg (CtlOk g) ea) hok0
  have hR2 : Rs1 = ctlR K T.C_House T.C_Control g b rule bg y dy qy s1 ++ [tabR T.PN_nearest lamQ] ++ (ctlR K T.C_House T.C_Control g b rule bg x dx q s0 ++ [Res.box bx l]) := hR.trans (congrArg (fun z => ctlR K T.C_House T.C_Control g b rule bg y dy qy z ++ [tabR T.PN_nearest lamQ] ++ (ctlR K T.C_House T.C_Control g b rule bg x dx q s0 ++ [Res.box bx l])) ea)
  subst hR2
  have hop1 : s1.op = cs := by rw [es1]
  have hst1 : s1.st = [] := by rw [es1]
  have nok : NightOk g rule bg cs := ⟨hg, hrule, hb2, hc⟩
  obtain ⟨due, edue⟩ : ∃ due, due = servedM g rule bg cs := ⟨_, rfl⟩
  have hrun : (allM g rule s1.op.length s1).1.map Prod.fst = due.map Prod.fst ∧ (allM g rule s1.op.length s1).2.clock = lastC 0 due := by
    have h := all_run hg1 (rule := rule) s1.op.length (s := s1) (by rw [es1]; exact Int.le_refl _)
    rw [edue, es1] at *
    exact h
  have hdl : due.length ≤ 6 := by
    rw [edue]
    exact Nat.le_trans run_len hc6'
  have hal : (allM g rule s1.op.length s1).1.length ≤ 6 := by
    have h := congrArg List.length hrun.1
    rw [List.length_map, List.length_map] at h
    omega
  -- what is due
  refine xs_par 9 10 (P := PD K (.list (due.map prD))) (Q := PD K (.int 0)) (xa_cons (ye_perm (List.perm_middle (l₁ := ctlR K T.C_House T.C_Control g b rule bg y dy qy s1) (l₂ := ctlR K T.C_House T.C_Control g b rule bg x dx q s0 ++ [Res.box bx l])) (YE.dat (xe_served T TB (hr.mono (by decide)) (xe_var 2) (xe_var 4) (xe_var 3) (xe_var 5) nok mN) (by rw [edue]))) (xa_1 (xe_int (K := K)))) ?_ sc_law.nd
  refine xs_skip (YT.eq (xt_neD (d := .tuple (li s1.op)) (d' := .tuple (li cs)) hr (xe_propM (rs1 := [Res.obj T.C_Control y dy (ctlF K T.C_House g b rule bg qy s1)]) (ok_Control_open_calls T) ⟨((y, dy), ctlF K T.C_House g b rule bg qy s1, PD K (.tuple (li s1.op))), rfl⟩ (xe_var 7) rfl rfl List.mem_cons_self T.c_Control T.m_Control_open_calls (hr.mono (by decide)) T.b_Control_open_calls) (xe_var 5) (shaped_li s1.op) (shaped_li cs)) ?_) ?_
  · show (!PyData.eqv (.tuple (li s1.op)) (.tuple (li cs))) = false
    rw [hop1, eqv_tli]
    simp
  -- all served
  obtain ⟨s2, es2⟩ : ∃ s2, s2 = (allM g rule s1.op.length s1).2 := ⟨_, rfl⟩
  refine xs_skipT (M' := MCP y qy T.PN_nearest) (B := Is false) (YTC.eq (xtc_neD hr (xc_mapC (Rs' := ctlR K T.C_House T.C_Control g b rule bg y dy qy s2 ++ [tabR T.PN_nearest lamQ] ++ (ctlR K T.C_House T.C_Control g b rule bg x dx q s0 ++ [Res.box bx l])) prD (allM g rule s1.op.length s1).1 11 (fun p => .int p.1) (xc_meth0 (rs1 := ctlR K T.C_House T.C_Control g b rule bg y dy qy s1 ++ [tabR T.PN_nearest lamQ]) (rs2 := ctlR K T.C_House T.C_Control g b rule bg y dy qy s2 ++ [tabR T.PN_nearest lamQ]) (Rs2 := ctlR K T.C_House T.C_Control g b rule bg x dx q s0 ++ [Res.box bx l]) (ok_Control_serve_all T TB) ⟨(((g, b), rule, bg), (y, dy, qy), s1), h9, hok, by show s1.st.length + s1.op.length ≤ 300; rw [hop1, hst1]; simp; omega⟩ (xe_var 7) rfl rfl (by rw [es2]) rfl (fun _ h => h) (fun a h => by
      have h' : a = y ∨ a = qy ∨ a = T.PN_nearest := h
      show a ∈ [y, qy, T.PN_nearest]
      simpa using h') List.mem_cons_self rfl T.c_Control T.m_Control_serve_all (hr.mono (by decide)) T.b_Control_serve_all) (fun p hp s0 H0 C cl fp => xe_ixT (ds := [.int p.1, .int p.2]) (xe_var 11) (xe_int (K := K)) rfl) sc_law.nd (blkOk_by rfl) (by omega) (fun _ _ _ _ _ => pg_name (i := 11) sc_law.nd rfl (Or.inl rfl))) (xe_mapG prD due 11 (fun p => .int p.1) (xi_list (xe_var 9)) (fun p hp s0 H0 C cl fp => xe_ixT (ds := [.int p.1, .int p.2]) (xe_var 11) (xe_int (K := K)) rfl) sc_law.nd (blkOk_by rfl) (by omega) (cov_ctl (qq := lamQ) List.mem_cons_self (List.mem_cons_of_mem _ List.mem_cons_self) (List.mem_cons_of_mem _ (List.mem_cons_of_mem _ List.mem_cons_self))) (fun _ _ _ _ _ => pg_name (i := 11) sc_law.nd rfl (Or.inl rfl))) ?_ ?_) ?_) hMy (fun b hb => hb) ?_
  · have e : (allM g rule s1.op.length s1).1.map (fun p => PyData.int p.1) = li ((allM g rule s1.op.length s1).1.map Prod.fst) := by simp [li]
    rw [e]
    exact shaped_li _
  · have e : due.map (fun p => PyData.int p.1) = li (due.map Prod.fst) := by simp [li]
    rw [e]
    exact shaped_li _
  · have e : (allM g rule s1.op.length s1).1.map (fun p => PyData.int p.1) = li ((allM g rule s1.op.length s1).1.map Prod.fst) := by simp [li]
    have e2 : due.map (fun p => PyData.int p.1) = li (due.map Prod.fst) := by simp [li]
    rw [e, e2, eqv_li, hrun.1]
    simp
  -- its clock
  refine xs_skip (YT.eq (xt_neI (K := K) (i := s2.clock) (j := lastC 0 due) (xe_propM (rs1 := [Res.obj T.C_Control y dy (ctlF K T.C_House g b rule bg qy s2)]) (ok_Control_clock T) ⟨((y, dy), ctlF K T.C_House g b rule bg qy s2, PD K (.int s2.clock)), rfl⟩ (xe_var 7) rfl rfl List.mem_cons_self T.c_Control T.m_Control_clock (hr.mono (by decide)) T.b_Control_clock) (xe_ifx (xt_neD hr (xe_var 9) (xe_lst (ds := []) xa_nil (by simp)) (shaped_prs due) rfl) (fun hb => ?_) (fun hb => ?_))) ?_) ?_
  · have hb' : true = !PyData.eqv (.list (due.map prD)) (.list []) := hb
    rcases List.eq_nil_or_concat due with e | ⟨D, p, e⟩
    · rw [e] at hb'
      cases hb'
    · rw [List.concat_eq_append] at e
      have e2 : due.map prD = D.map prD ++ [prD p] := by rw [e]; simp
      refine YE.dat (xe_ixT (ds := [.int p.1, .int p.2]) (xe_ixL (ds := due.map prD) (xe_var 9) (xe_neg (K := K) xe_int) (by rw [e2]; exact atI_last _ _)) (xe_int (K := K)) rfl) ?_
      rw [e, lastC_snoc]
  · have hb' : false = !PyData.eqv (.list (due.map prD)) (.list []) := hb
    cases due with
    | nil => exact YE.dat (xe_int (K := K)) rfl
    | cons p ps => cases hb'
  · show (!decide (s2.clock = lastC 0 due)) = false
    rw [es2, hrun.2]
    simp
  -- the other lift
  refine xs_dropR (rs1 := ctlR K T.C_House T.C_Control g b rule bg y dy qy s2) (Rs2 := tabR T.PN_nearest lamQ :: (ctlR K T.C_House T.C_Control g b rule bg x dx q s0 ++ [Res.box bx l])) ?_
  refine xs_perm (Rs' := ctlR K T.C_House T.C_Control g b rule bg x dx q s0 ++ [tabR T.PN_nearest lamQ, Res.box bx l]) (List.perm_middle (l₁ := ctlR K T.C_House T.C_Control g b rule bg x dx q s0) (l₂ := [Res.box bx l])).symm ?_
  refine xs_asg 12 (P := PD K (.list (li s0.st))) (YE.dat (xe_lst (K := K) (ds := []) xa_nil (by simp)) (by rw [es0]; rfl)) ?_ sc_law.nd
  have hM2 : ∀ a, (MB bx l a ∨ MCP x q T.PN_nearest a) → ML bx l T.PN_nearest a ∨ Z a = none := fun a h => by
    rcases h with h | h | h | h
    · exact .inl (.inl h)
    · exact .inr (h ▸ zx)
    · exact .inr (h ▸ zq)
    · exact .inl (.inr h)
  have mB2 : ∀ a, MB bx l a → MB bx l a ∨ MCP x q T.PN_nearest a := fun _ h => .inl h
  have pBox : ∀ s : CtlS, (ctlR K T.C_House T.C_Control g b rule bg x dx q s ++ [tabR T.PN_nearest lamQ, Res.box bx l]).Perm (Res.box bx l :: (ctlR K T.C_House T.C_Control g b rule bg x dx q s ++ [tabR T.PN_nearest lamQ])) := fun s => List.perm_append_comm (l₁ := ctlR K T.C_House T.C_Control g b rule bg x dx q s ++ [tabR T.PN_nearest lamQ]) (l₂ := [Res.box bx l])
  refine xs_forNE 13 (xi_rangeE T.z_range (ye_perm (pBox s0) (xe_take T (hr.mono (by decide)) (xe_var 1) (xe_int (K := K) (i := 9)) (by decide) (by decide) mB)) (fun n hn => by
    have hn' : 0 ≤ n ∧ n < 9 := hn
    omega)) (fun t Γ1 Rs1 => ∃ (s : CtlS) (a8 a11 a13 a14 a15 a16 a17 : Option Pd), CtlOk g s ∧ s.st.length ≤ t ∧ s.here = endM bg s.st ∧ Γ1 = gY K T.C_House ns bx g b bg rule cs x y due s a8 a11 a13 a14 a15 a16 a17 ∧ Rs1 = ctlR K T.C_House T.C_Control g b rule bg x dx q s ++ [tabR T.PN_nearest lamQ, Res.box bx l]) ⟨s0, _, _, _, _, _, _, _, ok0, by rw [es0]; exact Nat.le_refl _, by rw [es0]; rfl, by rw [es0]; rfl, rfl⟩ ?_ ?_ sc_law.nd
  · rintro n hn t Qt Γ1 Rs1 hq ⟨s, a8, a11, a13, a14, a15, a16, a17, hok, hst, hend, rfl, rfl⟩ Hs
    have hn' : 0 ≤ n ∧ n < 9 := hn
    have ht9 : t < 9 := by
      have h := (List.getElem?_eq_some_iff.mp hq).1
      rw [List.length_map, List.length_map, rgI_len] at h
      omega
    refine xs_asgCE 14 (β := Int) (M' := fun a => MB bx l a ∨ MCP x q T.PN_nearest a) (A := fun f => 0 ≤ f ∧ f ≤ g.length) (Rs' := fun f => ctlR K T.C_House T.C_Control g b rule bg x dx q (callM s f) ++ [tabR T.PN_nearest lamQ, Res.box bx l]) (P := fun f => PD K (.int ((callM s f).op.length : Int))) (xce_meth (rs1 := ctlR K T.C_House T.C_Control g b rule bg x dx q s) (Rs2 := [tabR T.PN_nearest lamQ, Res.box bx l]) (rs2 := fun f => ctlR K T.C_House T.C_Control g b rule bg x dx q (callM s f)) (ok_Control_call T) (xe_var 6) (xa_1 (ye_perm (pBox s) (xe_take T (hr.mono (by decide)) (xe_var 1) (xe_lenO (ok_House_len T) (g, b) T.z_len (xe_var 2) rfl rfl (by dsimp only; omega) T.m_House_len.at_ T.m_House_len.fn (hr.mono (by decide)) T.b_House_len) (by show 1 ≤ (g.length : Int) + 1; omega) (by show (g.length : Int) + 1 < 1000000; omega) mB2))) (fun vs H h => ?_) (fun _ => rfl) List.mem_cons_self rfl T.c_Control T.m_Control_call (hr.mono (by decide)) T.b_Control_call) hM2 (fun f hf => ?_) sc_law.nd
    · obtain ⟨v1, r1, e1, ⟨f, hf, hv⟩, h1⟩ := h.inv
      have e2 := h1.nil_inv
      subst e1 e2
      have hf' : 0 ≤ f ∧ f < (g.length : Int) + 1 := hf
      have hff : 0 ≤ f ∧ f ≤ g.length := by omega
      exact ⟨f, ⟨((((g, b), rule, bg), (x, dx, q), s), f), h9, hok, hff⟩, hff, DAll.cons (P := PV (.ref x)) rfl (DAll.cons hv DAll.nil), rfl, rfl, rfl, fun c hc => by
        have h' : c = x ∨ c = q := hc
        rcases h' with h' | h'
        · exact .inr (.inl h')
        · exact .inr (.inr (.inl h')), fun c hc => by
        have h' : c = x ∨ c = q := hc
        show c ∈ [x, q]
        simpa using h'⟩
    have hff : 0 ≤ f ∧ f ≤ g.length := hf
    obtain ⟨s3, es3⟩ : ∃ s3, s3 = callM s f := ⟨_, rfl⟩
    have ok3 : CtlOk g s3 := by
      rw [es3]
      exact hok.call hff
    have st3 : s3.st = s.st := by rw [es3]; rfl
    have he3 : s3.here = s.here := by rw [es3]; rfl
    have hc3 : s3.clock = s.clock := by rw [es3]; rfl
    have hne3 : s3.op ≠ [] := by
      rw [es3]
      show (if f ∈ s.op then s.op else s.op ++ [f]) ≠ []
      split
      · rename_i h
        exact List.ne_nil_of_mem h
      · simp
    dsimp only
    rw [← es3]
    refine xs_skip (YT.eq (xt_neI (K := K) (xe_var 14) (xe_lenT (ds := li s3.op) T.z_len (xe_propM (rs1 := [Res.obj T.C_Control x dx (ctlF K T.C_House g b rule bg q s3)]) (ok_Control_open_calls T) ⟨((x, dx), ctlF K T.C_House g b rule bg q s3, PD K (.tuple (li s3.op))), rfl⟩ (xe_var 6) rfl rfl List.mem_cons_self T.c_Control T.m_Control_open_calls (hr.mono (by decide)) T.b_Control_open_calls))) ?_) ?_
    · show (!decide ((s3.op.length : Int) = ((li s3.op).length : Int))) = false
      simp [li]
    refine xs_if (yt_perm (pBox s3) (xt_eqIn (K := K) (xe_take T (hr.mono (by decide)) (xe_var 1) (xe_int (K := K) (i := 2)) (by decide) (by decide) mB) xe_int)) (fun _ => ?_) (fun _ => ?_)
    · obtain ⟨s4, es4⟩ : ∃ s4, s4 = serveM g rule s3 := ⟨_, rfl⟩
      have nin := next_in (rule := rule) ok3 hne3
      obtain ⟨f4, ef4⟩ : ∃ f4, f4 = (nextM g rule s3).1 := ⟨_, rfl⟩
      rw [← ef4] at nin
      have ok4 : CtlOk g s4 := by
        rw [es4]
        exact ok3.serve hne3
      have h4 : s4.here = f4 := by rw [es4, ef4]; rfl
      have c4 : s4.clock = s3.clock + far g s3.here f4 := by rw [es4, ef4]; rfl
      have st4 : s4.st = s3.st ++ [f4] := by rw [es4, ef4]; rfl
      have op4 : s4.op = restM f4 s3.op := by rw [es4, ef4]; rfl
      have ni4 : ¬ f4 ∈ s4.op := by
        rw [op4]
        intro h
        have := (List.mem_filter.mp h).2
        simp at this
      refine xs_asg 15 (xe_propM (rs1 := [Res.obj T.C_Control x dx (ctlF K T.C_House g b rule bg q s3)]) (ok_Control_here T) ⟨((x, dx), ctlF K T.C_House g b rule bg q s3, PD K (.int s3.here)), rfl⟩ (xe_var 6) rfl rfl List.mem_cons_self T.c_Control T.m_Control_here (hr.mono (by decide)) T.b_Control_here) ?_ sc_law.nd
      refine xs_unpNC [8, 16] (Ps := [PD K (.int f4), PD K (.int (far g s3.here f4))]) (M' := fun a => MB bx l a ∨ MCP x q T.PN_nearest a) (Rs' := ctlR K T.C_House T.C_Control g b rule bg x dx q s4 ++ [tabR T.PN_nearest lamQ, Res.box bx l]) (YC.imp (xc_meth0 (rs1 := ctlR K T.C_House T.C_Control g b rule bg x dx q s3 ++ [tabR T.PN_nearest lamQ]) (rs2 := ctlR K T.C_House T.C_Control g b rule bg x dx q s4 ++ [tabR T.PN_nearest lamQ]) (Rs2 := [Res.box bx l]) (ok_Control_serve T TB) ⟨(((g, b), rule, bg), (x, dx, q), s3), h9, ok3, hne3, by show s3.st.length ≤ 300; rw [st3]; omega⟩ (xe_var 6) rfl rfl (by rw [es4]) rfl (fun _ h => .inr h) (fun a h => by
        have h' : a = x ∨ a = q ∨ a = T.PN_nearest := h
        show a ∈ [x, q, T.PN_nearest]
        simpa using h') List.mem_cons_self rfl T.c_Control T.m_Control_serve (hr.mono (by decide)) T.b_Control_serve) (fun v H hv => by
        have hv' : (PD K (.tuple [.int (nextM g rule s3).1, .int (far g s3.here (nextM g rule s3).1)])).p v H := hv
        rw [← ef4] at hv'
        exact pts_of hv')) hM2 ?_ (pgN_cons (pgN_cons pgN_nil sc_law.nd) sc_law.nd)
      refine xs_par 12 10 (P := PD K (.list (li s4.st))) (Q := PD K (.int s4.clock)) (xa_cons (YE.dat (xe_catL (K := K) (ds := li s.st) (es := [.int f4]) (xe_var 12) (xe_lst (ds := [.int f4]) (xa_1 (xe_var 8)) (by simp)) (by simp [li]; omega)) (by rw [st4, st3]; simp [li])) (xa_1 (YE.dat (xe_add (K := K) (i := s.clock) (j := far g s3.here f4) (xe_var 10) (xe_var 16)) (by rw [c4, hc3])))) ?_ sc_law.nd
      have hh3 := ok3.here
      refine xs_skip (YT.eq (xt_or3B (u := false) (v := false) (w := false) (YT.eq (xt_neI (K := K) (i := far g s3.here f4) (j := far g s3.here f4) (xe_var 16) (xe_meth (ok_House_seconds T) ⟨((g, b), s3.here, f4), hh3, nin.2⟩ (xe_var 2) (xa_cons (xe_var 15) (xa_1 (xe_var 8))) rfl rfl T.c_House T.m_House_seconds (hr.mono (by decide)) T.b_House_seconds)) (by simp)) (fun _ => YT.eq (xt_neI (K := K) (i := s4.here) (j := f4) (xe_propM (rs1 := [Res.obj T.C_Control x dx (ctlF K T.C_House g b rule bg q s4)]) (ok_Control_here T) ⟨((x, dx), ctlF K T.C_House g b rule bg q s4, PD K (.int s4.here)), rfl⟩ (xe_var 6) rfl rfl List.mem_cons_self T.c_Control T.m_Control_here (hr.mono (by decide)) T.b_Control_here) (xe_var 8)) (by rw [h4]; simp)) (fun _ _ => YT.eq (xt_inT (ns := s4.op) (xe_var 8) (xe_propM (rs1 := [Res.obj T.C_Control x dx (ctlF K T.C_House g b rule bg q s4)]) (ok_Control_open_calls T) ⟨((x, dx), ctlF K T.C_House g b rule bg q s4, PD K (.tuple (li s4.op))), rfl⟩ (xe_var 6) rfl rfl List.mem_cons_self T.c_Control T.m_Control_open_calls (hr.mono (by decide)) T.b_Control_open_calls)) (decide_eq_false ni4))) rfl) ?_
      refine xs_turn (fun σ H h => PSs.wp pss_nil h) ⟨s4, _, _, _, _, _, _, _, ok4, ?_, ?_, rfl, rfl⟩
      · rw [st4, st3, List.length_append]
        simp
        omega
      · rw [h4, st4]
        exact end_snoc.symm
    · exact xs_turn (fun σ H h => PSs.wp pss_nil h) ⟨s3, _, _, _, _, _, _, _, ok3, by rw [st3]; omega, by rw [he3, st3]; exact hend, by unfold gY; rw [st3, hc3]; rfl, rfl⟩
  · rintro n hn Γ1 Rs1 ⟨s, a8, a11, a13, a14, a15, a16, a17, hok, hst, hend, rfl, rfl⟩
    have hn' : 0 ≤ n ∧ n < 9 := hn
    have hst9 : s.st.length ≤ 9 := by
      have e : ((li (rgI 0 n.toNat)).map (PD K)).length = n.toNat := by simp [li, rgI_len]
      have h : s.st.length ≤ ((li (rgI 0 n.toNat)).map (PD K)).length := hst
      rw [e] at h
      omega
    obtain ⟨L, eL'⟩ : ∃ L, L = sndR g b bg s.st := ⟨_, rfl⟩
    have elog : PyData.list (sndD g b bg s.st) = logD L := by rw [snd_rows, eL']
    have hLl : L.length ≤ 27 := by
      rw [eL']
      have := sndR_len (g := g) (b := b) bg s.st
      omega
    refine xs_asg 17 (P := PD K (logD L)) (YE.dat (ye_ofC (xc_meth0 (rs1 := ctlR K T.C_House T.C_Control g b rule bg x dx q s) (rs2 := ctlR K T.C_House T.C_Control g b rule bg x dx q s) (Rs2 := [tabR T.PN_nearest lamQ, Res.box bx l]) (ok_Control_heard T) ⟨(((g, b), rule, bg), (x, dx, q), s), h9, hok, hb2, by show s.st.length ≤ 300; omega⟩ (xe_var 6) rfl rfl rfl rfl (fun _ h => h.elim) (fun _ h => h.elim) List.mem_cons_self rfl T.c_Control T.m_Control_heard (hr.mono (by decide)) T.b_Control_heard)) elog) ?_ sc_law.nd
    refine xs_skip (YT.eq (xt_orB (u := false) (v := false) (YT.eq (xt_neI (K := K) (i := s.clock) (j := s.clock) (xe_propM (rs1 := [Res.obj T.C_Control x dx (ctlF K T.C_House g b rule bg q s)]) (ok_Control_clock T) ⟨((x, dx), ctlF K T.C_House g b rule bg q s, PD K (.int s.clock)), rfl⟩ (xe_var 6) rfl rfl List.mem_cons_self T.c_Control T.m_Control_clock (hr.mono (by decide)) T.b_Control_clock) (xe_var 10)) (by simp)) (fun _ => YT.eq (xt_neD hr (d := logD L) (d' := logD L) (xe_var 17) (YE.dat (xe_callD (ok_soundsT T) ⟨((g, b), bg, s.st), h9, hb2, hok.stops, by show s.st.length ≤ 300; omega⟩ (hr.mono (by decide)) T.g_sounds T.F_sounds.kp T.b_sounds (xa_cons (xe_var 2) (xa_cons (xe_var 3) (xa_1 (xe_tupL T.z_tuple (xe_var 12)))))) elog) (shaped_rows L) (shaped_rows L)) (by rw [SeqAt.eqv_refl _ (SeqAt.canLay_of_shaped (shaped_rows L))]; rfl))) rfl) ?_
    have hwy := way_snd (b := b) hb2 hok.stops
    rw [← eL'] at hwy
    have hHear : HearOk g [bg] L := ⟨h9, fun z hz => by
      rw [List.mem_singleton.mp hz]
      exact hb2, by simp, by rw [eL']; exact sndR_ok hg hb2 hok.stops, by omega⟩
    exact xs_ret (P := PD K (.bool true)) (xe_callM (ok_law_is_heard T) (hr.mono (by decide)) T.g__law_is_heard T.F__law_is_heard.kp T.b__law_is_heard (xa_cons (xe_var 2) (xa_cons (xe_var 3) (xa_cons (xe_var 6) (xa_1 (xe_var 17))))) (fun vs H h => ⟨⟨(((g, b), bg), (x, dx, ctlF K T.C_House g b rule bg q s), s.here, L), hg, hb2, rfl, hHear, by show L.length ≤ 100; omega, fun hnil => by
      show bg = s.here
      rw [hend]
      have hnil' : sndR g b bg s.st = [] := by rw [← eL']; exact hnil
      rcases snd_last (g := g) (b := b) bg s.st with ⟨_, h2⟩ | ⟨R, h2⟩
      · rw [h2]
        rfl
      · rw [hnil'] at h2
        simp at h2, wayS g bg s.st, hwy.1, by
      show (bg :: wayS g bg s.st)[L.length]? = some s.here
      rw [hend]
      exact hwy.2⟩, h, rfl, fun _ h => h.elim, fun _ h => h.elim, fun _ _ h => h⟩)) fun v H0 H s k hv => fin v H0 H hv
end
end K61
namespace K61
open PySem L2 Lh
/-! ### the end -/
def fas0 : List He.Fa := [.glo "check_gaps", .glo "check_bells", .glo "check_floors", .glo "check_rule", .glo "wrong_call", .glo "check_calls", .glo "nearest", .glo "next_in_sweep", .glo "next_stop", .glo "stops_of", .glo "sounds", .glo "is_row_of"]
def fas1 : List He.Fa := [.glo "check_log", .glo "check_hearing", .glo "next_floors", .glo "floors_behind_row", .glo "floors_behind", .glo "links_of", .glo "numbers_ahead", .glo "numbers_behind", .glo "numbers_through", .glo "number_from", .glo "way_count", .glo "meets"]
def fas2 : List He.Fa := [.glo "ends_without", .glo "links_without", .glo "verdict", .glo "judged", .glo "possible", .glo "beginning", .glo "behind_row", .glo "with_floors", .glo "way_number_of", .glo "floors_of", .glo "check_name", .glo "served"]
def fas3 : List He.Fa := [.glo "_law_begun", .glo "_law_take", .glo "_law_house", .glo "_law_calls", .glo "_law_is_heard", .glo "law", .glo "House", .cls "House", .mkr "House", .glo "Control", .cls "Control", .mkr "Control"]
def fas4 : List He.Fa := [.glo "Known", .cls "Known", .mkr "Known", .glo "Listener", .cls "Listener", .mkr "Listener", .noat "House" "_gaps", .noat "House" "_bells", .noat "House" "_floors", .noat "Control" "_house", .noat "Control" "_rule", .noat "Control" "_begin"]
def fas5 : List He.Fa := [.noat "Control" "_stops", .noat "Control" "_here", .noat "Control" "_clock", .noat "Control" "_open_calls", .noat "Control" "_is_up", .noat "Known" "rows", .noat "Known" "start", .noat "Known" "links", .noat "Known" "numbers", .noat "Listener" "_house", .noat "Listener" "_operations", .noat "Listener" "_known"]
def fas6 : List He.Fa := [.noat "Listener" "_undone", .meth "House" "__len__", .meth "House" "__eq__", .meth "House" "seconds", .meth "Control" "call", .meth "Control" "serve", .meth "Control" "serve_all", .meth "Control" "heard", .meth "Listener" "_add", .meth "Listener" "hear", .meth "Listener" "told", .meth "Listener" "mark"]
def fas7 : List He.Fa := [.meth "Listener" "go", .meth "Listener" "_marked", .meth "Listener" "_check_moment", .meth "Listener" "floors_then", .meth "Listener" "way_number", .free "len", .free "range", .free "enumerate", .free "zip", .free "min", .free "max", .free "sum"]
def fas8 : List He.Fa := [.free "sorted", .free "reversed", .free "int", .free "list", .free "tuple", .free "isinstance", .free "all", .free "ValueError", .free "super", .int "MOST_GAPS" 9, .int "LONGEST_GAP" 9, .int "LONGEST_GO" 81]
def fas9 : List He.Fa := [.int "LONGEST_NAME" 8, .glo "RULES"]
def fas : List He.Fa := fas0 ++ fas1 ++ fas2 ++ fas3 ++ fas4 ++ fas5 ++ fas6 ++ fas7 ++ fas8 ++ fas9
def fns0 : List He.DefD := [⟨("check_gaps", none), "check_gaps", "check_gaps", defArgs s_check_gaps, defBody s_check_gaps, defScope s_check_gaps, [], []⟩, ⟨("check_bells", none), "check_bells", "check_bells", defArgs s_check_bells, defBody s_check_bells, defScope s_check_bells, [], []⟩, ⟨("check_floors", none), "check_floors", "check_floors", defArgs s_check_floors, defBody s_check_floors, defScope s_check_floors, [], []⟩, ⟨("check_rule", none), "check_rule", "check_rule", defArgs s_check_rule, defBody s_check_rule, defScope s_check_rule, [], []⟩, ⟨("wrong_call", none), "wrong_call", "wrong_call", defArgs s_wrong_call, defBody s_wrong_call, defScope s_wrong_call, [], []⟩, ⟨("check_calls", none), "check_calls", "check_calls", defArgs s_check_calls, defBody s_check_calls, defScope s_check_calls, [], []⟩, ⟨("nearest", none), "nearest", "nearest", defArgs s_nearest, defBody s_nearest, defScope s_nearest, [], []⟩, ⟨("next_in_sweep", none), "next_in_sweep", "next_in_sweep", defArgs s_next_in_sweep, defBody s_next_in_sweep, defScope s_next_in_sweep, [], []⟩, ⟨("next_stop", none), "next_stop", "next_stop", defArgs s_next_stop, defBody s_next_stop, defScope s_next_stop, [], []⟩, ⟨("stops_of", none), "stops_of", "stops_of", defArgs s_stops_of, defBody s_stops_of, defScope s_stops_of, [], []⟩, ⟨("sounds", none), "sounds", "sounds", defArgs s_sounds, defBody s_sounds, defScope s_sounds, [], []⟩, ⟨("is_row_of", none), "is_row_of", "is_row_of", defArgs s_is_row_of, defBody s_is_row_of, defScope s_is_row_of, [], []⟩]
def fns1 : List He.DefD := [⟨("check_log", none), "check_log", "check_log", defArgs s_check_log, defBody s_check_log, defScope s_check_log, [], []⟩, ⟨("check_hearing", none), "check_hearing", "check_hearing", defArgs s_check_hearing, defBody s_check_hearing, defScope s_check_hearing, [], []⟩, ⟨("next_floors", none), "next_floors", "next_floors", defArgs s_next_floors, defBody s_next_floors, defScope s_next_floors, [], []⟩, ⟨("floors_behind_row", none), "floors_behind_row", "floors_behind_row", defArgs s_floors_behind_row, defBody s_floors_behind_row, defScope s_floors_behind_row, [], []⟩, ⟨("floors_behind", none), "floors_behind", "floors_behind", defArgs s_floors_behind, defBody s_floors_behind, defScope s_floors_behind, [], []⟩, ⟨("links_of", none), "links_of", "links_of", defArgs s_links_of, defBody s_links_of, defScope s_links_of, [], []⟩, ⟨("numbers_ahead", none), "numbers_ahead", "numbers_ahead", defArgs s_numbers_ahead, defBody s_numbers_ahead, defScope s_numbers_ahead, [], []⟩, ⟨("numbers_behind", none), "numbers_behind", "numbers_behind", defArgs s_numbers_behind, defBody s_numbers_behind, defScope s_numbers_behind, [], []⟩, ⟨("numbers_through", none), "numbers_through", "numbers_through", defArgs s_numbers_through, defBody s_numbers_through, defScope s_numbers_through, [], []⟩, ⟨("number_from", none), "number_from", "number_from", defArgs s_number_from, defBody s_number_from, defScope s_number_from, [], []⟩, ⟨("way_count", none), "way_count", "way_count", defArgs s_way_count, defBody s_way_count, defScope s_way_count, [], []⟩, ⟨("meets", none), "meets", "meets", defArgs s_meets, defBody s_meets, defScope s_meets, [], []⟩]
def fns2 : List He.DefD := [⟨("ends_without", none), "ends_without", "ends_without", defArgs s_ends_without, defBody s_ends_without, defScope s_ends_without, [], []⟩, ⟨("links_without", none), "links_without", "links_without", defArgs s_links_without, defBody s_links_without, defScope s_links_without, [], []⟩, ⟨("verdict", none), "verdict", "verdict", defArgs s_verdict, defBody s_verdict, defScope s_verdict, [], []⟩, ⟨("judged", none), "judged", "judged", defArgs s_judged, defBody s_judged, defScope s_judged, [], []⟩, ⟨("possible", none), "possible", "possible", defArgs s_possible, defBody s_possible, defScope s_possible, [], []⟩, ⟨("beginning", none), "beginning", "beginning", defArgs s_beginning, defBody s_beginning, defScope s_beginning, [], []⟩, ⟨("behind_row", none), "behind_row", "behind_row", defArgs s_behind_row, defBody s_behind_row, defScope s_behind_row, [], []⟩, ⟨("with_floors", none), "with_floors", "with_floors", defArgs s_with_floors, defBody s_with_floors, defScope s_with_floors, [], []⟩, ⟨("way_number_of", none), "way_number_of", "way_number_of", defArgs s_way_number_of, defBody s_way_number_of, defScope s_way_number_of, [], []⟩, ⟨("floors_of", none), "floors_of", "floors_of", defArgs s_floors_of, defBody s_floors_of, defScope s_floors_of, [], []⟩, ⟨("check_name", none), "check_name", "check_name", defArgs s_check_name, defBody s_check_name, defScope s_check_name, [], []⟩, ⟨("served", none), "served", "served", defArgs s_served, defBody s_served, defScope s_served, [], []⟩]
def fns3 : List He.DefD := [⟨("_law_begun", none), "_law_begun", "_law_begun", defArgs s__law_begun, defBody s__law_begun, defScope s__law_begun, [], []⟩, ⟨("_law_take", none), "_law_take", "_law_take", defArgs s__law_take, defBody s__law_take, defScope s__law_take, [], []⟩, ⟨("_law_house", none), "_law_house", "_law_house", defArgs s__law_house, defBody s__law_house, defScope s__law_house, [], []⟩, ⟨("_law_calls", none), "_law_calls", "_law_calls", defArgs s__law_calls, defBody s__law_calls, defScope s__law_calls, [], []⟩, ⟨("_law_is_heard", none), "_law_is_heard", "_law_is_heard", defArgs s__law_is_heard, defBody s__law_is_heard, defScope s__law_is_heard, [], []⟩, ⟨("law", none), "law", "law", defArgs s_law, defBody s_law, defScope s_law, [], []⟩, ⟨("House", some "__init__"), "__init__", "House.__init__", defArgs s_House_init, defBody s_House_init, defScope s_House_init, [], []⟩, ⟨("House", some "__len__"), "__len__", "House.__len__", defArgs s_House_len, defBody s_House_len, defScope s_House_len, [], []⟩, ⟨("House", some "__eq__"), "__eq__", "House.__eq__", defArgs s_House_eq, defBody s_House_eq, defScope s_House_eq, [], []⟩, ⟨("House", some "seconds"), "seconds", "House.seconds", defArgs s_House_seconds, defBody s_House_seconds, defScope s_House_seconds, [], []⟩, ⟨("Control", some "__init__"), "__init__", "Control.__init__", defArgs s_Control_init, defBody s_Control_init, defScope s_Control_init, [], []⟩, ⟨("Control", some "call"), "call", "Control.call", defArgs s_Control_call, defBody s_Control_call, defScope s_Control_call, [], []⟩]
def fns4 : List He.DefD := [⟨("Control", some "serve"), "serve", "Control.serve", defArgs s_Control_serve, defBody s_Control_serve, defScope s_Control_serve, [], []⟩, ⟨("Control", some "serve_all"), "serve_all", "Control.serve_all", defArgs s_Control_serve_all, defBody s_Control_serve_all, defScope s_Control_serve_all, [], []⟩, ⟨("Control", some "heard"), "heard", "Control.heard", defArgs s_Control_heard, defBody s_Control_heard, defScope s_Control_heard, [], []⟩, ⟨("Known", some "__init__"), "__init__", "Known.__init__", defArgs s_Known_init, defBody s_Known_init, defScope s_Known_init, [], []⟩, ⟨("Listener", some "__init__"), "__init__", "Listener.__init__", defArgs s_Listener_init, defBody s_Listener_init, defScope s_Listener_init, [], []⟩, ⟨("Listener", some "_add"), "_add", "Listener._add", defArgs s_Listener__add, defBody s_Listener__add, defScope s_Listener__add, [], []⟩, ⟨("Listener", some "hear"), "hear", "Listener.hear", defArgs s_Listener_hear, defBody s_Listener_hear, defScope s_Listener_hear, [], []⟩, ⟨("Listener", some "told"), "told", "Listener.told", defArgs s_Listener_told, defBody s_Listener_told, defScope s_Listener_told, [], []⟩, ⟨("Listener", some "mark"), "mark", "Listener.mark", defArgs s_Listener_mark, defBody s_Listener_mark, defScope s_Listener_mark, [], []⟩, ⟨("Listener", some "go"), "go", "Listener.go", defArgs s_Listener_go, defBody s_Listener_go, defScope s_Listener_go, [], []⟩, ⟨("Listener", some "_marked"), "_marked", "Listener._marked", defArgs s_Listener__marked, defBody s_Listener__marked, defScope s_Listener__marked, [], []⟩, ⟨("Listener", some "_check_moment"), "_check_moment", "Listener._check_moment", defArgs s_Listener__check_moment, defBody s_Listener__check_moment, defScope s_Listener__check_moment, [], []⟩]
def fns5 : List He.DefD := [⟨("Listener", some "floors_then"), "floors_then", "Listener.floors_then", defArgs s_Listener_floors_then, defBody s_Listener_floors_then, defScope s_Listener_floors_then, [], []⟩, ⟨("Listener", some "way_number"), "way_number", "Listener.way_number", defArgs s_Listener_way_number, defBody s_Listener_way_number, defScope s_Listener_way_number, [], []⟩]
def fns : List He.DefD := fns0 ++ fns1 ++ fns2 ++ fns3 ++ fns4 ++ fns5
def gts0 : List LhH.GetD := [⟨"House", "gaps", "House.gaps", defArgs s_House_gaps, defBody s_House_gaps, defScope s_House_gaps⟩, ⟨"House", "bells", "House.bells", defArgs s_House_bells, defBody s_House_bells, defScope s_House_bells⟩, ⟨"House", "floors", "House.floors", defArgs s_House_floors, defBody s_House_floors, defScope s_House_floors⟩, ⟨"Control", "here", "Control.here", defArgs s_Control_here, defBody s_Control_here, defScope s_Control_here⟩, ⟨"Control", "clock", "Control.clock", defArgs s_Control_clock, defBody s_Control_clock, defScope s_Control_clock⟩, ⟨"Control", "open_calls", "Control.open_calls", defArgs s_Control_open_calls, defBody s_Control_open_calls, defScope s_Control_open_calls⟩, ⟨"Control", "is_up", "Control.is_up", defArgs s_Control_is_up, defBody s_Control_is_up, defScope s_Control_is_up⟩, ⟨"Listener", "log", "Listener.log", defArgs s_Listener_log, defBody s_Listener_log, defScope s_Listener_log⟩, ⟨"Listener", "floors", "Listener.floors", defArgs s_Listener_floors, defBody s_Listener_floors, defScope s_Listener_floors⟩, ⟨"Listener", "marks", "Listener.marks", defArgs s_Listener_marks, defBody s_Listener_marks, defScope s_Listener_marks⟩]
def gts : List LhH.GetD := gts0
abbrev tabOfDef : He.Defn := ("nearest", none)
def tups (K : PySem.W.Frag) : Bool := He.tupB K "RULES" [.str "first", .str "near", .str "sweep"]
theorem all_mk {P : Program} {w : World} {K : PySem.W.Frag} {h : Heap} {mg : Str → Option Value} {fa : Addr} (c : LhH.Told fas fns gts tabOfDef tups h K) (G : h.Ns mainGlobals mg) (hfa : mg ("law" : Str) = some (.ref fa)) :
    ∃ T : Txt K mg, T.f_law = fa ∧ T.cN_nearest = (He.cT K tabOfDef).1 ∧ T.PN_nearest = (He.cT K tabOfDef).2 ∧ ∀ (s : Shared) (u : Value), BindsTo s T.d_law ⟨[u], []⟩ [("_law_script", u)] := by
  have X := c.in_
  have f_g_check_gaps := c.d.fact 0 (f := .glo "check_gaps") rfl
  have f_g_check_bells := c.d.fact 1 (f := .glo "check_bells") rfl
  have f_g_check_floors := c.d.fact 2 (f := .glo "check_floors") rfl
  have f_g_check_rule := c.d.fact 3 (f := .glo "check_rule") rfl
  have f_g_wrong_call := c.d.fact 4 (f := .glo "wrong_call") rfl
  have f_g_check_calls := c.d.fact 5 (f := .glo "check_calls") rfl
  have f_g_nearest := c.d.fact 6 (f := .glo "nearest") rfl
  have f_g_next_in_sweep := c.d.fact 7 (f := .glo "next_in_sweep") rfl
  have f_g_next_stop := c.d.fact 8 (f := .glo "next_stop") rfl
  have f_g_stops_of := c.d.fact 9 (f := .glo "stops_of") rfl
  have f_g_sounds := c.d.fact 10 (f := .glo "sounds") rfl
  have f_g_is_row_of := c.d.fact 11 (f := .glo "is_row_of") rfl
  have f_g_check_log := c.d.fact 12 (f := .glo "check_log") rfl
  have f_g_check_hearing := c.d.fact 13 (f := .glo "check_hearing") rfl
  have f_g_next_floors := c.d.fact 14 (f := .glo "next_floors") rfl
  have f_g_floors_behind_row := c.d.fact 15 (f := .glo "floors_behind_row") rfl
  have f_g_floors_behind := c.d.fact 16 (f := .glo "floors_behind") rfl
  have f_g_links_of := c.d.fact 17 (f := .glo "links_of") rfl
  have f_g_numbers_ahead := c.d.fact 18 (f := .glo "numbers_ahead") rfl
  have f_g_numbers_behind := c.d.fact 19 (f := .glo "numbers_behind") rfl
  have f_g_numbers_through := c.d.fact 20 (f := .glo "numbers_through") rfl
  have f_g_number_from := c.d.fact 21 (f := .glo "number_from") rfl
  have f_g_way_count := c.d.fact 22 (f := .glo "way_count") rfl
  have f_g_meets := c.d.fact 23 (f := .glo "meets") rfl
  have f_g_ends_without := c.d.fact 24 (f := .glo "ends_without") rfl
  have f_g_links_without := c.d.fact 25 (f := .glo "links_without") rfl
  have f_g_verdict := c.d.fact 26 (f := .glo "verdict") rfl
  have f_g_judged := c.d.fact 27 (f := .glo "judged") rfl
  have f_g_possible := c.d.fact 28 (f := .glo "possible") rfl
  have f_g_beginning := c.d.fact 29 (f := .glo "beginning") rfl
  have f_g_behind_row := c.d.fact 30 (f := .glo "behind_row") rfl
  have f_g_with_floors := c.d.fact 31 (f := .glo "with_floors") rfl
  have f_g_way_number_of := c.d.fact 32 (f := .glo "way_number_of") rfl
  have f_g_floors_of := c.d.fact 33 (f := .glo "floors_of") rfl
  have f_g_check_name := c.d.fact 34 (f := .glo "check_name") rfl
  have f_g_served := c.d.fact 35 (f := .glo "served") rfl
  have f_g__law_begun := c.d.fact 36 (f := .glo "_law_begun") rfl
  have f_g__law_take := c.d.fact 37 (f := .glo "_law_take") rfl
  have f_g__law_house := c.d.fact 38 (f := .glo "_law_house") rfl
  have f_g__law_calls := c.d.fact 39 (f := .glo "_law_calls") rfl
  have f_g__law_is_heard := c.d.fact 40 (f := .glo "_law_is_heard") rfl
  have f_g_law := c.d.fact 41 (f := .glo "law") rfl
  have f_g_House := c.d.fact 42 (f := .glo "House") rfl
  have f_c_House := c.d.fact 43 (f := .cls "House") rfl
  have f_k_House := c.d.fact 44 (f := .mkr "House") rfl
  have f_g_Control := c.d.fact 45 (f := .glo "Control") rfl
  have f_c_Control := c.d.fact 46 (f := .cls "Control") rfl
  have f_k_Control := c.d.fact 47 (f := .mkr "Control") rfl
  have f_g_Known := c.d.fact 48 (f := .glo "Known") rfl
  have f_c_Known := c.d.fact 49 (f := .cls "Known") rfl
  have f_k_Known := c.d.fact 50 (f := .mkr "Known") rfl
  have f_g_Listener := c.d.fact 51 (f := .glo "Listener") rfl
  have f_c_Listener := c.d.fact 52 (f := .cls "Listener") rfl
  have f_k_Listener := c.d.fact 53 (f := .mkr "Listener") rfl
  have f_a_House_gaps := c.d.fact 54 (f := .noat "House" "_gaps") rfl
  have f_a_House_bells := c.d.fact 55 (f := .noat "House" "_bells") rfl
  have f_a_House_floors := c.d.fact 56 (f := .noat "House" "_floors") rfl
  have f_a_Control_house := c.d.fact 57 (f := .noat "Control" "_house") rfl
  have f_a_Control_rule := c.d.fact 58 (f := .noat "Control" "_rule") rfl
  have f_a_Control_begin := c.d.fact 59 (f := .noat "Control" "_begin") rfl
  have f_a_Control_stops := c.d.fact 60 (f := .noat "Control" "_stops") rfl
  have f_a_Control_here := c.d.fact 61 (f := .noat "Control" "_here") rfl
  have f_a_Control_clock := c.d.fact 62 (f := .noat "Control" "_clock") rfl
  have f_a_Control_open_calls := c.d.fact 63 (f := .noat "Control" "_open_calls") rfl
  have f_a_Control_is_up := c.d.fact 64 (f := .noat "Control" "_is_up") rfl
  have f_a_Knownrows := c.d.fact 65 (f := .noat "Known" "rows") rfl
  have f_a_Knownstart := c.d.fact 66 (f := .noat "Known" "start") rfl
  have f_a_Knownlinks := c.d.fact 67 (f := .noat "Known" "links") rfl
  have f_a_Knownnumbers := c.d.fact 68 (f := .noat "Known" "numbers") rfl
  have f_a_Listener_house := c.d.fact 69 (f := .noat "Listener" "_house") rfl
  have f_a_Listener_operations := c.d.fact 70 (f := .noat "Listener" "_operations") rfl
  have f_a_Listener_known := c.d.fact 71 (f := .noat "Listener" "_known") rfl
  have f_a_Listener_undone := c.d.fact 72 (f := .noat "Listener" "_undone") rfl
  have f_m_House_len := c.d.fact 73 (f := .meth "House" "__len__") rfl
  have f_m_House_eq := c.d.fact 74 (f := .meth "House" "__eq__") rfl
  have f_m_House_seconds := c.d.fact 75 (f := .meth "House" "seconds") rfl
  have f_m_Control_call := c.d.fact 76 (f := .meth "Control" "call") rfl
  have f_m_Control_serve := c.d.fact 77 (f := .meth "Control" "serve") rfl
  have f_m_Control_serve_all := c.d.fact 78 (f := .meth "Control" "serve_all") rfl
  have f_m_Control_heard := c.d.fact 79 (f := .meth "Control" "heard") rfl
  have f_m_Listener__add := c.d.fact 80 (f := .meth "Listener" "_add") rfl
  have f_m_Listener_hear := c.d.fact 81 (f := .meth "Listener" "hear") rfl
  have f_m_Listener_told := c.d.fact 82 (f := .meth "Listener" "told") rfl
  have f_m_Listener_mark := c.d.fact 83 (f := .meth "Listener" "mark") rfl
  have f_m_Listener_go := c.d.fact 84 (f := .meth "Listener" "go") rfl
  have f_m_Listener__marked := c.d.fact 85 (f := .meth "Listener" "_marked") rfl
  have f_m_Listener__check_moment := c.d.fact 86 (f := .meth "Listener" "_check_moment") rfl
  have f_m_Listener_floors_then := c.d.fact 87 (f := .meth "Listener" "floors_then") rfl
  have f_m_Listener_way_number := c.d.fact 88 (f := .meth "Listener" "way_number") rfl
  have f_z_len := c.d.fact 89 (f := .free "len") rfl
  have f_z_range := c.d.fact 90 (f := .free "range") rfl
  have f_z_enumerate := c.d.fact 91 (f := .free "enumerate") rfl
  have f_z_zip := c.d.fact 92 (f := .free "zip") rfl
  have f_z_min := c.d.fact 93 (f := .free "min") rfl
  have f_z_max := c.d.fact 94 (f := .free "max") rfl
  have f_z_sum := c.d.fact 95 (f := .free "sum") rfl
  have f_z_sorted := c.d.fact 96 (f := .free "sorted") rfl
  have f_z_reversed := c.d.fact 97 (f := .free "reversed") rfl
  have f_z_int := c.d.fact 98 (f := .free "int") rfl
  have f_z_list := c.d.fact 99 (f := .free "list") rfl
  have f_z_tuple := c.d.fact 100 (f := .free "tuple") rfl
  have f_z_isinstance := c.d.fact 101 (f := .free "isinstance") rfl
  have f_z_all := c.d.fact 102 (f := .free "all") rfl
  have f_z_ValueError := c.d.fact 103 (f := .free "ValueError") rfl
  have f_z_super := c.d.fact 104 (f := .free "super") rfl
  have f_v_MOST_GAPS := c.d.fact 105 (f := .int "MOST_GAPS" 9) rfl
  have f_v_LONGEST_GAP := c.d.fact 106 (f := .int "LONGEST_GAP" 9) rfl
  have f_v_LONGEST_GO := c.d.fact 107 (f := .int "LONGEST_GO" 81) rfl
  have f_v_LONGEST_NAME := c.d.fact 108 (f := .int "LONGEST_NAME" 8) rfl
  have f_g_RULES := c.d.fact 109 (f := .glo "RULES") rfl
  obtain ⟨d_check_gaps, D_check_gaps⟩ := c.d.def_ 0 (d := ⟨("check_gaps", none), "check_gaps", "check_gaps", defArgs s_check_gaps, defBody s_check_gaps, defScope s_check_gaps, [], []⟩) rfl
  have F_check_gaps : Fun K "check_gaps" "check_gaps" s_check_gaps _ d_check_gaps := LhH.fun_of D_check_gaps
  have b_check_gaps := F_check_gaps.binds (ps := ["gaps"]) fun _ _ _ _ _ _ us hl => match us, hl with | [_], _ => rfl
  obtain ⟨d_check_bells, D_check_bells⟩ := c.d.def_ 1 (d := ⟨("check_bells", none), "check_bells", "check_bells", defArgs s_check_bells, defBody s_check_bells, defScope s_check_bells, [], []⟩) rfl
  have F_check_bells : Fun K "check_bells" "check_bells" s_check_bells _ d_check_bells := LhH.fun_of D_check_bells
  have b_check_bells := F_check_bells.binds (ps := ["bells", "floors"]) fun _ _ _ _ _ _ us hl => match us, hl with | [_, _], _ => rfl
  obtain ⟨d_check_floors, D_check_floors⟩ := c.d.def_ 2 (d := ⟨("check_floors", none), "check_floors", "check_floors", defArgs s_check_floors, defBody s_check_floors, defScope s_check_floors, [], []⟩) rfl
  have F_check_floors : Fun K "check_floors" "check_floors" s_check_floors _ d_check_floors := LhH.fun_of D_check_floors
  have b_check_floors := F_check_floors.binds (ps := ["house", "floors"]) fun _ _ _ _ _ _ us hl => match us, hl with | [_, _], _ => rfl
  obtain ⟨d_check_rule, D_check_rule⟩ := c.d.def_ 3 (d := ⟨("check_rule", none), "check_rule", "check_rule", defArgs s_check_rule, defBody s_check_rule, defScope s_check_rule, [], []⟩) rfl
  have F_check_rule : Fun K "check_rule" "check_rule" s_check_rule _ d_check_rule := LhH.fun_of D_check_rule
  have b_check_rule := F_check_rule.binds (ps := ["rule"]) fun _ _ _ _ _ _ us hl => match us, hl with | [_], _ => rfl
  obtain ⟨d_wrong_call, D_wrong_call⟩ := c.d.def_ 4 (d := ⟨("wrong_call", none), "wrong_call", "wrong_call", defArgs s_wrong_call, defBody s_wrong_call, defScope s_wrong_call, [], []⟩) rfl
  have F_wrong_call : Fun K "wrong_call" "wrong_call" s_wrong_call _ d_wrong_call := LhH.fun_of D_wrong_call
  have b_wrong_call := F_wrong_call.binds (ps := ["house", "calls"]) fun _ _ _ _ _ _ us hl => match us, hl with | [_, _], _ => rfl
  obtain ⟨d_check_calls, D_check_calls⟩ := c.d.def_ 5 (d := ⟨("check_calls", none), "check_calls", "check_calls", defArgs s_check_calls, defBody s_check_calls, defScope s_check_calls, [], []⟩) rfl
  have F_check_calls : Fun K "check_calls" "check_calls" s_check_calls _ d_check_calls := LhH.fun_of D_check_calls
  have b_check_calls := F_check_calls.binds (ps := ["house", "calls"]) fun _ _ _ _ _ _ us hl => match us, hl with | [_, _], _ => rfl
  obtain ⟨d_nearest, D_nearest⟩ := c.d.def_ 6 (d := ⟨("nearest", none), "nearest", "nearest", defArgs s_nearest, defBody s_nearest, defScope s_nearest, [], []⟩) rfl
  have F_nearest : Fun K "nearest" "nearest" s_nearest _ d_nearest := LhH.fun_of D_nearest
  have b_nearest := F_nearest.binds (ps := ["house", "here", "calls"]) fun _ _ _ _ _ _ us hl => match us, hl with | [_, _, _], _ => rfl
  obtain ⟨d_next_in_sweep, D_next_in_sweep⟩ := c.d.def_ 7 (d := ⟨("next_in_sweep", none), "next_in_sweep", "next_in_sweep", defArgs s_next_in_sweep, defBody s_next_in_sweep, defScope s_next_in_sweep, [], []⟩) rfl
  have F_next_in_sweep : Fun K "next_in_sweep" "next_in_sweep" s_next_in_sweep _ d_next_in_sweep := LhH.fun_of D_next_in_sweep
  have b_next_in_sweep := F_next_in_sweep.binds (ps := ["here", "is_up", "calls"]) fun _ _ _ _ _ _ us hl => match us, hl with | [_, _, _], _ => rfl
  obtain ⟨d_next_stop, D_next_stop⟩ := c.d.def_ 8 (d := ⟨("next_stop", none), "next_stop", "next_stop", defArgs s_next_stop, defBody s_next_stop, defScope s_next_stop, [], []⟩) rfl
  have F_next_stop : Fun K "next_stop" "next_stop" s_next_stop _ d_next_stop := LhH.fun_of D_next_stop
  have b_next_stop := F_next_stop.binds (ps := ["house", "rule", "here", "is_up", "calls"]) fun _ _ _ _ _ _ us hl => match us, hl with | [_, _, _, _, _], _ => rfl
  obtain ⟨d_stops_of, D_stops_of⟩ := c.d.def_ 9 (d := ⟨("stops_of", none), "stops_of", "stops_of", defArgs s_stops_of, defBody s_stops_of, defScope s_stops_of, [], []⟩) rfl
  have F_stops_of : Fun K "stops_of" "stops_of" s_stops_of _ d_stops_of := LhH.fun_of D_stops_of
  have b_stops_of := F_stops_of.binds (ps := ["house", "rule", "begin", "calls"]) fun _ _ _ _ _ _ us hl => match us, hl with | [_, _, _, _], _ => rfl
  obtain ⟨d_sounds, D_sounds⟩ := c.d.def_ 10 (d := ⟨("sounds", none), "sounds", "sounds", defArgs s_sounds, defBody s_sounds, defScope s_sounds, [], []⟩) rfl
  have F_sounds : Fun K "sounds" "sounds" s_sounds _ d_sounds := LhH.fun_of D_sounds
  have b_sounds := F_sounds.binds (ps := ["house", "begin", "stops"]) fun _ _ _ _ _ _ us hl => match us, hl with | [_, _, _], _ => rfl
  obtain ⟨d_is_row_of, D_is_row_of⟩ := c.d.def_ 11 (d := ⟨("is_row_of", none), "is_row_of", "is_row_of", defArgs s_is_row_of, defBody s_is_row_of, defScope s_is_row_of, [], []⟩) rfl
  have F_is_row_of : Fun K "is_row_of" "is_row_of" s_is_row_of _ d_is_row_of := LhH.fun_of D_is_row_of
  have b_is_row_of := F_is_row_of.binds (ps := ["house", "row"]) fun _ _ _ _ _ _ us hl => match us, hl with | [_, _], _ => rfl
  obtain ⟨d_check_log, D_check_log⟩ := c.d.def_ 12 (d := ⟨("check_log", none), "check_log", "check_log", defArgs s_check_log, defBody s_check_log, defScope s_check_log, [], []⟩) rfl
  have F_check_log : Fun K "check_log" "check_log" s_check_log _ d_check_log := LhH.fun_of D_check_log
  have b_check_log := F_check_log.binds (ps := ["house", "log"]) fun _ _ _ _ _ _ us hl => match us, hl with | [_, _], _ => rfl
  obtain ⟨d_check_hearing, D_check_hearing⟩ := c.d.def_ 13 (d := ⟨("check_hearing", none), "check_hearing", "check_hearing", defArgs s_check_hearing, defBody s_check_hearing, defScope s_check_hearing, [], []⟩) rfl
  have F_check_hearing : Fun K "check_hearing" "check_hearing" s_check_hearing _ d_check_hearing := LhH.fun_of D_check_hearing
  have b_check_hearing := F_check_hearing.binds (ps := ["house", "start", "log"]) fun _ _ _ _ _ _ us hl => match us, hl with | [_, _, _], _ => rfl
  obtain ⟨d_next_floors, D_next_floors⟩ := c.d.def_ 14 (d := ⟨("next_floors", none), "next_floors", "next_floors", defArgs s_next_floors, defBody s_next_floors, defScope s_next_floors, [], []⟩) rfl
  have F_next_floors : Fun K "next_floors" "next_floors" s_next_floors _ d_next_floors := LhH.fun_of D_next_floors
  have b_next_floors := F_next_floors.binds (ps := ["house", "row", "floor"]) fun _ _ _ _ _ _ us hl => match us, hl with | [_, _, _], _ => rfl
  obtain ⟨d_floors_behind_row, D_floors_behind_row⟩ := c.d.def_ 15 (d := ⟨("floors_behind_row", none), "floors_behind_row", "floors_behind_row", defArgs s_floors_behind_row, defBody s_floors_behind_row, defScope s_floors_behind_row, [], []⟩) rfl
  have F_floors_behind_row : Fun K "floors_behind_row" "floors_behind_row" s_floors_behind_row _ d_floors_behind_row := LhH.fun_of D_floors_behind_row
  have b_floors_behind_row := F_floors_behind_row.binds (ps := ["house", "row", "floors"]) fun _ _ _ _ _ _ us hl => match us, hl with | [_, _, _], _ => rfl
  obtain ⟨d_floors_behind, D_floors_behind⟩ := c.d.def_ 16 (d := ⟨("floors_behind", none), "floors_behind", "floors_behind", defArgs s_floors_behind, defBody s_floors_behind, defScope s_floors_behind, [], []⟩) rfl
  have F_floors_behind : Fun K "floors_behind" "floors_behind" s_floors_behind _ d_floors_behind := LhH.fun_of D_floors_behind
  have b_floors_behind := F_floors_behind.binds (ps := ["house", "start", "log"]) fun _ _ _ _ _ _ us hl => match us, hl with | [_, _, _], _ => rfl
  obtain ⟨d_links_of, D_links_of⟩ := c.d.def_ 17 (d := ⟨("links_of", none), "links_of", "links_of", defArgs s_links_of, defBody s_links_of, defScope s_links_of, [], []⟩) rfl
  have F_links_of : Fun K "links_of" "links_of" s_links_of _ d_links_of := LhH.fun_of D_links_of
  have b_links_of := F_links_of.binds (ps := ["house", "log"]) fun _ _ _ _ _ _ us hl => match us, hl with | [_, _], _ => rfl
  obtain ⟨d_numbers_ahead, D_numbers_ahead⟩ := c.d.def_ 18 (d := ⟨("numbers_ahead", none), "numbers_ahead", "numbers_ahead", defArgs s_numbers_ahead, defBody s_numbers_ahead, defScope s_numbers_ahead, [], []⟩) rfl
  have F_numbers_ahead : Fun K "numbers_ahead" "numbers_ahead" s_numbers_ahead _ d_numbers_ahead := LhH.fun_of D_numbers_ahead
  have b_numbers_ahead := F_numbers_ahead.binds (ps := ["house", "links"]) fun _ _ _ _ _ _ us hl => match us, hl with | [_, _], _ => rfl
  obtain ⟨d_numbers_behind, D_numbers_behind⟩ := c.d.def_ 19 (d := ⟨("numbers_behind", none), "numbers_behind", "numbers_behind", defArgs s_numbers_behind, defBody s_numbers_behind, defScope s_numbers_behind, [], []⟩) rfl
  have F_numbers_behind : Fun K "numbers_behind" "numbers_behind" s_numbers_behind _ d_numbers_behind := LhH.fun_of D_numbers_behind
  have b_numbers_behind := F_numbers_behind.binds (ps := ["house", "start", "links"]) fun _ _ _ _ _ _ us hl => match us, hl with | [_, _, _], _ => rfl
  obtain ⟨d_numbers_through, D_numbers_through⟩ := c.d.def_ 20 (d := ⟨("numbers_through", none), "numbers_through", "numbers_through", defArgs s_numbers_through, defBody s_numbers_through, defScope s_numbers_through, [], []⟩) rfl
  have F_numbers_through : Fun K "numbers_through" "numbers_through" s_numbers_through _ d_numbers_through := LhH.fun_of D_numbers_through
  have b_numbers_through := F_numbers_through.binds (ps := ["house", "start", "links"]) fun _ _ _ _ _ _ us hl => match us, hl with | [_, _, _], _ => rfl
  obtain ⟨d_number_from, D_number_from⟩ := c.d.def_ 21 (d := ⟨("number_from", none), "number_from", "number_from", defArgs s_number_from, defBody s_number_from, defScope s_number_from, [], []⟩) rfl
  have F_number_from : Fun K "number_from" "number_from" s_number_from _ d_number_from := LhH.fun_of D_number_from
  have b_number_from := F_number_from.binds (ps := ["floors", "numbers"]) fun _ _ _ _ _ _ us hl => match us, hl with | [_, _], _ => rfl
  obtain ⟨d_way_count, D_way_count⟩ := c.d.def_ 22 (d := ⟨("way_count", none), "way_count", "way_count", defArgs s_way_count, defBody s_way_count, defScope s_way_count, [], []⟩) rfl
  have F_way_count : Fun K "way_count" "way_count" s_way_count _ d_way_count := LhH.fun_of D_way_count
  have b_way_count := F_way_count.binds (ps := ["house", "start", "log"]) fun _ _ _ _ _ _ us hl => match us, hl with | [_, _, _], _ => rfl
  obtain ⟨d_meets, D_meets⟩ := c.d.def_ 23 (d := ⟨("meets", none), "meets", "meets", defArgs s_meets, defBody s_meets, defScope s_meets, [], []⟩) rfl
  have F_meets : Fun K "meets" "meets" s_meets _ d_meets := LhH.fun_of D_meets
  have b_meets := F_meets.binds (ps := ["row", "begin", "end", "floor", "goes_by"]) fun _ _ _ _ _ _ us hl => match us, hl with | [_, _, _, _, _], _ => rfl
  obtain ⟨d_ends_without, D_ends_without⟩ := c.d.def_ 24 (d := ⟨("ends_without", none), "ends_without", "ends_without", defArgs s_ends_without, defBody s_ends_without, defScope s_ends_without, [], []⟩) rfl
  have F_ends_without : Fun K "ends_without" "ends_without" s_ends_without _ d_ends_without := LhH.fun_of D_ends_without
  have b_ends_without := F_ends_without.binds (ps := ["row", "begin", "ends", "floor", "goes_by"]) fun _ _ _ _ _ _ us hl => match us, hl with | [_, _, _, _, _], _ => rfl
  obtain ⟨d_links_without, D_links_without⟩ := c.d.def_ 25 (d := ⟨("links_without", none), "links_without", "links_without", defArgs s_links_without, defBody s_links_without, defScope s_links_without, [], []⟩) rfl
  have F_links_without : Fun K "links_without" "links_without" s_links_without _ d_links_without := LhH.fun_of D_links_without
  have b_links_without := F_links_without.binds (ps := ["log", "links", "floor", "goes_by"]) fun _ _ _ _ _ _ us hl => match us, hl with | [_, _, _, _], _ => rfl
  obtain ⟨d_verdict, D_verdict⟩ := c.d.def_ 26 (d := ⟨("verdict", none), "verdict", "verdict", defArgs s_verdict, defBody s_verdict, defScope s_verdict, [], []⟩) rfl
  have F_verdict : Fun K "verdict" "verdict" s_verdict _ d_verdict := LhH.fun_of D_verdict
  have b_verdict := F_verdict.binds (ps := ["house", "start", "log", "floor", "goes_by"]) fun _ _ _ _ _ _ us hl => match us, hl with | [_, _, _, _, _], _ => rfl
  obtain ⟨d_judged, D_judged⟩ := c.d.def_ 27 (d := ⟨("judged", none), "judged", "judged", defArgs s_judged, defBody s_judged, defScope s_judged, [], []⟩) rfl
  have F_judged : Fun K "judged" "judged" s_judged _ d_judged := LhH.fun_of D_judged
  have b_judged := F_judged.binds (ps := ["house", "start", "log", "floor"]) fun _ _ _ _ _ _ us hl => match us, hl with | [_, _, _, _], _ => rfl
  obtain ⟨d_possible, D_possible⟩ := c.d.def_ 28 (d := ⟨("possible", none), "possible", "possible", defArgs s_possible, defBody s_possible, defScope s_possible, [], []⟩) rfl
  have F_possible : Fun K "possible" "possible" s_possible _ d_possible := LhH.fun_of D_possible
  have b_possible := F_possible.binds (ps := ["known"]) fun _ _ _ _ _ _ us hl => match us, hl with | [_], _ => rfl
  obtain ⟨d_beginning, D_beginning⟩ := c.d.def_ 29 (d := ⟨("beginning", none), "beginning", "beginning", defArgs s_beginning, defBody s_beginning, defScope s_beginning, [], []⟩) rfl
  have F_beginning : Fun K "beginning" "beginning" s_beginning _ d_beginning := LhH.fun_of D_beginning
  have b_beginning := F_beginning.binds (ps := ["house", "start"]) fun _ _ _ _ _ _ us hl => match us, hl with | [_, _], _ => rfl
  obtain ⟨d_behind_row, D_behind_row⟩ := c.d.def_ 30 (d := ⟨("behind_row", none), "behind_row", "behind_row", defArgs s_behind_row, defBody s_behind_row, defScope s_behind_row, [], []⟩) rfl
  have F_behind_row : Fun K "behind_row" "behind_row" s_behind_row _ d_behind_row := LhH.fun_of D_behind_row
  have b_behind_row := F_behind_row.binds (ps := ["house", "known", "row"]) fun _ _ _ _ _ _ us hl => match us, hl with | [_, _, _], _ => rfl
  obtain ⟨d_with_floors, D_with_floors⟩ := c.d.def_ 31 (d := ⟨("with_floors", none), "with_floors", "with_floors", defArgs s_with_floors, defBody s_with_floors, defScope s_with_floors, [], []⟩) rfl
  have F_with_floors : Fun K "with_floors" "with_floors" s_with_floors _ d_with_floors := LhH.fun_of D_with_floors
  have b_with_floors := F_with_floors.binds (ps := ["house", "known", "moment", "floors"]) fun _ _ _ _ _ _ us hl => match us, hl with | [_, _, _, _], _ => rfl
  obtain ⟨d_way_number_of, D_way_number_of⟩ := c.d.def_ 32 (d := ⟨("way_number_of", none), "way_number_of", "way_number_of", defArgs s_way_number_of, defBody s_way_number_of, defScope s_way_number_of, [], []⟩) rfl
  have F_way_number_of : Fun K "way_number_of" "way_number_of" s_way_number_of _ d_way_number_of := LhH.fun_of D_way_number_of
  have b_way_number_of := F_way_number_of.binds (ps := ["known"]) fun _ _ _ _ _ _ us hl => match us, hl with | [_], _ => rfl
  obtain ⟨d_floors_of, D_floors_of⟩ := c.d.def_ 33 (d := ⟨("floors_of", none), "floors_of", "floors_of", defArgs s_floors_of, defBody s_floors_of, defScope s_floors_of, [], []⟩) rfl
  have F_floors_of : Fun K "floors_of" "floors_of" s_floors_of _ d_floors_of := LhH.fun_of D_floors_of
  have b_floors_of := F_floors_of.binds (ps := ["known", "moment"]) fun _ _ _ _ _ _ us hl => match us, hl with | [_, _], _ => rfl
  obtain ⟨d_check_name, D_check_name⟩ := c.d.def_ 34 (d := ⟨("check_name", none), "check_name", "check_name", defArgs s_check_name, defBody s_check_name, defScope s_check_name, [], []⟩) rfl
  have F_check_name : Fun K "check_name" "check_name" s_check_name _ d_check_name := LhH.fun_of D_check_name
  have b_check_name := F_check_name.binds (ps := ["name"]) fun _ _ _ _ _ _ us hl => match us, hl with | [_], _ => rfl
  obtain ⟨d_served, D_served⟩ := c.d.def_ 35 (d := ⟨("served", none), "served", "served", defArgs s_served, defBody s_served, defScope s_served, [], []⟩) rfl
  have F_served : Fun K "served" "served" s_served _ d_served := LhH.fun_of D_served
  have b_served := F_served.binds (ps := ["house", "rule", "begin", "calls"]) fun _ _ _ _ _ _ us hl => match us, hl with | [_, _, _, _], _ => rfl
  obtain ⟨d__law_begun, D__law_begun⟩ := c.d.def_ 36 (d := ⟨("_law_begun", none), "_law_begun", "_law_begun", defArgs s__law_begun, defBody s__law_begun, defScope s__law_begun, [], []⟩) rfl
  have F__law_begun : Fun K "_law_begun" "_law_begun" s__law_begun _ d__law_begun := LhH.fun_of D__law_begun
  have b__law_begun := F__law_begun.binds (ps := ["_law_script"]) fun _ _ _ _ _ _ us hl => match us, hl with | [_], _ => rfl
  obtain ⟨d__law_take, D__law_take⟩ := c.d.def_ 37 (d := ⟨("_law_take", none), "_law_take", "_law_take", defArgs s__law_take, defBody s__law_take, defScope s__law_take, [], []⟩) rfl
  have F__law_take : Fun K "_law_take" "_law_take" s__law_take _ d__law_take := LhH.fun_of D__law_take
  have b__law_take := F__law_take.binds (ps := ["_law_box", "_law_many"]) fun _ _ _ _ _ _ us hl => match us, hl with | [_, _], _ => rfl
  obtain ⟨d__law_house, D__law_house⟩ := c.d.def_ 38 (d := ⟨("_law_house", none), "_law_house", "_law_house", defArgs s__law_house, defBody s__law_house, defScope s__law_house, [], []⟩) rfl
  have F__law_house : Fun K "_law_house" "_law_house" s__law_house _ d__law_house := LhH.fun_of D__law_house
  have b__law_house := F__law_house.binds (ps := ["_law_box", "_law_most", "_law_widest"]) fun _ _ _ _ _ _ us hl => match us, hl with | [_, _, _], _ => rfl
  obtain ⟨d__law_calls, D__law_calls⟩ := c.d.def_ 39 (d := ⟨("_law_calls", none), "_law_calls", "_law_calls", defArgs s__law_calls, defBody s__law_calls, defScope s__law_calls, [], []⟩) rfl
  have F__law_calls : Fun K "_law_calls" "_law_calls" s__law_calls _ d__law_calls := LhH.fun_of D__law_calls
  have b__law_calls := F__law_calls.binds (ps := ["_law_box", "_law_house_here", "_law_most"]) fun _ _ _ _ _ _ us hl => match us, hl with | [_, _, _], _ => rfl
  obtain ⟨d__law_is_heard, D__law_is_heard⟩ := c.d.def_ 40 (d := ⟨("_law_is_heard", none), "_law_is_heard", "_law_is_heard", defArgs s__law_is_heard, defBody s__law_is_heard, defScope s__law_is_heard, [], []⟩) rfl
  have F__law_is_heard : Fun K "_law_is_heard" "_law_is_heard" s__law_is_heard _ d__law_is_heard := LhH.fun_of D__law_is_heard
  have b__law_is_heard := F__law_is_heard.binds (ps := ["_law_house_here", "_law_begin", "_law_lift", "_law_log"]) fun _ _ _ _ _ _ us hl => match us, hl with | [_, _, _, _], _ => rfl
  obtain ⟨d_law, D_law⟩ := c.d.def_ 41 (d := ⟨("law", none), "law", "law", defArgs s_law, defBody s_law, defScope s_law, [], []⟩) rfl
  have F_law : Fun K "law" "law" s_law _ d_law := LhH.fun_of D_law
  have b_law := F_law.binds (ps := ["_law_script"]) fun _ _ _ _ _ _ us hl => match us, hl with | [_], _ => rfl
  obtain ⟨d_House_init, D_House_init⟩ := c.d.def_ 42 (d := ⟨("House", some "__init__"), "__init__", "House.__init__", defArgs s_House_init, defBody s_House_init, defScope s_House_init, [], []⟩) rfl
  have F_House_init : Fun K "__init__" "House.__init__" s_House_init _ d_House_init := LhH.fun_of D_House_init
  have b_House_init := F_House_init.binds (ps := ["self", "gaps", "bells"]) fun _ _ _ _ _ _ us hl => match us, hl with | [_, _, _], _ => rfl
  obtain ⟨p_House_gaps, d_House_gaps, D_House_gaps⟩ := c.get 0 (d := ⟨"House", "gaps", "House.gaps", defArgs s_House_gaps, defBody s_House_gaps, defScope s_House_gaps⟩) rfl
  have F_House_gaps : Fun K "gaps" "House.gaps" s_House_gaps _ d_House_gaps := LhH.fun_of D_House_gaps
  have b_House_gaps := F_House_gaps.binds (ps := ["self"]) fun _ _ _ _ _ _ us hl => match us, hl with | [_], _ => rfl
  obtain ⟨p_House_bells, d_House_bells, D_House_bells⟩ := c.get 1 (d := ⟨"House", "bells", "House.bells", defArgs s_House_bells, defBody s_House_bells, defScope s_House_bells⟩) rfl
  have F_House_bells : Fun K "bells" "House.bells" s_House_bells _ d_House_bells := LhH.fun_of D_House_bells
  have b_House_bells := F_House_bells.binds (ps := ["self"]) fun _ _ _ _ _ _ us hl => match us, hl with | [_], _ => rfl
  obtain ⟨p_House_floors, d_House_floors, D_House_floors⟩ := c.get 2 (d := ⟨"House", "floors", "House.floors", defArgs s_House_floors, defBody s_House_floors, defScope s_House_floors⟩) rfl
  have F_House_floors : Fun K "floors" "House.floors" s_House_floors _ d_House_floors := LhH.fun_of D_House_floors
  have b_House_floors := F_House_floors.binds (ps := ["self"]) fun _ _ _ _ _ _ us hl => match us, hl with | [_], _ => rfl
  obtain ⟨d_House_len, D_House_len⟩ := c.d.def_ 43 (d := ⟨("House", some "__len__"), "__len__", "House.__len__", defArgs s_House_len, defBody s_House_len, defScope s_House_len, [], []⟩) rfl
  have F_House_len : Fun K "__len__" "House.__len__" s_House_len _ d_House_len := LhH.fun_of D_House_len
  have b_House_len := F_House_len.binds (ps := ["self"]) fun _ _ _ _ _ _ us hl => match us, hl with | [_], _ => rfl
  obtain ⟨d_House_eq, D_House_eq⟩ := c.d.def_ 44 (d := ⟨("House", some "__eq__"), "__eq__", "House.__eq__", defArgs s_House_eq, defBody s_House_eq, defScope s_House_eq, [], []⟩) rfl
  have F_House_eq : Fun K "__eq__" "House.__eq__" s_House_eq _ d_House_eq := LhH.fun_of D_House_eq
  have b_House_eq := F_House_eq.binds (ps := ["self", "other"]) fun _ _ _ _ _ _ us hl => match us, hl with | [_, _], _ => rfl
  obtain ⟨d_House_seconds, D_House_seconds⟩ := c.d.def_ 45 (d := ⟨("House", some "seconds"), "seconds", "House.seconds", defArgs s_House_seconds, defBody s_House_seconds, defScope s_House_seconds, [], []⟩) rfl
  have F_House_seconds : Fun K "seconds" "House.seconds" s_House_seconds _ d_House_seconds := LhH.fun_of D_House_seconds
  have b_House_seconds := F_House_seconds.binds (ps := ["self", "one", "other"]) fun _ _ _ _ _ _ us hl => match us, hl with | [_, _, _], _ => rfl
  obtain ⟨d_Control_init, D_Control_init⟩ := c.d.def_ 46 (d := ⟨("Control", some "__init__"), "__init__", "Control.__init__", defArgs s_Control_init, defBody s_Control_init, defScope s_Control_init, [], []⟩) rfl
  have F_Control_init : Fun K "__init__" "Control.__init__" s_Control_init _ d_Control_init := LhH.fun_of D_Control_init
  have b_Control_init := F_Control_init.binds (ps := ["self", "house", "rule", "begin"]) fun _ _ _ _ _ _ us hl => match us, hl with | [_, _, _, _], _ => rfl
  obtain ⟨p_Control_here, d_Control_here, D_Control_here⟩ := c.get 3 (d := ⟨"Control", "here", "Control.here", defArgs s_Control_here, defBody s_Control_here, defScope s_Control_here⟩) rfl
  have F_Control_here : Fun K "here" "Control.here" s_Control_here _ d_Control_here := LhH.fun_of D_Control_here
  have b_Control_here := F_Control_here.binds (ps := ["self"]) fun _ _ _ _ _ _ us hl => match us, hl with | [_], _ => rfl
  obtain ⟨p_Control_clock, d_Control_clock, D_Control_clock⟩ := c.get 4 (d := ⟨"Control", "clock", "Control.clock", defArgs s_Control_clock, defBody s_Control_clock, defScope s_Control_clock⟩) rfl
  have F_Control_clock : Fun K "clock" "Control.clock" s_Control_clock _ d_Control_clock := LhH.fun_of D_Control_clock
  have b_Control_clock := F_Control_clock.binds (ps := ["self"]) fun _ _ _ _ _ _ us hl => match us, hl with | [_], _ => rfl
  obtain ⟨p_Control_open_calls, d_Control_open_calls, D_Control_open_calls⟩ := c.get 5 (d := ⟨"Control", "open_calls", "Control.open_calls", defArgs s_Control_open_calls, defBody s_Control_open_calls, defScope s_Control_open_calls⟩) rfl
  have F_Control_open_calls : Fun K "open_calls" "Control.open_calls" s_Control_open_calls _ d_Control_open_calls := LhH.fun_of D_Control_open_calls
  have b_Control_open_calls := F_Control_open_calls.binds (ps := ["self"]) fun _ _ _ _ _ _ us hl => match us, hl with | [_], _ => rfl
  obtain ⟨p_Control_is_up, d_Control_is_up, D_Control_is_up⟩ := c.get 6 (d := ⟨"Control", "is_up", "Control.is_up", defArgs s_Control_is_up, defBody s_Control_is_up, defScope s_Control_is_up⟩) rfl
  have F_Control_is_up : Fun K "is_up" "Control.is_up" s_Control_is_up _ d_Control_is_up := LhH.fun_of D_Control_is_up
  have b_Control_is_up := F_Control_is_up.binds (ps := ["self"]) fun _ _ _ _ _ _ us hl => match us, hl with | [_], _ => rfl
  obtain ⟨d_Control_call, D_Control_call⟩ := c.d.def_ 47 (d := ⟨("Control", some "call"), "call", "Control.call", defArgs s_Control_call, defBody s_Control_call, defScope s_Control_call, [], []⟩) rfl
  have F_Control_call : Fun K "call" "Control.call" s_Control_call _ d_Control_call := LhH.fun_of D_Control_call
  have b_Control_call := F_Control_call.binds (ps := ["self", "floor"]) fun _ _ _ _ _ _ us hl => match us, hl with | [_, _], _ => rfl
  obtain ⟨d_Control_serve, D_Control_serve⟩ := c.d.def_ 48 (d := ⟨("Control", some "serve"), "serve", "Control.serve", defArgs s_Control_serve, defBody s_Control_serve, defScope s_Control_serve, [], []⟩) rfl
  have F_Control_serve : Fun K "serve" "Control.serve" s_Control_serve _ d_Control_serve := LhH.fun_of D_Control_serve
  have b_Control_serve := F_Control_serve.binds (ps := ["self"]) fun _ _ _ _ _ _ us hl => match us, hl with | [_], _ => rfl
  obtain ⟨d_Control_serve_all, D_Control_serve_all⟩ := c.d.def_ 49 (d := ⟨("Control", some "serve_all"), "serve_all", "Control.serve_all", defArgs s_Control_serve_all, defBody s_Control_serve_all, defScope s_Control_serve_all, [], []⟩) rfl
  have F_Control_serve_all : Fun K "serve_all" "Control.serve_all" s_Control_serve_all _ d_Control_serve_all := LhH.fun_of D_Control_serve_all
  have b_Control_serve_all := F_Control_serve_all.binds (ps := ["self"]) fun _ _ _ _ _ _ us hl => match us, hl with | [_], _ => rfl
  obtain ⟨d_Control_heard, D_Control_heard⟩ := c.d.def_ 50 (d := ⟨("Control", some "heard"), "heard", "Control.heard", defArgs s_Control_heard, defBody s_Control_heard, defScope s_Control_heard, [], []⟩) rfl
  have F_Control_heard : Fun K "heard" "Control.heard" s_Control_heard _ d_Control_heard := LhH.fun_of D_Control_heard
  have b_Control_heard := F_Control_heard.binds (ps := ["self"]) fun _ _ _ _ _ _ us hl => match us, hl with | [_], _ => rfl
  obtain ⟨d_Known_init, D_Known_init⟩ := c.d.def_ 51 (d := ⟨("Known", some "__init__"), "__init__", "Known.__init__", defArgs s_Known_init, defBody s_Known_init, defScope s_Known_init, [], []⟩) rfl
  have F_Known_init : Fun K "__init__" "Known.__init__" s_Known_init _ d_Known_init := LhH.fun_of D_Known_init
  have b_Known_init := F_Known_init.binds (ps := ["self", "house", "rows", "start", "links"]) fun _ _ _ _ _ _ us hl => match us, hl with | [_, _, _, _, _], _ => rfl
  obtain ⟨d_Listener_init, D_Listener_init⟩ := c.d.def_ 52 (d := ⟨("Listener", some "__init__"), "__init__", "Listener.__init__", defArgs s_Listener_init, defBody s_Listener_init, defScope s_Listener_init, [], []⟩) rfl
  have F_Listener_init : Fun K "__init__" "Listener.__init__" s_Listener_init _ d_Listener_init := LhH.fun_of D_Listener_init
  have b_Listener_init := F_Listener_init.binds (ps := ["self", "house", "start"]) fun _ _ _ _ _ _ us hl => match us, hl with | [_, _, _], _ => rfl
  obtain ⟨p_Listener_log, d_Listener_log, D_Listener_log⟩ := c.get 7 (d := ⟨"Listener", "log", "Listener.log", defArgs s_Listener_log, defBody s_Listener_log, defScope s_Listener_log⟩) rfl
  have F_Listener_log : Fun K "log" "Listener.log" s_Listener_log _ d_Listener_log := LhH.fun_of D_Listener_log
  have b_Listener_log := F_Listener_log.binds (ps := ["self"]) fun _ _ _ _ _ _ us hl => match us, hl with | [_], _ => rfl
  obtain ⟨p_Listener_floors, d_Listener_floors, D_Listener_floors⟩ := c.get 8 (d := ⟨"Listener", "floors", "Listener.floors", defArgs s_Listener_floors, defBody s_Listener_floors, defScope s_Listener_floors⟩) rfl
  have F_Listener_floors : Fun K "floors" "Listener.floors" s_Listener_floors _ d_Listener_floors := LhH.fun_of D_Listener_floors
  have b_Listener_floors := F_Listener_floors.binds (ps := ["self"]) fun _ _ _ _ _ _ us hl => match us, hl with | [_], _ => rfl
  obtain ⟨p_Listener_marks, d_Listener_marks, D_Listener_marks⟩ := c.get 9 (d := ⟨"Listener", "marks", "Listener.marks", defArgs s_Listener_marks, defBody s_Listener_marks, defScope s_Listener_marks⟩) rfl
  have F_Listener_marks : Fun K "marks" "Listener.marks" s_Listener_marks _ d_Listener_marks := LhH.fun_of D_Listener_marks
  have b_Listener_marks := F_Listener_marks.binds (ps := ["self"]) fun _ _ _ _ _ _ us hl => match us, hl with | [_], _ => rfl
  obtain ⟨d_Listener__add, D_Listener__add⟩ := c.d.def_ 53 (d := ⟨("Listener", some "_add"), "_add", "Listener._add", defArgs s_Listener__add, defBody s_Listener__add, defScope s_Listener__add, [], []⟩) rfl
  have F_Listener__add : Fun K "_add" "Listener._add" s_Listener__add _ d_Listener__add := LhH.fun_of D_Listener__add
  have b_Listener__add := F_Listener__add.binds (ps := ["self", "operation", "known"]) fun _ _ _ _ _ _ us hl => match us, hl with | [_, _, _], _ => rfl
  obtain ⟨d_Listener_hear, D_Listener_hear⟩ := c.d.def_ 54 (d := ⟨("Listener", some "hear"), "hear", "Listener.hear", defArgs s_Listener_hear, defBody s_Listener_hear, defScope s_Listener_hear, [], []⟩) rfl
  have F_Listener_hear : Fun K "hear" "Listener.hear" s_Listener_hear _ d_Listener_hear := LhH.fun_of D_Listener_hear
  have b_Listener_hear := F_Listener_hear.binds (ps := ["self", "row"]) fun _ _ _ _ _ _ us hl => match us, hl with | [_, _], _ => rfl
  obtain ⟨d_Listener_told, D_Listener_told⟩ := c.d.def_ 55 (d := ⟨("Listener", some "told"), "told", "Listener.told", defArgs s_Listener_told, defBody s_Listener_told, defScope s_Listener_told, [], []⟩) rfl
  have F_Listener_told : Fun K "told" "Listener.told" s_Listener_told _ d_Listener_told := LhH.fun_of D_Listener_told
  have b_Listener_told := F_Listener_told.binds (ps := ["self", "moment", "floors"]) fun _ _ _ _ _ _ us hl => match us, hl with | [_, _, _], _ => rfl
  obtain ⟨d_Listener_mark, D_Listener_mark⟩ := c.d.def_ 56 (d := ⟨("Listener", some "mark"), "mark", "Listener.mark", defArgs s_Listener_mark, defBody s_Listener_mark, defScope s_Listener_mark, [], []⟩) rfl
  have F_Listener_mark : Fun K "mark" "Listener.mark" s_Listener_mark _ d_Listener_mark := LhH.fun_of D_Listener_mark
  have b_Listener_mark := F_Listener_mark.binds (ps := ["self", "name"]) fun _ _ _ _ _ _ us hl => match us, hl with | [_, _], _ => rfl
  obtain ⟨d_Listener_go, D_Listener_go⟩ := c.d.def_ 57 (d := ⟨("Listener", some "go"), "go", "Listener.go", defArgs s_Listener_go, defBody s_Listener_go, defScope s_Listener_go, [], []⟩) rfl
  have F_Listener_go : Fun K "go" "Listener.go" s_Listener_go _ d_Listener_go := LhH.fun_of D_Listener_go
  have b_Listener_go := F_Listener_go.binds (ps := ["self", "name"]) fun _ _ _ _ _ _ us hl => match us, hl with | [_, _], _ => rfl
  obtain ⟨d_Listener__marked, D_Listener__marked⟩ := c.d.def_ 58 (d := ⟨("Listener", some "_marked"), "_marked", "Listener._marked", defArgs s_Listener__marked, defBody s_Listener__marked, defScope s_Listener__marked, [], []⟩) rfl
  have F_Listener__marked : Fun K "_marked" "Listener._marked" s_Listener__marked _ d_Listener__marked := LhH.fun_of D_Listener__marked
  have b_Listener__marked := F_Listener__marked.binds (ps := ["self", "name"]) fun _ _ _ _ _ _ us hl => match us, hl with | [_, _], _ => rfl
  obtain ⟨d_Listener__check_moment, D_Listener__check_moment⟩ := c.d.def_ 59 (d := ⟨("Listener", some "_check_moment"), "_check_moment", "Listener._check_moment", defArgs s_Listener__check_moment, defBody s_Listener__check_moment, defScope s_Listener__check_moment, [], []⟩) rfl
  have F_Listener__check_moment : Fun K "_check_moment" "Listener._check_moment" s_Listener__check_moment _ d_Listener__check_moment := LhH.fun_of D_Listener__check_moment
  have b_Listener__check_moment := F_Listener__check_moment.binds (ps := ["self", "moment"]) fun _ _ _ _ _ _ us hl => match us, hl with | [_, _], _ => rfl
  obtain ⟨d_Listener_floors_then, D_Listener_floors_then⟩ := c.d.def_ 60 (d := ⟨("Listener", some "floors_then"), "floors_then", "Listener.floors_then", defArgs s_Listener_floors_then, defBody s_Listener_floors_then, defScope s_Listener_floors_then, [], []⟩) rfl
  have F_Listener_floors_then : Fun K "floors_then" "Listener.floors_then" s_Listener_floors_then _ d_Listener_floors_then := LhH.fun_of D_Listener_floors_then
  have b_Listener_floors_then := F_Listener_floors_then.binds (ps := ["self", "moment"]) fun _ _ _ _ _ _ us hl => match us, hl with | [_, _], _ => rfl
  obtain ⟨d_Listener_way_number, D_Listener_way_number⟩ := c.d.def_ 61 (d := ⟨("Listener", some "way_number"), "way_number", "Listener.way_number", defArgs s_Listener_way_number, defBody s_Listener_way_number, defScope s_Listener_way_number, [], []⟩) rfl
  have F_Listener_way_number : Fun K "way_number" "Listener.way_number" s_Listener_way_number _ d_Listener_way_number := LhH.fun_of D_Listener_way_number
  have b_Listener_way_number := F_Listener_way_number.binds (ps := ["self"]) fun _ _ _ _ _ _ us hl => match us, hl with | [_], _ => rfl
  have e := hfa.symm.trans (He.glo_ok X G f_g_law)
  cases e
  have bA := FunD.bindsA (ps := ["_law_script"]) D_law fun _ _ _ _ _ _ us hl => match us, hl with | [_], _ => rfl
  refine ⟨{
    C_House := He.ga K "House",
    C_Control := He.ga K "Control",
    C_Known := He.ga K "Known",
    C_Listener := He.ga K "Listener",
    f_check_gaps := _,
    d_check_gaps := d_check_gaps,
    F_check_gaps := F_check_gaps,
    b_check_gaps := b_check_gaps,
    g_check_gaps := He.glo_ok X G f_g_check_gaps,
    f_check_bells := _,
    d_check_bells := d_check_bells,
    F_check_bells := F_check_bells,
    b_check_bells := b_check_bells,
    g_check_bells := He.glo_ok X G f_g_check_bells,
    f_check_floors := _,
    d_check_floors := d_check_floors,
    F_check_floors := F_check_floors,
    b_check_floors := b_check_floors,
    g_check_floors := He.glo_ok X G f_g_check_floors,
    f_check_rule := _,
    d_check_rule := d_check_rule,
    F_check_rule := F_check_rule,
    b_check_rule := b_check_rule,
    g_check_rule := He.glo_ok X G f_g_check_rule,
    f_wrong_call := _,
    d_wrong_call := d_wrong_call,
    F_wrong_call := F_wrong_call,
    b_wrong_call := b_wrong_call,
    g_wrong_call := He.glo_ok X G f_g_wrong_call,
    f_check_calls := _,
    d_check_calls := d_check_calls,
    F_check_calls := F_check_calls,
    b_check_calls := b_check_calls,
    g_check_calls := He.glo_ok X G f_g_check_calls,
    f_nearest := _,
    d_nearest := d_nearest,
    F_nearest := F_nearest,
    b_nearest := b_nearest,
    g_nearest := He.glo_ok X G f_g_nearest,
    f_next_in_sweep := _,
    d_next_in_sweep := d_next_in_sweep,
    F_next_in_sweep := F_next_in_sweep,
    b_next_in_sweep := b_next_in_sweep,
    g_next_in_sweep := He.glo_ok X G f_g_next_in_sweep,
    f_next_stop := _,
    d_next_stop := d_next_stop,
    F_next_stop := F_next_stop,
    b_next_stop := b_next_stop,
    g_next_stop := He.glo_ok X G f_g_next_stop,
    f_stops_of := _,
    d_stops_of := d_stops_of,
    F_stops_of := F_stops_of,
    b_stops_of := b_stops_of,
    g_stops_of := He.glo_ok X G f_g_stops_of,
    f_sounds := _,
    d_sounds := d_sounds,
    F_sounds := F_sounds,
    b_sounds := b_sounds,
    g_sounds := He.glo_ok X G f_g_sounds,
    f_is_row_of := _,
    d_is_row_of := d_is_row_of,
    F_is_row_of := F_is_row_of,
    b_is_row_of := b_is_row_of,
    g_is_row_of := He.glo_ok X G f_g_is_row_of,
    f_check_log := _,
    d_check_log := d_check_log,
    F_check_log := F_check_log,
    b_check_log := b_check_log,
    g_check_log := He.glo_ok X G f_g_check_log,
    f_check_hearing := _,
    d_check_hearing := d_check_hearing,
    F_check_hearing := F_check_hearing,
    b_check_hearing := b_check_hearing,
    g_check_hearing := He.glo_ok X G f_g_check_hearing,
    f_next_floors := _,
    d_next_floors := d_next_floors,
    F_next_floors := F_next_floors,
    b_next_floors := b_next_floors,
    g_next_floors := He.glo_ok X G f_g_next_floors,
    f_floors_behind_row := _,
    d_floors_behind_row := d_floors_behind_row,
    F_floors_behind_row := F_floors_behind_row,
    b_floors_behind_row := b_floors_behind_row,
    g_floors_behind_row := He.glo_ok X G f_g_floors_behind_row,
    f_floors_behind := _,
    d_floors_behind := d_floors_behind,
    F_floors_behind := F_floors_behind,
    b_floors_behind := b_floors_behind,
    g_floors_behind := He.glo_ok X G f_g_floors_behind,
    f_links_of := _,
    d_links_of := d_links_of,
    F_links_of := F_links_of,
    b_links_of := b_links_of,
    g_links_of := He.glo_ok X G f_g_links_of,
    f_numbers_ahead := _,
    d_numbers_ahead := d_numbers_ahead,
    F_numbers_ahead := F_numbers_ahead,
    b_numbers_ahead := b_numbers_ahead,
    g_numbers_ahead := He.glo_ok X G f_g_numbers_ahead,
    f_numbers_behind := _,
    d_numbers_behind := d_numbers_behind,
    F_numbers_behind := F_numbers_behind,
    b_numbers_behind := b_numbers_behind,
    g_numbers_behind := He.glo_ok X G f_g_numbers_behind,
    f_numbers_through := _,
    d_numbers_through := d_numbers_through,
    F_numbers_through := F_numbers_through,
    b_numbers_through := b_numbers_through,
    g_numbers_through := He.glo_ok X G f_g_numbers_through,
    f_number_from := _,
    d_number_from := d_number_from,
    F_number_from := F_number_from,
    b_number_from := b_number_from,
    g_number_from := He.glo_ok X G f_g_number_from,
    f_way_count := _,
    d_way_count := d_way_count,
    F_way_count := F_way_count,
    b_way_count := b_way_count,
    g_way_count := He.glo_ok X G f_g_way_count,
    f_meets := _,
    d_meets := d_meets,
    F_meets := F_meets,
    b_meets := b_meets,
    g_meets := He.glo_ok X G f_g_meets,
    f_ends_without := _,
    d_ends_without := d_ends_without,
    F_ends_without := F_ends_without,
    b_ends_without := b_ends_without,
    g_ends_without := He.glo_ok X G f_g_ends_without,
    f_links_without := _,
    d_links_without := d_links_without,
    F_links_without := F_links_without,
    b_links_without := b_links_without,
    g_links_without := He.glo_ok X G f_g_links_without,
    f_verdict := _,
    d_verdict := d_verdict,
    F_verdict := F_verdict,
    b_verdict := b_verdict,
    g_verdict := He.glo_ok X G f_g_verdict,
    f_judged := _,
    d_judged := d_judged,
    F_judged := F_judged,
    b_judged := b_judged,
    g_judged := He.glo_ok X G f_g_judged,
    f_possible := _,
    d_possible := d_possible,
    F_possible := F_possible,
    b_possible := b_possible,
    g_possible := He.glo_ok X G f_g_possible,
    f_beginning := _,
    d_beginning := d_beginning,
    F_beginning := F_beginning,
    b_beginning := b_beginning,
    g_beginning := He.glo_ok X G f_g_beginning,
    f_behind_row := _,
    d_behind_row := d_behind_row,
    F_behind_row := F_behind_row,
    b_behind_row := b_behind_row,
    g_behind_row := He.glo_ok X G f_g_behind_row,
    f_with_floors := _,
    d_with_floors := d_with_floors,
    F_with_floors := F_with_floors,
    b_with_floors := b_with_floors,
    g_with_floors := He.glo_ok X G f_g_with_floors,
    f_way_number_of := _,
    d_way_number_of := d_way_number_of,
    F_way_number_of := F_way_number_of,
    b_way_number_of := b_way_number_of,
    g_way_number_of := He.glo_ok X G f_g_way_number_of,
    f_floors_of := _,
    d_floors_of := d_floors_of,
    F_floors_of := F_floors_of,
    b_floors_of := b_floors_of,
    g_floors_of := He.glo_ok X G f_g_floors_of,
    f_check_name := _,
    d_check_name := d_check_name,
    F_check_name := F_check_name,
    b_check_name := b_check_name,
    g_check_name := He.glo_ok X G f_g_check_name,
    f_served := _,
    d_served := d_served,
    F_served := F_served,
    b_served := b_served,
    g_served := He.glo_ok X G f_g_served,
    f__law_begun := _,
    d__law_begun := d__law_begun,
    F__law_begun := F__law_begun,
    b__law_begun := b__law_begun,
    g__law_begun := He.glo_ok X G f_g__law_begun,
    f__law_take := _,
    d__law_take := d__law_take,
    F__law_take := F__law_take,
    b__law_take := b__law_take,
    g__law_take := He.glo_ok X G f_g__law_take,
    f__law_house := _,
    d__law_house := d__law_house,
    F__law_house := F__law_house,
    b__law_house := b__law_house,
    g__law_house := He.glo_ok X G f_g__law_house,
    f__law_calls := _,
    d__law_calls := d__law_calls,
    F__law_calls := F__law_calls,
    b__law_calls := b__law_calls,
    g__law_calls := He.glo_ok X G f_g__law_calls,
    f__law_is_heard := _,
    d__law_is_heard := d__law_is_heard,
    F__law_is_heard := F__law_is_heard,
    b__law_is_heard := b__law_is_heard,
    g__law_is_heard := He.glo_ok X G f_g__law_is_heard,
    f_law := _,
    d_law := d_law,
    F_law := F_law,
    b_law := b_law,
    g_law := He.glo_ok X G f_g_law,
    f_House_init := _,
    d_House_init := d_House_init,
    F_House_init := F_House_init,
    b_House_init := b_House_init,
    f_House_gaps := _,
    d_House_gaps := d_House_gaps,
    F_House_gaps := F_House_gaps,
    b_House_gaps := b_House_gaps,
    p_House_gaps := _,
    m_House_gaps := p_House_gaps,
    f_House_bells := _,
    d_House_bells := d_House_bells,
    F_House_bells := F_House_bells,
    b_House_bells := b_House_bells,
    p_House_bells := _,
    m_House_bells := p_House_bells,
    f_House_floors := _,
    d_House_floors := d_House_floors,
    F_House_floors := F_House_floors,
    b_House_floors := b_House_floors,
    p_House_floors := _,
    m_House_floors := p_House_floors,
    f_House_len := _,
    d_House_len := d_House_len,
    F_House_len := F_House_len,
    b_House_len := b_House_len,
    f_House_eq := _,
    d_House_eq := d_House_eq,
    F_House_eq := F_House_eq,
    b_House_eq := b_House_eq,
    f_House_seconds := _,
    d_House_seconds := d_House_seconds,
    F_House_seconds := F_House_seconds,
    b_House_seconds := b_House_seconds,
    f_Control_init := _,
    d_Control_init := d_Control_init,
    F_Control_init := F_Control_init,
    b_Control_init := b_Control_init,
    f_Control_here := _,
    d_Control_here := d_Control_here,
    F_Control_here := F_Control_here,
    b_Control_here := b_Control_here,
    p_Control_here := _,
    m_Control_here := p_Control_here,
    f_Control_clock := _,
    d_Control_clock := d_Control_clock,
    F_Control_clock := F_Control_clock,
    b_Control_clock := b_Control_clock,
    p_Control_clock := _,
    m_Control_clock := p_Control_clock,
    f_Control_open_calls := _,
    d_Control_open_calls := d_Control_open_calls,
    F_Control_open_calls := F_Control_open_calls,
    b_Control_open_calls := b_Control_open_calls,
    p_Control_open_calls := _,
    m_Control_open_calls := p_Control_open_calls,
    f_Control_is_up := _,
    d_Control_is_up := d_Control_is_up,
    F_Control_is_up := F_Control_is_up,
    b_Control_is_up := b_Control_is_up,
    p_Control_is_up := _,
    m_Control_is_up := p_Control_is_up,
    f_Control_call := _,
    d_Control_call := d_Control_call,
    F_Control_call := F_Control_call,
    b_Control_call := b_Control_call,
    f_Control_serve := _,
    d_Control_serve := d_Control_serve,
    F_Control_serve := F_Control_serve,
    b_Control_serve := b_Control_serve,
    f_Control_serve_all := _,
    d_Control_serve_all := d_Control_serve_all,
    F_Control_serve_all := F_Control_serve_all,
    b_Control_serve_all := b_Control_serve_all,
    f_Control_heard := _,
    d_Control_heard := d_Control_heard,
    F_Control_heard := F_Control_heard,
    b_Control_heard := b_Control_heard,
    f_Known_init := _,
    d_Known_init := d_Known_init,
    F_Known_init := F_Known_init,
    b_Known_init := b_Known_init,
    f_Listener_init := _,
    d_Listener_init := d_Listener_init,
    F_Listener_init := F_Listener_init,
    b_Listener_init := b_Listener_init,
    f_Listener_log := _,
    d_Listener_log := d_Listener_log,
    F_Listener_log := F_Listener_log,
    b_Listener_log := b_Listener_log,
    p_Listener_log := _,
    m_Listener_log := p_Listener_log,
    f_Listener_floors := _,
    d_Listener_floors := d_Listener_floors,
    F_Listener_floors := F_Listener_floors,
    b_Listener_floors := b_Listener_floors,
    p_Listener_floors := _,
    m_Listener_floors := p_Listener_floors,
    f_Listener_marks := _,
    d_Listener_marks := d_Listener_marks,
    F_Listener_marks := F_Listener_marks,
    b_Listener_marks := b_Listener_marks,
    p_Listener_marks := _,
    m_Listener_marks := p_Listener_marks,
    f_Listener__add := _,
    d_Listener__add := d_Listener__add,
    F_Listener__add := F_Listener__add,
    b_Listener__add := b_Listener__add,
    f_Listener_hear := _,
    d_Listener_hear := d_Listener_hear,
    F_Listener_hear := F_Listener_hear,
    b_Listener_hear := b_Listener_hear,
    f_Listener_told := _,
    d_Listener_told := d_Listener_told,
    F_Listener_told := F_Listener_told,
    b_Listener_told := b_Listener_told,
    f_Listener_mark := _,
    d_Listener_mark := d_Listener_mark,
    F_Listener_mark := F_Listener_mark,
    b_Listener_mark := b_Listener_mark,
    f_Listener_go := _,
    d_Listener_go := d_Listener_go,
    F_Listener_go := F_Listener_go,
    b_Listener_go := b_Listener_go,
    f_Listener__marked := _,
    d_Listener__marked := d_Listener__marked,
    F_Listener__marked := F_Listener__marked,
    b_Listener__marked := b_Listener__marked,
    f_Listener__check_moment := _,
    d_Listener__check_moment := d_Listener__check_moment,
    F_Listener__check_moment := F_Listener__check_moment,
    b_Listener__check_moment := b_Listener__check_moment,
    f_Listener_floors_then := _,
    d_Listener_floors_then := d_Listener_floors_then,
    F_Listener_floors_then := F_Listener_floors_then,
    b_Listener_floors_then := b_Listener_floors_then,
    f_Listener_way_number := _,
    d_Listener_way_number := d_Listener_way_number,
    F_Listener_way_number := F_Listener_way_number,
    b_Listener_way_number := b_Listener_way_number,
    m_House_len := He.meth_ok f_m_House_len,
    m_House_eq := He.meth_ok f_m_House_eq,
    m_House_seconds := He.meth_ok f_m_House_seconds,
    m_Control_call := He.meth_ok f_m_Control_call,
    m_Control_serve := He.meth_ok f_m_Control_serve,
    m_Control_serve_all := He.meth_ok f_m_Control_serve_all,
    m_Control_heard := He.meth_ok f_m_Control_heard,
    m_Listener__add := He.meth_ok f_m_Listener__add,
    m_Listener_hear := He.meth_ok f_m_Listener_hear,
    m_Listener_told := He.meth_ok f_m_Listener_told,
    m_Listener_mark := He.meth_ok f_m_Listener_mark,
    m_Listener_go := He.meth_ok f_m_Listener_go,
    m_Listener__marked := He.meth_ok f_m_Listener__marked,
    m_Listener__check_moment := He.meth_ok f_m_Listener__check_moment,
    m_Listener_floors_then := He.meth_ok f_m_Listener_floors_then,
    m_Listener_way_number := He.meth_ok f_m_Listener_way_number,
    g_House := He.glo_ok X G f_g_House,
    c_House := He.cls_ok f_c_House,
    k_House := He.mkr_ok f_k_House,
    g_Control := He.glo_ok X G f_g_Control,
    c_Control := He.cls_ok f_c_Control,
    k_Control := He.mkr_ok f_k_Control,
    g_Known := He.glo_ok X G f_g_Known,
    c_Known := He.cls_ok f_c_Known,
    k_Known := He.mkr_ok f_k_Known,
    g_Listener := He.glo_ok X G f_g_Listener,
    c_Listener := He.cls_ok f_c_Listener,
    k_Listener := He.mkr_ok f_k_Listener,
    a_House_gaps := He.noat_ok f_a_House_gaps,
    a_House_bells := He.noat_ok f_a_House_bells,
    a_House_floors := He.noat_ok f_a_House_floors,
    a_Control_house := He.noat_ok f_a_Control_house,
    a_Control_rule := He.noat_ok f_a_Control_rule,
    a_Control_begin := He.noat_ok f_a_Control_begin,
    a_Control_stops := He.noat_ok f_a_Control_stops,
    a_Control_here := He.noat_ok f_a_Control_here,
    a_Control_clock := He.noat_ok f_a_Control_clock,
    a_Control_open_calls := He.noat_ok f_a_Control_open_calls,
    a_Control_is_up := He.noat_ok f_a_Control_is_up,
    a_Knownrows := He.noat_ok f_a_Knownrows,
    a_Knownstart := He.noat_ok f_a_Knownstart,
    a_Knownlinks := He.noat_ok f_a_Knownlinks,
    a_Knownnumbers := He.noat_ok f_a_Knownnumbers,
    a_Listener_house := He.noat_ok f_a_Listener_house,
    a_Listener_operations := He.noat_ok f_a_Listener_operations,
    a_Listener_known := He.noat_ok f_a_Listener_known,
    a_Listener_undone := He.noat_ok f_a_Listener_undone,
    z_len := He.free_ok X G f_z_len,
    z_range := He.free_ok X G f_z_range,
    z_enumerate := He.free_ok X G f_z_enumerate,
    z_zip := He.free_ok X G f_z_zip,
    z_min := He.free_ok X G f_z_min,
    z_max := He.free_ok X G f_z_max,
    z_sum := He.free_ok X G f_z_sum,
    z_sorted := He.free_ok X G f_z_sorted,
    z_reversed := He.free_ok X G f_z_reversed,
    z_int := He.free_ok X G f_z_int,
    z_list := He.free_ok X G f_z_list,
    z_tuple := He.free_ok X G f_z_tuple,
    z_isinstance := He.free_ok X G f_z_isinstance,
    z_all := He.free_ok X G f_z_all,
    z_ValueError := He.free_ok X G f_z_ValueError,
    z_super := He.free_ok X G f_z_super,
    v_MOST_GAPS := He.int_ok X G f_v_MOST_GAPS,
    v_LONGEST_GAP := He.int_ok X G f_v_LONGEST_GAP,
    v_LONGEST_GO := He.int_ok X G f_v_LONGEST_GO,
    v_LONGEST_NAME := He.int_ok X G f_v_LONGEST_NAME,
    cN_nearest := _,
    PN_nearest := (He.cT K tabOfDef).2,
    N_nearest := LhH.code_of (p := tabOfDef) D_nearest,
    v_RULES := ⟨He.ga K "RULES", He.glo_ok X G f_g_RULES, fun H => He.tupB_ok (show He.tupB K "RULES" [.str "first", .str "near", .str "sweep"] = true from c.more) H⟩
  }, rfl, rfl, rfl, fun s u => bA s [u] rfl⟩
theorem walk {q : Program} {l : PySem.W.OpenLaw} {loose : List Str} {XP : (Str → Option Value) → Heap → Prop} {YP : World → Heap → Prop} {d : DefRec} {K0 : Params → PySem.W.Frag} (hn : l.most = some 63) (hdf : d.params.defaults = []) (hd : d.name = "law")
    {ts : List Addr} (hY : ∀ (w : World) (h : Heap), YP w h → (K0 w.params).In h ∧ ∀ P ∈ ts, h.get? P = some { cls := .none, data := .fields #[] }) (ha : ∀ w : World, LhH.askedM fas fns gts tabOfDef tups ts (K0 w.params) = (He.valD fns, gts.map LhH.GetD.val, true)) :
    PySem.W.WalkO q loose XP YP l.row.toRowW d [] (fun f vs => PySem.call f vs) := by
  refine LamX.walk_ofTsE (n := 63) (k := 15) (x := "_law_script") (CX := fun _ => CX0) hn (by decide) hdf ⟨rfl, by decide, by decide⟩ (fun w mg fa h Y G hmg => ?_) fun _ _ _ _ _ z => z
  have c := LhH.toldM (hY w h Y).1 (hY w h Y).2 (ha w)
  rw [hd] at hmg
  obtain ⟨T, e1, e2, e3, e4⟩ := all_mk (P := l.prog) (w := w) c G hmg
  subst e1
  refine ⟨_, c.in_, T.d_law, [He.cT (K0 w.params) tabOfDef], Lh.spLawT (K0 w.params) T.PN_nearest, fun p hp => ?_, fun p hp => ?_, fun p hp => ?_, e4, fun H a ns hl hb ht hS => ?_, fun base hin hns htb => ?_⟩
  · have e : p = He.cT (K0 w.params) tabOfDef := by simpa using hp
    rw [e]
    exact c.empty
  · have e : p = He.cT (K0 w.params) tabOfDef := by simpa using hp
    rw [e]
    exact c.out
  · have e : p = He.cT (K0 w.params) tabOfDef := by simpa using hp
    rw [e]
    exact PySem.W.codeHd_of_K c.in_ c.hd
  · exact ⟨a, ns, rfl, hS, by rw [e3]; exact ht _ (by simp), hl, hb, fun _ => rfl⟩
  · exact ok_law T (by rw [e2, e3]; exact htb _ (by simp))
end K61
open PySem PySem.W PyProof.Rows in
set_option maxRecDepth 100000 in
set_option maxHeartbeats 0 in
theorem PySem.Challenge.cw_liftheard_k61_whole_lifts_that_are_liste_holds : PySem.Challenge.rw_liftheard_k61_whole_lifts_that_are_liste.Holds := by
  w_on; o_law; k_head; (case hw => w_witness2)
  k_fill
  refine K61.walk (l := PySem.Challenge.rw_liftheard_k61_whole_lifts_that_are_liste) rfl rfl rfl (fun w h Y => ⟨PySem.W.km_in_of Y, PySem.W.km_tabs_of Y⟩) (fun w => ?ha)
  case ha => kernel_rfl
#print axioms PySem.Challenge.cw_liftheard_k61_whole_lifts_that_are_liste_holds
