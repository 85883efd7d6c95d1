import PyProof.Rows.All
import Wide.All
import OpenK.AllK
import Wide.FinOn
import HandS.ForMost
import HandS.Evl
import HandS.Wide
import HandS.EndBits
import HandS.Property
import HandS.Conv
import HandS.TupAny
import HandS.Zip
import HandS.IsInst
import HandS.Style
import KE.GoesMore
import PySem.Challenge.RW_liftheard_k42_whole_pictures
import HandS.TupLe
import HandS.SetBool
import HandS.Strs
import HandS.Deep
import HandS.Star
import HandS.SetFor
import HandS.SortInts
import HandS.Lambda
import KE.KMinKey
import HandS.ExcInit
import HandS.FStr
import HandS.ExcOwn
import HandS.ExcField
import HandS.ExcIs
import KE.KExcSuper
import KE.LtData
import KE.DataMinMax
import HandS.Rev
import KE.KRevSl
import KE.KExcIs
import HandS.Dict
import HandS.More
import HandS.HeadHook4
import HandS.HeadWalk
import HandS.TupMul
import HandS.SortRule
import HandS.TryOnly
import KE.GoesEnum
set_option Elab.async false
set_option linter.all false
set_option maxRecDepth 100000
set_option maxHeartbeats 4000000
/-! Judgements over the layer: what an expression is worth, by predicates that only grow with the heap. -/
namespace Lh
open PySem L2
open Evl (Ex ex_l ex_t ex_rd fresh_back)

/-! ### data -/
mutual
def Dd (K : PySem.W.Frag) (H : Hp) : PyData → V → Prop
  | .none, v => v = .non
  | .bool b, v => v = .bl b
  | .int i, v => v = .int i
  | .str s, v => v = .str s
  | .list ds, v => ∃ a xs, v = .ref a ∧ H a = some (.lst xs) ∧ DdAll K H ds xs
  | .tuple ds, v => ∃ a xs, v = .ref a ∧ SqT K H a xs ∧ DdAll K H ds xs
  | .dict _, _ => False
def DdAll (K : PySem.W.Frag) (H : Hp) : List PyData → List V → Prop
  | [], xs => xs = []
  | d :: ds, xs => ∃ x r, xs = x :: r ∧ Dd K H d x ∧ DdAll K H ds r
end
mutual
theorem Dd.ex {K : PySem.W.Frag} {H H' : Hp} (e : Ex H H') : ∀ (d : PyData) (v : V), Dd K H d v → Dd K H' d v
  | .none, _, h => h
  | .bool _, _, h => h
  | .int _, _, h => h
  | .str _, _, h => h
  | .list ds, v, ⟨a, xs, h1, h2, h3⟩ => ⟨a, xs, h1, e _ _ h2, DdAll.ex e ds xs h3⟩
  | .tuple ds, v, ⟨a, xs, h1, h2, h3⟩ => ⟨a, xs, h1, ex_t e h2, DdAll.ex e ds xs h3⟩
  | .dict _, _, h => h
theorem DdAll.ex {K : PySem.W.Frag} {H H' : Hp} (e : Ex H H') : ∀ (ds : List PyData) (xs : List V), DdAll K H ds xs → DdAll K H' ds xs
  | [], _, h => h
  | d :: ds, xs, ⟨x, r, h1, h2, h3⟩ => ⟨x, r, h1, Dd.ex e d x h2, DdAll.ex e ds r h3⟩
end
mutual
theorem Dd.dp {K : PySem.W.Frag} {H : Hp} : ∀ (d : PyData) (v : V), Dd K H d v → Dp K H v d
  | .none, _, h => by subst h; exact .non
  | .bool _, _, h => by subst h; exact .bl _
  | .int _, _, h => by subst h; exact .int _
  | .str _, _, h => by subst h; exact .str _
  | .list ds, v, ⟨a, xs, h1, h2, h3⟩ => by subst h1; exact .lst (SqL.of h2) (DdAll.dp ds xs h3)
  | .tuple ds, v, ⟨a, xs, h1, h2, h3⟩ => by subst h1; exact .tup h2 (DdAll.dp ds xs h3)
  | .dict _, _, h => h.elim
theorem DdAll.dp {K : PySem.W.Frag} {H : Hp} : ∀ (ds : List PyData) (xs : List V), DdAll K H ds xs → DpAll K H xs ds
  | [], _, h => by subst h; exact .nil
  | d :: ds, xs, ⟨x, r, h1, h2, h3⟩ => by subst h1; exact .cons (Dd.dp d x h2) (DdAll.dp ds r h3)
end
section
variable {K : PySem.W.Frag} {H : Hp}
theorem DdAll.len : ∀ {ds : List PyData} {xs : List V}, DdAll K H ds xs → xs.length = ds.length
  | [], _, h => by subst h; rfl
  | d :: ds, xs, ⟨x, r, h1, h2, h3⟩ => by subst h1; simp [DdAll.len h3]
theorem DdAll.get : ∀ {ds : List PyData} {xs : List V} {i : Nat} {d : PyData}, DdAll K H ds xs → ds[i]? = some d → ∃ v, xs[i]? = some v ∧ Dd K H d v
  | [], _, i, d, _, e => by simp at e
  | d :: ds, xs, 0, d', ⟨x, r, h1, h2, h3⟩, e => by
    subst h1
    have e' : d = d' := by simpa using e
    subst e'
    exact ⟨x, rfl, h2⟩
  | d :: ds, xs, i + 1, d', ⟨x, r, h1, h2, h3⟩, e => by
    subst h1
    obtain ⟨v, q1, q2⟩ := DdAll.get (i := i) h3 (by simpa using e)
    exact ⟨v, by simpa using q1, q2⟩
theorem DdAll.got : ∀ {ds : List PyData} {xs : List V} {i : Nat} {v : V}, DdAll K H ds xs → xs[i]? = some v → ∃ d, ds[i]? = some d ∧ Dd K H d v
  | [], xs, i, v, h, e => by
    have h' : xs = [] := h
    subst h'
    simp at e
  | d :: ds, xs, 0, v, ⟨x, r, h1, h2, h3⟩, e => by
    subst h1
    have e' : x = v := by simpa using e
    subst e'
    exact ⟨d, rfl, h2⟩
  | d :: ds, xs, i + 1, v, ⟨x, r, h1, h2, h3⟩, e => by
    subst h1
    obtain ⟨d', q1, q2⟩ := DdAll.got (i := i) h3 (by simpa using e)
    exact ⟨d', by simpa using q1, q2⟩
theorem DdAll.app : ∀ {ds es : List PyData} {xs ys : List V}, DdAll K H ds xs → DdAll K H es ys → DdAll K H (ds ++ es) (xs ++ ys)
  | [], _, xs, _, h, h' => by
    have e : xs = [] := h
    subst e
    exact h'
  | d :: ds, es, xs, ys, ⟨x, r, h1, h2, h3⟩, h' => by
    subst h1
    exact ⟨x, r ++ ys, rfl, h2, DdAll.app h3 h'⟩
theorem DdAll.one {d : PyData} {v : V} (h : Dd K H d v) : DdAll K H [d] [v] := ⟨v, [], rfl, h, rfl⟩
theorem DdAll.take : ∀ {ds : List PyData} {xs : List V} (n : Nat), DdAll K H ds xs → DdAll K H (ds.take n) (xs.take n)
  | _, _, 0, _ => rfl
  | [], xs, n + 1, h => by
    have e : xs = [] := h
    subst e
    rfl
  | d :: ds, xs, n + 1, ⟨x, r, h1, h2, h3⟩ => by
    subst h1
    exact ⟨x, r.take n, rfl, h2, DdAll.take n h3⟩
theorem DdAll.drop : ∀ {ds : List PyData} {xs : List V} (n : Nat), DdAll K H ds xs → DdAll K H (ds.drop n) (xs.drop n)
  | _, _, 0, h => h
  | [], xs, n + 1, h => by
    have e : xs = [] := h
    subst e
    rfl
  | d :: ds, xs, n + 1, ⟨x, r, h1, h2, h3⟩ => by
    subst h1
    exact DdAll.drop n h3
theorem DdAll.rev : ∀ {ds : List PyData} {xs : List V}, DdAll K H ds xs → DdAll K H ds.reverse xs.reverse
  | [], xs, h => by
    have e : xs = [] := h
    subst e
    rfl
  | d :: ds, xs, ⟨x, r, h1, h2, h3⟩ => by
    subst h1
    simp only [List.reverse_cons]
    exact DdAll.app (DdAll.rev h3) (DdAll.one h2)
/-- a list of ints -/
abbrev li (ns : List Int) : List PyData := ns.map PyData.int
theorem DdAll.ints : ∀ {ns : List Int} {xs : List V}, DdAll K H (li ns) xs → xs = ns.map V.int
  | [], xs, h => h
  | n :: ns, xs, ⟨x, r, h1, h2, h3⟩ => by
    have e : x = V.int n := h2
    subst h1
    rw [e, DdAll.ints h3]
    rfl
theorem DdAll.of_ints : ∀ (ns : List Int), DdAll K H (li ns) (ns.map V.int)
  | [] => rfl
  | n :: ns => ⟨.int n, ns.map V.int, rfl, rfl, DdAll.of_ints ns⟩
end

/-! ### predicates on values -/
structure Pd where
  p : V → Hp → Prop
  m : ∀ {v : V} {H H' : Hp}, Ex H H' → p v H → p v H'
def PD (K : PySem.W.Frag) (d : PyData) : Pd := ⟨fun v H => Dd K H d v, fun {v _ _} e h => Dd.ex e d v h⟩
def PV (v : V) : Pd := ⟨fun x _ => x = v, fun _ h => h⟩
def PEx {α : Type} (A : α → Prop) (P : α → Pd) : Pd := ⟨fun v H => ∃ a, A a ∧ (P a).p v H, fun e ⟨a, h1, h2⟩ => ⟨a, h1, (P a).m e h2⟩⟩
def PAny : Pd := ⟨fun _ _ => True, fun _ _ => True.intro⟩
/-- an int from lo on, below hi -/
def PIn (K : PySem.W.Frag) (lo hi : Int) : Pd := PEx (fun n : Int => lo ≤ n ∧ n < hi) fun n => PD K (.int n)

abbrev Ct := List (Option Pd)
def Sl (Γ : Ct) (σ : L2.St) (H : Hp) : Prop := σ.length = Γ.length ∧ ∀ (i : Nat) (P : Pd), Γ[i]? = some (some P) → ∃ v, σ[i]? = some (some v) ∧ P.p v H
theorem Sl.ex {Γ : Ct} {σ : L2.St} {H H' : Hp} (e : Ex H H') (h : Sl Γ σ H) : Sl Γ σ H' := ⟨h.1, fun i P q => by
  obtain ⟨v, h1, h2⟩ := h.2 i P q
  exact ⟨v, h1, P.m e h2⟩⟩
theorem Sl.set {Γ : Ct} {σ : L2.St} {H : Hp} {P : Pd} {v : V} {i : Nat} (h : Sl Γ σ H) (hv : P.p v H) : Sl (Γ.set i (some P)) (σ.set i (some v)) H := by
  refine ⟨by simp [h.1], fun j Q q => ?_⟩
  by_cases hj : i = j
  · subst hj
    have hl : i < Γ.length := by
      have := (List.getElem?_eq_some_iff.mp q).1
      simpa using this
    rw [List.getElem?_set_self hl] at q
    cases q
    exact ⟨v, List.getElem?_set_self (by rw [h.1]; exact hl), hv⟩
  · rw [List.getElem?_set_ne hj] at q
    obtain ⟨u, h1, h2⟩ := h.2 j Q q
    exact ⟨u, by rw [List.getElem?_set_ne hj]; exact h1, h2⟩
/-- what is known of the slots may be forgotten -/
def Le (Γ Γ' : Ct) : Prop := Γ'.length = Γ.length ∧ ∀ (i : Nat) (P : Pd), Γ'[i]? = some (some P) → Γ[i]? = some (some P)
theorem Sl.le {Γ Γ' : Ct} {σ : L2.St} {H : Hp} (h : Sl Γ σ H) (l : Le Γ Γ') : Sl Γ' σ H := ⟨h.1.trans l.1.symm, fun i P q => h.2 i P (l.2 i P q)⟩

/-! ### what may change: lists at hand -/
structure Res where
  ad : List Addr
  p : Hp → Hp → Prop
  st : ∀ {H0 H H0' H' : Hp}, Ex H0 H0' → (∀ a ∈ ad, H0' a = none) → (∀ a ∈ ad, H' a = H a) → p H0 H → p H0' H'
  tr : ∀ {H0 H : Hp}, p H0 H → ∀ a ∈ ad, (∃ o, H a = some o) ∧ H0 a = none
/-- a list of things P, made at p behind Z -/
def DAll (Ps : List Pd) (xs : List V) (H : Hp) : Prop := xs.length = Ps.length ∧ ∀ (i : Nat) (P : Pd), Ps[i]? = some P → ∃ v, xs[i]? = some v ∧ P.p v H
theorem DAll.ex {Ps : List Pd} {xs : List V} {H H' : Hp} (e : Ex H H') (h : DAll Ps xs H) : DAll Ps xs H' := ⟨h.1, fun i P q => by
  obtain ⟨v, h1, h2⟩ := h.2 i P q
  exact ⟨v, h1, P.m e h2⟩⟩
theorem DAll.nil {H : Hp} : DAll [] [] H := ⟨rfl, fun i P q => by simp at q⟩
theorem DAll.cons {P : Pd} {Ps : List Pd} {x : V} {xs : List V} {H : Hp} (h : P.p x H) (r : DAll Ps xs H) : DAll (P :: Ps) (x :: xs) H := by
  refine ⟨by simp [r.1], fun i Q q => ?_⟩
  cases i with
  | zero =>
    have e : P = Q := by simpa using q
    subst e
    exact ⟨x, rfl, h⟩
  | succ j =>
    obtain ⟨v, h1, h2⟩ := r.2 j Q (by simpa using q)
    exact ⟨v, by simpa using h1, h2⟩
theorem DAll.inv {P : Pd} {Ps : List Pd} {xs : List V} {H : Hp} (h : DAll (P :: Ps) xs H) : ∃ x r, xs = x :: r ∧ P.p x H ∧ DAll Ps r H := by
  obtain ⟨v, h1, h2⟩ := h.2 0 P rfl
  cases xs with
  | nil => simp at h1
  | cons x r =>
    have e : x = v := by simpa using h1
    subst e
    exact ⟨x, r, rfl, h2, by have := h.1; simpa using this, fun i Q q => by
      obtain ⟨u, q1, q2⟩ := h.2 (i + 1) Q (by simpa using q)
      exact ⟨u, by simpa using q1, q2⟩⟩
theorem DAll.nil_inv {xs : List V} {H : Hp} (h : DAll [] xs H) : xs = [] := by
  have := h.1
  exact List.length_eq_zero_iff.mp (by simpa using this)
theorem DAll.app {Ps Qs : List Pd} {xs ys : List V} {H : Hp} (h : DAll Ps xs H) (h' : DAll Qs ys H) : DAll (Ps ++ Qs) (xs ++ ys) H := by
  induction Ps generalizing xs with
  | nil =>
    have e := h.nil_inv
    subst e
    exact h'
  | cons P Ps ih =>
    obtain ⟨x, r, e, h1, h2⟩ := h.inv
    subst e
    exact DAll.cons h1 (ih h2)
theorem DAll.dd {K : PySem.W.Frag} {H : Hp} : ∀ {ds : List PyData} {xs : List V}, DAll (ds.map (PD K)) xs H → DdAll K H ds xs
  | [], xs, h => h.nil_inv
  | d :: ds, xs, h => by
    obtain ⟨x, r, e, h1, h2⟩ := h.inv
    exact ⟨x, r, e, h1, DAll.dd h2⟩
theorem DdAll.da {K : PySem.W.Frag} {H : Hp} : ∀ {ds : List PyData} {xs : List V}, DdAll K H ds xs → DAll (ds.map (PD K)) xs H
  | [], xs, h => by
    have e : xs = [] := h
    subst e
    exact DAll.nil
  | d :: ds, xs, ⟨x, r, h1, h2, h3⟩ => by
    subst h1
    exact DAll.cons h2 (DdAll.da h3)
def Res.lst (Z : Hp) (p : Addr) (Ps : List Pd) : Res where
  ad := [p]
  p := fun H0 H => Z p = none ∧ H0 p = none ∧ ∃ xs, H p = some (.lst xs) ∧ DAll Ps xs H0
  st := fun {H0 H H0' H'} e n q ⟨h0, h1, xs, h2, h3⟩ => ⟨h0, n p (by simp), xs, by rw [q p (by simp)]; exact h2, h3.ex e⟩
  tr := fun {H0 H} ⟨h0, h1, xs, h2, h3⟩ a ha => by
    have e : a = p := by simpa using ha
    subst e
    exact ⟨⟨_, h2⟩, h1⟩

def Rok (Rs : List Res) (H0 H : Hp) : Prop := (Rs.flatMap (·.ad)).Nodup ∧ ∀ r ∈ Rs, r.p H0 H
theorem Rok.nil {H0 H : Hp} : Rok [] H0 H := ⟨by simp, fun _ h => by simp at h⟩

structure Step (M : Addr → Prop) (H0 H H0' H' : Hp) : Prop where
  un : ∀ a o, ¬ M a → H a = some o → H' a = some o
  th : ∀ a o, H a = some o → ∃ o', H' a = some o'
  ex : Ex H0 H0'
  le : Ex H0' H'
  nw : ∀ a o, H0' a = some o → H0 a = some o ∨ H a = none
abbrev M0 : Addr → Prop := fun _ => False
theorem Step.rfl {M : Addr → Prop} {H0 H : Hp} (e : Ex H0 H) : Step M H0 H H0 H := ⟨fun _ _ _ h => h, fun _ o h => ⟨o, h⟩, Ex.refl _, e, fun _ _ h => .inl h⟩
theorem Step.trans {M : Addr → Prop} {H0 H H1 G1 H2 G2 : Hp} (a : Step M H0 H H1 G1) (b : Step M H1 G1 H2 G2) : Step M H0 H H2 G2 where
  un := fun x o hm h => b.un x o hm (a.un x o hm h)
  th := fun x o h => by
    obtain ⟨o', h'⟩ := a.th x o h
    exact b.th x o' h'
  ex := a.ex.trans b.ex
  le := b.le
  nw := fun x o h => by
    rcases b.nw x o h with q | q
    · exact a.nw x o q
    · refine .inr ?_
      cases e : H x with
      | none => rfl
      | some u =>
        obtain ⟨u', e'⟩ := a.th x u e
        rw [q] at e'
        cases e'
theorem Step.imp {M M' : Addr → Prop} {H0 H H0' H' : Hp} (s : Step M H0 H H0' H') (h : ∀ a, M a → M' a) : Step M' H0 H H0' H' := ⟨fun a o hm => s.un a o fun z => hm (h a z), s.th, s.ex, s.le, s.nw⟩
theorem Step.of0 {M : Addr → Prop} {H0 H H0' H' : Hp} (s : Step M0 H0 H H0' H') : Step M H0 H H0' H' := s.imp fun _ z => z.elim
/-- a new immutable object -/
theorem Step.new {M : Addr → Prop} {H0 H : Hp} {p : Addr} {o : HO} (e : Ex H0 H) (h : H p = none) : Step M H0 H (upd H0 p o) (upd H p o) where
  un := fun a u _ q => by rw [upd_ne (ne_of_none q h)]; exact q
  th := fun a u q => ⟨u, by rw [upd_ne (ne_of_none q h)]; exact q⟩
  ex := Ex.new (fresh_back e h)
  le := fun a u q => by
    by_cases ha : a = p
    · subst ha
      rw [upd_same] at q ⊢
      exact q
    · rw [upd_ne ha] at q ⊢
      exact e a u q
  nw := fun a u q => by
    by_cases ha : a = p
    · subst ha
      exact .inr h
    · rw [upd_ne ha] at q
      exact .inl q
theorem Rok.step {Rs : List Res} {M : Addr → Prop} {H0 H H0' H' : Hp} (r : Rok Rs H0 H) (s : Step M H0 H H0' H') (hm : ∀ x ∈ Rs, ∀ a ∈ x.ad, ¬ M a) : Rok Rs H0' H' := ⟨r.1, fun x hx => by
  have t := x.tr (r.2 x hx)
  refine x.st s.ex (fun a ha => ?_) (fun a ha => ?_) (r.2 x hx)
  · obtain ⟨⟨o, h1⟩, h2⟩ := t a ha
    cases e : H0' a with
    | none => rfl
    | some u =>
      rcases s.nw a u e with q | q
      · rw [h2] at q
        cases q
      · rw [h1] at q
        cases q
  · obtain ⟨⟨o, h1⟩, h2⟩ := t a ha
    rw [h1]
    exact s.un a o (hm x hx a ha) h1⟩
theorem Rok.step0 {Rs : List Res} {H0 H H0' H' : Hp} (r : Rok Rs H0 H) (s : Step M0 H0 H H0' H') : Rok Rs H0' H' := r.step s fun _ _ _ _ z => z
end Lh
namespace Lh
open PySem L2
open Evl (Ex ex_l ex_t ex_rd fresh_back)

/-! ### readings that are what the machine does -/
def wpE (X : Cx) (e : Expr) : TE := fun σ H Q => ∀ (pins : List (Addr × Obj)) (s : Shared), Inv X pins σ H s → wpAny (model X.prog X.w) X.A (eval e X.env) (EP X pins σ Q) X.xe s
def wpT (X : Cx) (e : Expr) : TT := fun σ H Q => ∀ (pins : List (Addr × Obj)) (s : Shared), Inv X pins σ H s → wpAny (model X.prog X.w) X.A (isTrue e X.env (eval e X.env)) (TP X pins σ Q) X.xe s
def wpA (X : Cx) (es : List Expr) : TA := fun σ H Q => ∀ (pos : Pos) (pins : List (Addr × Obj)) (s : Shared), Inv X pins σ H s → wpAny (model X.prog X.w) X.A (spliced (backTo pos (starEach es X.env))) (AP X pins σ Q) X.xe s
def wpS (X : Cx) (st : Stmt) : TS := fun D σ H => ∀ (pins : List (Addr × Obj)) (s : Shared), Inv X pins σ H s → wpAny (model X.prog X.w) X.A (exec st X.env) (SP X pins D) X.xe s
def wpB (X : Cx) (st : List Stmt) : TS := fun D σ H => ∀ (pins : List (Addr × Obj)) (s : Shared), Inv X pins σ H s → wpAny (model X.prog X.w) X.A (execs st X.env) (SP X pins D) X.xe s
def wpI (X : Cx) (tg iter : Expr) : TI := fun σ H R => ∀ (pins : List (Addr × Obj)) (s : Shared), Inv X pins σ H s →
  wpAny (model X.prog X.w) X.A (eval iter X.env) (fun it s1 =>
    wpAny (model X.prog X.w) X.A (pyIter it) (PIE X pins σ tg R) X.xe s1) X.xe s
section
variable {X : Cx} {e : Expr} {es : List Expr} {st : Stmt} {sts : List Stmt} {tg iter : Expr} {σ : L2.St} {H : Hp}
theorem pe_wp : PE X e (wpE X e) := ⟨fun pins s σ H Q I h => h pins s I⟩
theorem pt_wp : PT X e (wpT X e) := ⟨fun pins s σ H Q I h => h pins s I⟩
theorem pa_wp : PA X es (wpA X es) := ⟨fun pos pins s σ H Q I h => h pos pins s I⟩
theorem ps_wp : PS X st (wpS X st) := ⟨fun pins s σ H Q I h => h pins s I⟩
theorem pss_wp : PSs X sts (wpB X sts) := ⟨fun pins s σ H Q I h => h pins s I⟩
theorem pi_wp : PI X tg iter (wpI X tg iter) := ⟨fun pins s σ H R I h => h pins s I⟩
theorem PE.wp {t : TE} {Q : VK} (h : PE X e t) (q : t σ H Q) : wpE X e σ H Q := fun pins s I => h.run pins s σ H Q I q
theorem PT.wp {t : TT} {Q : Bool → Hp → Prop} (h : PT X e t) (q : t σ H Q) : wpT X e σ H Q := fun pins s I => h.run pins s σ H Q I q
theorem PA.wp {t : TA} {Q : List V → Hp → Prop} (h : PA X es t) (q : t σ H Q) : wpA X es σ H Q := fun pos pins s I => h.run pos pins s σ H Q I q
theorem PS.wp {t : TS} {D : Ends} (h : PS X st t) (q : t D σ H) : wpS X st D σ H := fun pins s I => h.run pins s σ H D I q
theorem PSs.wp {t : TS} {D : Ends} (h : PSs X sts t) (q : t D σ H) : wpB X sts D σ H := fun pins s I => h.run pins s σ H D I q
theorem PI.wp {t : TI} {R : It → Hp → Prop} (h : PI X tg iter t) (q : t σ H R) : wpI X tg iter σ H R := fun pins s I => h.run pins s σ H R I q
end

/-! ### the judgements -/
section
variable (M : Addr → Prop) (Γ : Ct) (Rs : List Res)
/-- a reading gives a P -/
def YE (t : TE) (P : Pd) : Prop := ∀ (σ : L2.St) (H0 H : Hp), Sl Γ σ H0 → Ex H0 H → Rok Rs H0 H → ∀ Q : VK, (∀ v H0' H', Step M H0 H H0' H' → Rok Rs H0' H' → P.p v H0' → Q v H') → t σ H Q
def YT (t : TT) (B : Bool → Prop) : Prop := ∀ (σ : L2.St) (H0 H : Hp), Sl Γ σ H0 → Ex H0 H → Rok Rs H0 H → ∀ Q : Bool → Hp → Prop, (∀ b H0' H', Step M H0 H H0' H' → Rok Rs H0' H' → B b → Q b H') → t σ H Q
def YA (t : TA) (Ps : List Pd) : Prop := ∀ (σ : L2.St) (H0 H : Hp), Sl Γ σ H0 → Ex H0 H → Rok Rs H0 H → ∀ Q : List V → Hp → Prop, (∀ vs H0' H', Step M H0 H H0' H' → Rok Rs H0' H' → DAll Ps vs H0' → Q vs H') → t σ H Q
variable (X : Cx)
abbrev XE (e : Expr) (P : Pd) : Prop := YE M Γ Rs (wpE X e) P
abbrev XT (e : Expr) (B : Bool → Prop) : Prop := YT M Γ Rs (wpT X e) B
abbrev XA (es : List Expr) (Ps : List Pd) : Prop := YA M Γ Rs (wpA X es) Ps
variable (Z0 Z Hl : Hp) (D : Ends)
def XS (st : List Stmt) : Prop := ∀ (σ : L2.St) (H0 H : Hp), Sl Γ σ H0 → Step M Z0 Z H0 H → Ex Hl H0 → Rok Rs H0 H → wpB X st D σ H
end
/-- a step by values -/
def Yld (H0 H : Hp) (C : Pd) (f : VK → Prop) : Prop := ∀ Q : VK, (∀ v H0' H', Step M0 H0 H H0' H' → C.p v H0' → Q v H') → f Q
abbrev Is (b : Bool) : Bool → Prop := fun c => c = b
section
variable {M : Addr → Prop} {Γ : Ct} {Rs : List Res} {X : Cx} {H0 H : Hp} {K : PySem.W.Frag}
theorem Yld.val {C : Pd} {f : VK → Prop} {z : V} (e : Ex H0 H) (hz : C.p z H0) (h : ∀ Q : VK, Q z H → f Q) : Yld H0 H C f := fun Q q => h Q (q z H0 H (Step.rfl e) hz)
theorem Yld.newL {f : VK → Prop} {xs : List V} {ds : List PyData} (e : Ex H0 H) (hz : DdAll K H0 ds xs) (h : ∀ Q : VK, (∀ p, H p = none → Q (.ref p) (upd H p (.lst xs))) → f Q) : Yld H0 H (PD K (.list ds)) f := fun Q q => h Q fun p hp =>
  q _ (upd H0 p (.lst xs)) _ (Step.new e hp) ⟨p, xs, rfl, upd_same, DdAll.ex (Ex.new (fresh_back e hp)) _ _ hz⟩
theorem Yld.newT {f : VK → Prop} {xs : List V} {ds : List PyData} (e : Ex H0 H) (hz : DdAll K H0 ds xs) (h : ∀ Q : VK, (∀ p, H p = none → Q (.ref p) (upd H p (.tup xs))) → f Q) : Yld H0 H (PD K (.tuple ds)) f := fun Q q => h Q fun p hp =>
  q _ (upd H0 p (.tup xs)) _ (Step.new e hp) ⟨p, xs, rfl, SqT.of upd_same, DdAll.ex (Ex.new (fresh_back e hp)) _ _ hz⟩
theorem YE.imp {t : TE} {P P' : Pd} (h : YE M Γ Rs t P) (i : ∀ v H, P.p v H → P'.p v H) : YE M Γ Rs t P' := fun σ H0 H l e r Q q => h σ H0 H l e r Q fun v H0' H' s r' p => q v H0' H' s r' (i v H0' p)
theorem YE.to {t : TE} {P P' : Pd} (h : YE M Γ Rs t P) (i : P = P') : YE M Γ Rs t P' := i ▸ h
theorem YE.dat {t : TE} {d d' : PyData} (h : YE M Γ Rs t (PD K d)) (i : d = d') : YE M Γ Rs t (PD K d') := i ▸ h
theorem YT.imp {t : TT} {B B' : Bool → Prop} (h : YT M Γ Rs t B) (i : ∀ b, B b → B' b) : YT M Γ Rs t B' := fun σ H0 H l e r Q q => h σ H0 H l e r Q fun b H0' H' s r' p => q b H0' H' s r' (i b p)
theorem YE.wp {t : TE} {e : Expr} {P : Pd} (h : PE X e t) (y : YE M Γ Rs t P) : XE M Γ Rs X e P := fun σ H0 H l ex r Q q => PE.wp h (y σ H0 H l ex r Q q)
theorem YT.wp {t : TT} {e : Expr} {B : Bool → Prop} (h : PT X e t) (y : YT M Γ Rs t B) : XT M Γ Rs X e B := fun σ H0 H l ex r Q q => PT.wp h (y σ H0 H l ex r Q q)
theorem YA.wp {t : TA} {es : List Expr} {Ps : List Pd} (h : PA X es t) (y : YA M Γ Rs t Ps) : XA M Γ Rs X es Ps := fun σ H0 H l ex r Q q => PA.wp h (y σ H0 H l ex r Q q)
/-- what is known grows -/
theorem YE.le {t : TE} {P : Pd} {Γ' : Ct} (h : YE M Γ Rs t P) (l : Le Γ' Γ) : YE M Γ' Rs t P := fun σ H0 H s => h σ H0 H (s.le l)

/-! ### names, constants -/
theorem ye_c {v : V} {P : Pd} (h : ∀ H, P.p v H) : YE M Γ Rs (tC v) P := fun σ H0 H _ e r Q q => q v H0 H (Step.rfl e) r (h H0)
theorem ye_var {i : Nat} {P : Pd} (h : Γ[i]? = some (some P)) : YE M Γ Rs (tVar i) P := fun σ H0 H l e r Q q => by
  obtain ⟨v, h1, h2⟩ := l.2 i P h
  exact ⟨v, h1, q v H0 H (Step.rfl e) r h2⟩
theorem xe_var (i : Nat) {x : Str} {pos : Pos} {P : Pd} (h : Γ[i]? = some (some P) := by rfl) (hN : X.N[i]? = some x := by rfl) (hv : Vis X.env.scope x := by first | exact Or.inl rfl | exact Or.inr (Or.inl rfl) | exact Or.inr (Or.inr rfl))
    (hd : (x == ("__debug__" : Str)) = false := by decide) (hcd : (x == ("__classdict__" : Str)) = false := by decide) : XE M Γ Rs X (.Name x pos) P := YE.wp (pe_var hN hv hd hcd) (ye_var h)
theorem xe_int {i : Int} {j pos} : XE M Γ Rs X (.Constant (.int i) j pos) (PD K (.int i)) := YE.wp pe_int (ye_c fun _ => rfl)
theorem xe_bl {b : Bool} {j pos} : XE M Γ Rs X (.Constant (.bool b) j pos) (PD K (.bool b)) := YE.wp pe_bl (ye_c fun _ => rfl)
theorem xe_non {j pos} : XE M Γ Rs X (.Constant .none j pos) (PD K .none) := YE.wp pe_non (ye_c fun _ => rfl)
theorem xe_str {x : Str} {j pos} : XE M Γ Rs X (.Constant (.str x) j pos) (PD K (.str x)) := YE.wp pe_str (ye_c fun _ => rfl)
/-- a module's name that holds an int -/
theorem xe_gint {x : Str} {i : Int} {t : Tok} {pos : Pos} (hm : X.mg x = some (.int i t)) (hg : Gl X x := by rfl) (hd : (x == ("__debug__" : Str)) = false := by decide) : XE M Γ Rs X (.Name x pos) (PD K (.int i)) :=
  YE.wp (pe_glob (v := .int i) hg hm ⟨t, rfl⟩ hd) (ye_c fun _ => rfl)
theorem xe_bltn {x : Str} {v : V} {u : Value} {pos : Pos} (hm : X.mg x = none) (hv : bootBuiltins x = some u) (r : RelV v u) (hg : Gl X x := by rfl) (hn : x ≠ "__name__" := by decide) (hd : (x == ("__debug__" : Str)) = false := by decide) : XE M Γ Rs X (.Name x pos) (PV v) :=
  YE.wp (pe_bltn hg hm hv r hn hd) (ye_c fun _ => rfl)

/-! ### two operands -/
theorem ye_op {r : R2} {ta tb : TE} {A B C : Pd} (ha : YE M Γ Rs ta A) (hb : YE M Γ Rs tb B) (hr : ∀ x y H0 H, A.p x H0 → B.p y H0 → Ex H0 H → Rok Rs H0 H → Yld H0 H C (r x y H)) : YE M Γ Rs (tOp r ta tb) C := fun σ H0 H l e k Q q =>
  ha σ H0 H l e k _ fun x H1 G1 s1 k1 a1 => hb σ H1 G1 (l.ex s1.ex) s1.le k1 _ fun y H2 G2 s2 k2 b2 =>
    hr x y H2 G2 (A.m s2.ex a1) b2 s2.le k2 Q fun v H3 G3 s3 c3 => q v H3 G3 ((s1.trans s2).trans s3.of0) (k2.step0 s3) c3
theorem ye_un {r : V → Hp → VK → Prop} {ta : TE} {A C : Pd} (ha : YE M Γ Rs ta A) (hr : ∀ x H0 H, A.p x H0 → Ex H0 H → Rok Rs H0 H → Yld H0 H C (r x H)) : YE M Γ Rs (tUn r ta) C := fun σ H0 H l e k Q q =>
  ha σ H0 H l e k _ fun x H1 G1 s1 k1 a1 => hr x H1 G1 a1 s1.le k1 Q fun v H3 G3 s3 c3 => q v H3 G3 (s1.trans s3.of0) (k1.step0 s3) c3
theorem xe_bin {op : Operator} {r : R2} {a b : Expr} {A B C : Pd} {pos : Pos} (ho : OpR X (binaryOp op) r) (ha : XE M Γ Rs X a A) (hb : XE M Γ Rs X b B)
    (hr : ∀ x y H0 H, A.p x H0 → B.p y H0 → Ex H0 H → Rok Rs H0 H → Yld H0 H C (r x y H)) : XE M Γ Rs X (.BinOp a op b pos) C := YE.wp (pe_op ho pe_wp pe_wp) (ye_op ha hb hr)
theorem xe_cmp {op : CmpOp} {r : R2} {a b : Expr} {A B C : Pd} {pos : Pos} (ho : OpR X (compareOp op) r) (ha : XE M Γ Rs X a A) (hb : XE M Γ Rs X b B)
    (hr : ∀ x y H0 H, A.p x H0 → B.p y H0 → Ex H0 H → Rok Rs H0 H → Yld H0 H C (r x y H)) (hm : behindInMarks op b = false) : XE M Γ Rs X (.Compare a [op] [b] pos) C := YE.wp (pe_cmpR ho pe_wp pe_wp hm) (ye_op ha hb hr)
theorem xe_un {op : UnaryOp} {r : V → Hp → VK → Prop} {a : Expr} {A C : Pd} {pos : Pos} (ho : UnR X (unaryOp op) r) (ha : XE M Γ Rs X a A)
    (hr : ∀ x H0 H, A.p x H0 → Ex H0 H → Rok Rs H0 H → Yld H0 H C (r x H)) : XE M Γ Rs X (.UnaryOp op a pos) C := YE.wp (pe_un ho pe_wp) (ye_un ha hr)
/-- a test's answer -/
def PB (K : PySem.W.Frag) (B : Bool → Prop) : Pd := PEx B fun b => PD K (.bool b)
theorem yt_test {t : TE} {B : Bool → Prop} (h : YE M Γ Rs t (PB K B)) : YT M Γ Rs (tTest t) B := fun σ H0 H l e k Q q => h σ H0 H l e k _ fun v H1 G1 s1 k1 a1 => by
  obtain ⟨b, hb, hv⟩ := a1
  exact ⟨b, hv, q b H1 G1 s1 k1 hb⟩
theorem yt_B {t : TE} {B : Bool → Prop} (h : YE M Γ Rs t (PB K B)) : YT M Γ Rs (tB t) B := fun σ H0 H l e k Q q => h σ H0 H l e k _ fun v H1 G1 s1 k1 a1 => by
  obtain ⟨b, hb, hv⟩ := a1
  exact ⟨b, hv, q b H1 G1 s1 k1 hb⟩
theorem YE.pb {t : TE} {b : Bool} (h : YE M Γ Rs t (PD K (.bool b))) : YE M Γ Rs t (PB K (Is b)) := h.imp fun v H p => ⟨b, rfl, p⟩
theorem xt_cmp {op : CmpOp} {r : R2} {a b : Expr} {A B : Pd} {T : Bool → Prop} {pos : Pos} (ho : OpR X (compareOp op) r) (ha : XE M Γ Rs X a A) (hb : XE M Γ Rs X b B)
    (hr : ∀ x y H0 H, A.p x H0 → B.p y H0 → Ex H0 H → Rok Rs H0 H → Yld H0 H (PB K T) (r x y H)) (hm : behindInMarks op b = false) : XT M Γ Rs X (.Compare a [op] [b] pos) T := YT.wp (pt_cmpR ho pe_wp pe_wp hm) (yt_test (ye_op ha hb hr))
theorem xt_val {e : Expr} {B : Bool → Prop} (h : XE M Γ Rs X e (PB K B)) (he : ∀ whole, isTrue e X.env whole = (do let v ← whole; standAt e.pos; holding [v] (truthy v)) := by intro _; rfl) : XT M Γ Rs X e B := YT.wp (pt_val pe_wp he) (yt_B h)
theorem xt_not {e : Expr} {B : Bool → Prop} {pos : Pos} (h : XT M Γ Rs X e B) : XT M Γ Rs X (.UnaryOp .Not e pos) (fun b => B (!b)) := YT.wp (pt_not pt_wp) fun σ H0 H l e k Q q =>
  h σ H0 H l e k _ fun b H1 G1 s1 k1 a1 => q (!b) H1 G1 s1 k1 (by rw [Bool.not_not]; exact a1)
/-- and: the second is asked where the first holds -/
def BAnd (A B : Bool → Prop) : Bool → Prop := fun b => (A false ∧ b = false) ∨ (A true ∧ B b)
def BOr (A B : Bool → Prop) : Bool → Prop := fun b => (A true ∧ b = true) ∨ (A false ∧ B b)
theorem yt_and {t u : TT} {A B : Bool → Prop} (h : YT M Γ Rs t A) (h' : A true → YT M Γ Rs u B) : YT M Γ Rs (tAnd t u) (BAnd A B) := fun σ H0 H l e k Q q =>
  h σ H0 H l e k _ fun b H1 G1 s1 k1 a1 => by
    cases b with
    | true => exact h' a1 σ H1 G1 (l.ex s1.ex) s1.le k1 Q fun c H2 G2 s2 k2 a2 => q c H2 G2 (s1.trans s2) k2 (.inr ⟨a1, a2⟩)
    | false => exact q false H1 G1 s1 k1 (.inl ⟨a1, rfl⟩)
theorem yt_or {t u : TT} {A B : Bool → Prop} (h : YT M Γ Rs t A) (h' : A false → YT M Γ Rs u B) : YT M Γ Rs (tOr t u) (BOr A B) := fun σ H0 H l e k Q q =>
  h σ H0 H l e k _ fun b H1 G1 s1 k1 a1 => by
    cases b with
    | false => exact h' a1 σ H1 G1 (l.ex s1.ex) s1.le k1 Q fun c H2 G2 s2 k2 a2 => q c H2 G2 (s1.trans s2) k2 (.inr ⟨a1, a2⟩)
    | true => exact q true H1 G1 s1 k1 (.inl ⟨a1, rfl⟩)
theorem xt_and {a b : Expr} {A B : Bool → Prop} {pos : Pos} (h : XT M Γ Rs X a A) (h' : A true → XT M Γ Rs X b B) : XT M Γ Rs X (.BoolOp .And [a, b] pos) (BAnd A B) := YT.wp (PW.pt (pw_and pt_wp (pw_and1 pt_wp))) (yt_and h h')
theorem xt_or {a b : Expr} {A B : Bool → Prop} {pos : Pos} (h : XT M Γ Rs X a A) (h' : A false → XT M Γ Rs X b B) : XT M Γ Rs X (.BoolOp .Or [a, b] pos) (BOr A B) := YT.wp (PW.pt (pw_or pt_wp (pw_or1 pt_wp))) (yt_or h h')
theorem xt_and3 {a b c : Expr} {A B C : Bool → Prop} {pos : Pos} (h : XT M Γ Rs X a A) (h' : A true → XT M Γ Rs X b B) (h'' : A true → B true → XT M Γ Rs X c C) : XT M Γ Rs X (.BoolOp .And [a, b, c] pos) (BAnd A (BAnd B C)) :=
  YT.wp (PW.pt (pw_and pt_wp (pw_and pt_wp (pw_and1 pt_wp)))) (yt_and h fun ha => yt_and (h' ha) fun hb => h'' ha hb)
theorem xt_or3 {a b c : Expr} {A B C : Bool → Prop} {pos : Pos} (h : XT M Γ Rs X a A) (h' : A false → XT M Γ Rs X b B) (h'' : A false → B false → XT M Γ Rs X c C) : XT M Γ Rs X (.BoolOp .Or [a, b, c] pos) (BOr A (BOr B C)) :=
  YT.wp (PW.pt (pw_or pt_wp (pw_or pt_wp (pw_or1 pt_wp)))) (yt_or h fun ha => yt_or (h' ha) fun hb => h'' ha hb)
/-- as values -/
theorem ye_andV {t u : TE} {A B : Bool → Prop} (h : YE M Γ Rs t (PB K A)) (h' : A true → YE M Γ Rs u (PB K B)) : YE M Γ Rs (tAndV t u) (PB K (BAnd A B)) := fun σ H0 H l e k Q q =>
  h σ H0 H l e k _ fun v H1 G1 s1 k1 ⟨b, a1, hv⟩ => ⟨b, hv, by
    cases b with
    | true => exact h' a1 σ H1 G1 (l.ex s1.ex) s1.le k1 Q fun c H2 G2 s2 k2 ⟨b2, a2, hv2⟩ => q c H2 G2 (s1.trans s2) k2 ⟨b2, .inr ⟨a1, a2⟩, hv2⟩
    | false => exact q _ H1 G1 s1 k1 ⟨false, .inl ⟨a1, rfl⟩, rfl⟩⟩
theorem ye_orV {t u : TE} {A B : Bool → Prop} (h : YE M Γ Rs t (PB K A)) (h' : A false → YE M Γ Rs u (PB K B)) : YE M Γ Rs (tOrV t u) (PB K (BOr A B)) := fun σ H0 H l e k Q q =>
  h σ H0 H l e k _ fun v H1 G1 s1 k1 ⟨b, a1, hv⟩ => ⟨b, hv, by
    cases b with
    | false => exact h' a1 σ H1 G1 (l.ex s1.ex) s1.le k1 Q fun c H2 G2 s2 k2 ⟨b2, a2, hv2⟩ => q c H2 G2 (s1.trans s2) k2 ⟨b2, .inr ⟨a1, a2⟩, hv2⟩
    | true => exact q _ H1 G1 s1 k1 ⟨true, .inl ⟨a1, rfl⟩, rfl⟩⟩
theorem xe_and {a b : Expr} {A B : Bool → Prop} {pos : Pos} (h : XE M Γ Rs X a (PB K A)) (h' : A true → XE M Γ Rs X b (PB K B)) : XE M Γ Rs X (.BoolOp .And [a, b] pos) (PB K (BAnd A B)) := YE.wp (pe_and pe_wp (pe_one pe_wp)) (ye_andV h h')
theorem xe_or {a b : Expr} {A B : Bool → Prop} {pos : Pos} (h : XE M Γ Rs X a (PB K A)) (h' : A false → XE M Γ Rs X b (PB K B)) : XE M Γ Rs X (.BoolOp .Or [a, b] pos) (PB K (BOr A B)) := YE.wp (pe_or pe_wp (pe_one pe_wp)) (ye_orV h h')
theorem xe_and3 {a b c : Expr} {A B C : Bool → Prop} {pos : Pos} (h : XE M Γ Rs X a (PB K A)) (h' : A true → XE M Γ Rs X b (PB K B)) (h'' : A true → B true → XE M Γ Rs X c (PB K C)) : XE M Γ Rs X (.BoolOp .And [a, b, c] pos) (PB K (BAnd A (BAnd B C))) :=
  YE.wp (pe_and pe_wp (pe_and pe_wp (pe_one pe_wp))) (ye_andV h fun ha => ye_andV (h' ha) fun hb => h'' ha hb)
theorem xe_notB {a : Expr} {A : Bool → Prop} {pos : Pos} (h : XE M Γ Rs X a (PB K A)) : XE M Γ Rs X (.UnaryOp .Not a pos) (PB K fun b => A (!b)) := YE.wp (pe_not pe_wp) fun σ H0 H l e k Q q =>
  h σ H0 H l e k _ fun v H1 G1 s1 k1 ⟨b, a1, hv⟩ => ⟨b, hv, q _ H1 G1 s1 k1 ⟨!b, by show A (!!b); rw [Bool.not_not]; exact a1, rfl⟩⟩
theorem xe_ifx {c a b : Expr} {B : Bool → Prop} {P : Pd} {pos : Pos} (hc : XT M Γ Rs X c B) (ha : B true → XE M Γ Rs X a P) (hb : B false → XE M Γ Rs X b P) : XE M Γ Rs X (.IfExp c a b pos) P := YE.wp (pe_ifExp pt_wp pe_wp pe_wp) fun σ H0 H l e k Q q =>
  hc σ H0 H l e k _ fun d H1 G1 s1 k1 a1 => by
    cases d with
    | true => exact ha a1 σ H1 G1 (l.ex s1.ex) s1.le k1 Q fun c H2 G2 s2 k2 a2 => q c H2 G2 (s1.trans s2) k2 a2
    | false => exact hb a1 σ H1 G1 (l.ex s1.ex) s1.le k1 Q fun c H2 G2 s2 k2 a2 => q c H2 G2 (s1.trans s2) k2 a2
/-- a < b < c -/
theorem ye_chain {r r' : R2} {ta tb tc : TE} {A B C : Pd} {T U : Bool → Prop} (ha : YE M Γ Rs ta A) (hb : YE M Γ Rs tb B) (hr : ∀ x y H0 H, A.p x H0 → B.p y H0 → Ex H0 H → Rok Rs H0 H → Yld H0 H (PB K T) (r x y H))
    (hc : T true → YE M Γ Rs tc C) (hr' : T true → ∀ x y H0 H, B.p x H0 → C.p y H0 → Ex H0 H → Rok Rs H0 H → Yld H0 H (PB K U) (r' x y H)) : YE M Γ Rs (tChain r r' ta tb tc) (PB K (BAnd T U)) := fun σ H0 H l e k Q q =>
  ha σ H0 H l e k _ fun x H1 G1 s1 k1 a1 => hb σ H1 G1 (l.ex s1.ex) s1.le k1 _ fun y H2 G2 s2 k2 b2 =>
    hr x y H2 G2 (A.m s2.ex a1) b2 s2.le k2 _ fun v H3 G3 s3 ⟨b, hb3, hv⟩ => ⟨b, hv, by
      have k3 := k2.step0 s3
      have s13 := (s1.trans s2).trans s3.of0
      cases b with
      | true =>
        exact hc hb3 σ H3 G3 (l.ex s13.ex) s13.le k3 _ fun w H4 G4 s4 k4 c4 => hr' hb3 y w H4 G4 (B.m (s3.ex.trans s4.ex) b2) c4 s4.le k4 Q fun z H5 G5 s5 ⟨b5, h5, hv5⟩ => q z H5 G5 ((s13.trans s4).trans s5.of0) (k4.step0 s5) ⟨b5, .inr ⟨hb3, h5⟩, hv5⟩
      | false => exact q _ H3 G3 s13 k3 ⟨false, .inl ⟨hb3, rfl⟩, rfl⟩⟩
theorem xt_chain {op op' : CmpOp} {r r' : R2} {a b c : Expr} {A B C : Pd} {T U : Bool → Prop} {pos : Pos} (ho : OpR X (compareOp op) r) (ho' : OpR X (compareOp op') r') (ha : XE M Γ Rs X a A) (hb : XE M Γ Rs X b B)
    (hr : ∀ x y H0 H, A.p x H0 → B.p y H0 → Ex H0 H → Rok Rs H0 H → Yld H0 H (PB K T) (r x y H)) (hc : T true → XE M Γ Rs X c C) (hr' : T true → ∀ x y H0 H, B.p x H0 → C.p y H0 → Ex H0 H → Rok Rs H0 H → Yld H0 H (PB K U) (r' x y H))
    (hm : lastMarks [op, op'] [b, c] = false := by with_unfolding_all rfl) : XT M Γ Rs X (.Compare a [op, op'] [b, c] pos) (BAnd T U) := YT.wp (pt_chain ho ho' pe_wp pe_wp pe_wp hm) (yt_test (ye_chain ha hb hr hc hr'))
theorem xe_chain {op op' : CmpOp} {r r' : R2} {a b c : Expr} {A B C : Pd} {T U : Bool → Prop} {pos : Pos} (ho : OpR X (compareOp op) r) (ho' : OpR X (compareOp op') r') (ha : XE M Γ Rs X a A) (hb : XE M Γ Rs X b B)
    (hr : ∀ x y H0 H, A.p x H0 → B.p y H0 → Ex H0 H → Rok Rs H0 H → Yld H0 H (PB K T) (r x y H)) (hc : T true → XE M Γ Rs X c C) (hr' : T true → ∀ x y H0 H, B.p x H0 → C.p y H0 → Ex H0 H → Rok Rs H0 H → Yld H0 H (PB K U) (r' x y H))
    (hm : lastMarks [op, op'] [b, c] = false := by with_unfolding_all rfl) : XE M Γ Rs X (.Compare a [op, op'] [b, c] pos) (PB K (BAnd T U)) := YE.wp (pe_chain ho ho' pe_wp pe_wp pe_wp hm) (ye_chain ha hb hr hc hr')

/-! ### argument lists -/
theorem xa_nil : XA M Γ Rs X [] [] := YA.wp pa_nil fun σ H0 H l e k Q q => q [] H0 H (Step.rfl e) k DAll.nil
theorem xa_cons {e : Expr} {es : List Expr} {P : Pd} {Ps : List Pd} (h : XE M Γ Rs X e P) (hs : XA M Γ Rs X es Ps) (he : starEach (e :: es) X.env = (false, eval e X.env) :: starEach es X.env := by rfl) : XA M Γ Rs X (e :: es) (P :: Ps) :=
  YA.wp (pa_cons pe_wp pa_wp he) fun σ H0 H l ex k Q q => h σ H0 H l ex k _ fun x H1 G1 s1 k1 a1 => hs σ H1 G1 (l.ex s1.ex) s1.le k1 _ fun xs H2 G2 s2 k2 a2 => q (x :: xs) H2 G2 (s1.trans s2) k2 (DAll.cons (P.m s2.ex a1) a2)
theorem xa_1 {e : Expr} {P : Pd} (h : XE M Γ Rs X e P) (he : starEach [e] X.env = (false, eval e X.env) :: starEach [] X.env := by rfl) : XA M Γ Rs X [e] [P] := xa_cons h xa_nil he
/-- a built-in by its name -/
theorem xe_callB {x : Str} {id : String} {r : List V → Hp → VK → Prop} {e : Expr} {es : List Expr} {Ps : List Pd} {C : Pd} {p pos : Pos} (hc : CallR X (.builtin id) r) (hm : X.mg x = none) (hv : bootBuiltins x = some (.builtin id)) (ha : XA M Γ Rs X (e :: es) Ps)
    (hr : ∀ xs H0 H, DAll Ps xs H0 → Ex H0 H → Rok Rs H0 H → Yld H0 H C (r xs H)) (hg : Gl X x := by rfl) (hn : x ≠ "__name__" := by decide) (hdb : (x == ("__debug__" : Str)) = false := by decide)
    (he : starEach (e :: es) X.env = (false, eval e X.env) :: starEach es X.env := by rfl) (hpl : (backTo pos (starEach es X.env)).any (·.1) = false := by rfl) : XE M Γ Rs X (.Call (.Name x p) (e :: es) [] pos) C :=
  YE.wp (pe_callB hc hg hm hv pa_wp hn hdb he hpl) fun σ H0 H l ex k Q q => ha σ H0 H l ex k _ fun xs H1 G1 s1 k1 a1 => hr xs H1 G1 a1 s1.le k1 Q fun v H2 G2 s2 c2 => q v H2 G2 (s1.trans s2.of0) (k1.step0 s2) c2
theorem xe_callTy {x : Str} {T : String} {r : List V → Hp → VK → Prop} {e : Expr} {es : List Expr} {Ps : List Pd} {C : Pd} {p pos : Pos} (hc : CallR X (.type T) r) (hm : X.mg x = none) (hv : bootBuiltins x = some (.type T)) (ha : XA M Γ Rs X (e :: es) Ps)
    (hr : ∀ xs H0 H, DAll Ps xs H0 → Ex H0 H → Rok Rs H0 H → Yld H0 H C (r xs H)) (hg : Gl X x := by rfl) (hn : x ≠ "__name__" := by decide) (hdb : (x == ("__debug__" : Str)) = false := by decide)
    (he : starEach (e :: es) X.env = (false, eval e X.env) :: starEach es X.env := by rfl) (hpl : (backTo pos (starEach es X.env)).any (·.1) = false := by rfl) : XE M Γ Rs X (.Call (.Name x p) (e :: es) [] pos) C :=
  YE.wp (pe_callTy hc hg hm hv pa_wp hn hdb he hpl) fun σ H0 H l ex k Q q => ha σ H0 H l ex k _ fun xs H1 G1 s1 k1 a1 => hr xs H1 G1 a1 s1.le k1 Q fun v H2 G2 s2 c2 => q v H2 G2 (s1.trans s2.of0) (k1.step0 s2) c2
/-! ### displays -/
theorem xe_tup {es : List Expr} {ds : List PyData} {x1} {pos : Pos} (h : XA M Γ Rs X es (ds.map (PD K))) (hz : ds.length ≤ 1000) : XE M Γ Rs X (.Tuple es x1 pos) (PD K (.tuple ds)) :=
  YE.wp (pe_tup pa_wp) fun σ H0 H l ex k Q q => h σ H0 H l ex k _ fun xs H1 G1 s1 k1 a1 => ⟨by have := a1.1; rw [List.length_map] at this; rw [this]; exact Nat.le_trans hz (by decide), fun p hp =>
    q _ (upd H1 p (.tup xs)) _ (s1.trans (Step.new s1.le hp)) (k1.step0 (Step.new s1.le hp)) ⟨p, xs, rfl, SqT.of upd_same, DdAll.ex (Ex.new (fresh_back s1.le hp)) _ _ a1.dd⟩⟩
theorem xe_lst {es : List Expr} {ds : List PyData} {pos : Pos} (h : XA M Γ Rs X es (ds.map (PD K))) (hz : ds.length ≤ 1000) : XE M Γ Rs X (.List es pos) (PD K (.list ds)) :=
  YE.wp (pe_lst pa_wp) fun σ H0 H l ex k Q q => h σ H0 H l ex k _ fun xs H1 G1 s1 k1 a1 => ⟨by have := a1.1; rw [List.length_map] at this; rw [this]; exact Nat.le_trans hz (by decide), fun p hp =>
    q _ (upd H1 p (.lst xs)) _ (s1.trans (Step.new s1.le hp)) (k1.step0 (Step.new s1.le hp)) ⟨p, xs, rfl, upd_same, DdAll.ex (Ex.new (fresh_back s1.le hp)) _ _ a1.dd⟩⟩
end

/-! ### statements -/
section
variable {M : Addr → Prop} {Γ Γ' : Ct} {Rs : List Res} {X : Cx} {Z0 Z Hl : Hp} {D : Ends} {K : PySem.W.Frag} {rest : List Stmt}
theorem xs_nil (h : ∀ σ H0 H, Sl Γ σ H0 → Step M Z0 Z H0 H → Ex Hl H0 → Rok Rs H0 H → D.nx σ H) : XS M Γ Rs X Z0 Z Hl D [] := fun σ H0 H l s b k => PSs.wp pss_nil (h σ H0 H l s b k)
/-- behind a block: the rest -/
theorem xs_then (h : XS M Γ Rs X Z0 Z Hl D rest) : XS M Γ Rs X Z0 Z Hl { D with nx := wpB X rest D } [] := xs_nil h
theorem xs_le (l : Le Γ Γ') (h : XS M Γ' Rs X Z0 Z Hl D rest) : XS M Γ Rs X Z0 Z Hl D rest := fun σ H0 H s => h σ H0 H (s.le l)
theorem xs_cons {st : Stmt} {t : TS} (h : PS X st t) (q : ∀ σ H0 H, Sl Γ σ H0 → Step M Z0 Z H0 H → Ex Hl H0 → Rok Rs H0 H → t { D with nx := wpB X rest D } σ H) : XS M Γ Rs X Z0 Z Hl D (st :: rest) :=
  fun σ H0 H l s b k => PSs.wp (pss_cons h pss_wp) (q σ H0 H l s b k)
/-- x = e -/
theorem xs_asg (i : Nat) {x : Str} {e : Expr} {P : Pd} {pos pos' : Pos} (he : XE M Γ Rs X e P) (h : XS M (Γ.set i (some P)) Rs X Z0 Z Hl D rest) (hN : X.N.Nodup) (hi : X.N[i]? = some x := by rfl) (hx : Loc X.env.scope x := by first | exact Or.inl rfl | exact Or.inr rfl)
    (hs : swapsWith e (some (.Name x pos')) pos.line X.env = pure false := by rfl) (hf : X.fn x = true ∨ X.env.scope.names.lookup x = some .local := by first | exact .inl rfl | exact .inr rfl) : XS M Γ Rs X Z0 Z Hl D (.Assign [.Name x pos'] e pos :: rest) :=
  xs_cons (ps_set hN hi hx pe_wp hs hf) fun σ H0 H l s b k => he σ H0 H l s.le k _ fun v H1 G1 s1 k1 a1 => h _ H1 G1 ((l.ex s1.ex).set a1) (s.trans s1) (b.trans s1.ex) k1
/-- x = e, where e is one of many -/
theorem xs_asgE (i : Nat) {α : Type} {A : α → Prop} {P : α → Pd} {x : Str} {e : Expr} {pos pos' : Pos} (he : XE M Γ Rs X e (PEx A P)) (h : ∀ a, A a → XS M (Γ.set i (some (P a))) Rs X Z0 Z Hl D rest) (hN : X.N.Nodup) (hi : X.N[i]? = some x := by rfl) (hx : Loc X.env.scope x := by first | exact Or.inl rfl | exact Or.inr rfl)
    (hs : swapsWith e (some (.Name x pos')) pos.line X.env = pure false := by rfl) (hf : X.fn x = true ∨ X.env.scope.names.lookup x = some .local := by first | exact .inl rfl | exact .inr rfl) : XS M Γ Rs X Z0 Z Hl D (.Assign [.Name x pos'] e pos :: rest) :=
  xs_cons (ps_set hN hi hx pe_wp hs hf) fun σ H0 H l s b k => he σ H0 H l s.le k _ fun v H1 G1 s1 k1 ⟨a, ha, hv⟩ => h a ha _ H1 G1 ((l.ex s1.ex).set hv) (s.trans s1) (b.trans s1.ex) k1
/-- a value dropped -/
theorem xs_expr {e : Expr} {P : Pd} {pos : Pos} (he : XE M Γ Rs X e P) (h : XS M Γ Rs X Z0 Z Hl D rest) (hs : swapsWith e none pos.line X.env = pure false := by rfl) : XS M Γ Rs X Z0 Z Hl D (.Expr e pos :: rest) :=
  xs_cons (ps_expr pe_wp hs) fun σ H0 H l s b k => he σ H0 H l s.le k _ fun v H1 G1 s1 k1 a1 => h _ H1 G1 (l.ex s1.ex) (s.trans s1) (b.trans s1.ex) k1
theorem xs_ret {e : Expr} {P : Pd} {pos : Pos} (he : XE M Γ Rs X e P) (h : ∀ v H0 H, Step M Z0 Z H0 H → Rok Rs H0 H → P.p v H0 → D.rt v H) : XS M Γ Rs X Z0 Z Hl D (.Return (some e) pos :: rest) :=
  xs_cons (ps_ret pe_wp) fun σ H0 H l s b k => he σ H0 H l s.le k _ fun v H1 G1 s1 k1 a1 => h v H1 G1 (s.trans s1) k1 a1
theorem xs_if {c : Expr} {a b : List Stmt} {B : Bool → Prop} {pos : Pos} (hc : XT M Γ Rs X c B) (ha : B true → XS M Γ Rs X Z0 Z Hl { D with nx := wpB X rest D } a) (hb : B false → XS M Γ Rs X Z0 Z Hl { D with nx := wpB X rest D } b) :
    XS M Γ Rs X Z0 Z Hl D (.If c a b pos :: rest) :=
  xs_cons (ps_if pt_wp pss_wp pss_wp) fun σ H0 H l s b k => hc σ H0 H l s.le k _ fun d H1 G1 s1 k1 a1 => by
    cases d with
    | true => exact ha a1 σ H1 G1 (l.ex s1.ex) (s.trans s1) (b.trans s1.ex) k1
    | false => exact hb a1 σ H1 G1 (l.ex s1.ex) (s.trans s1) (b.trans s1.ex) k1
/-- if c: (never) -/
theorem xs_skip {c : Expr} {a : List Stmt} {pos : Pos} (hc : XT M Γ Rs X c (Is false)) (h : XS M Γ Rs X Z0 Z Hl D rest) : XS M Γ Rs X Z0 Z Hl D (.If c a [] pos :: rest) := xs_if hc (fun q => Bool.noConfusion q) fun _ => xs_then h
/-- a, b = x, y -/
theorem xs_par (i j : Nat) {x y : Str} {a b : Expr} {P Q : Pd} {px py pt : Pos} {kt k2 pt2} {pos : Pos} (ha : XA M Γ Rs X [a, b] [P, Q]) (h : XS M ((Γ.set i (some P)).set j (some Q)) Rs X Z0 Z Hl D rest) (hN : X.N.Nodup) (hc : X.calm = true := by rfl) (hi : X.N[i]? = some x := by rfl) (hj : X.N[j]? = some y := by rfl) (hij : i ≠ j := by decide)
    (hx : X.env.scope.names.lookup x = some .local := by rfl) (hy : X.env.scope.names.lookup y = some .local := by rfl) (hw : swappedStores [.Tuple [.Name x px, .Name y py] kt pt] (.Tuple [a, b] k2 pt2) X.env = pure (some [x, y]) := by rfl)
    (hs : swapsWithSole [.Tuple [.Name x px, .Name y py] kt pt] (.Tuple [a, b] k2 pt2) pos.line X.env = pure false := by rfl) : XS M Γ Rs X Z0 Z Hl D (.Assign [.Tuple [.Name x px, .Name y py] kt pt] (.Tuple [a, b] k2 pt2) pos :: rest) :=
  xs_cons (ps_par hc hN hi hj hij hx hy pa_wp hw hs) fun σ H0 H l s b k => ha σ H0 H l s.le k _ fun vs H1 G1 s1 k1 a1 => by
    obtain ⟨v, r, e1, h1, h2⟩ := a1.inv
    obtain ⟨w, r', e2, h3, h4⟩ := h2.inv
    have e3 := h4.nil_inv
    subst e1 e2 e3
    exact ⟨v, w, rfl, h _ H1 G1 (((l.ex s1.ex).set h1).set h3) (s.trans s1) (b.trans s1.ex) k1⟩

/-! ### loops -/
/-- an iterator that gives the things Qs, one after another -/
def Wk (J : It) (Qs : List Pd) (H0 : Hp) : Prop := ∀ H0' H, Ex H0 H0' → Ex H0' H → ∀ i,
  (∀ Q, Qs[i]? = some Q → J.go i H ∧ ∀ x H', J.yld i H x H' → ∃ H0'', Step M0 H0' H H0'' H' ∧ Q.p x H0'') ∧ (Qs.length = i → J.stop i H)
def XI (M : Addr → Prop) (Γ : Ct) (Rs : List Res) (X : Cx) (tg iter : Expr) (Qs : List Pd) : Prop :=
  ∀ (σ : L2.St) (H0 H : Hp), Sl Γ σ H0 → Ex H0 H → Rok Rs H0 H → ∀ R : It → Hp → Prop, (∀ J H0' H', Step M H0 H H0' H' → Rok Rs H0' H' → Wk J Qs H0' → R J H') → wpI X tg iter σ H R
/-- what the target makes of a Q -/
def XG (X : Cx) (tg : Expr) (Q : Pd) (Γ Γ' : Ct) : Prop := ∃ g, PG X tg g ∧ ∀ (v : V) (σ : L2.St) (H0 H : Hp), Sl Γ σ H0 → Ex H0 H → Q.p v H0 → ∀ R : L2.St → Hp → Prop, (∀ σ', Sl Γ' σ' H0 → R σ' H) → g v σ H R
/-- a loop's word: in which contexts a turn may begin -/
structure KJ (M : Addr → Prop) (Z0 Z Hs : Hp) (J : Nat → Ct → List Res → Prop) (i : Nat) (σ : L2.St) (H : Hp) : Prop where
  is : ∃ Γ Rs H0, J i Γ Rs ∧ Ex Hs H0 ∧ Sl Γ σ H0 ∧ Step M Z0 Z H0 H ∧ Rok Rs H0 H
end
end Lh
namespace Lh
open PySem L2
open Evl (Ex ex_l ex_t ex_rd fresh_back)
section
variable {M : Addr → Prop} {Γ Γ' : Ct} {Rs : List Res} {X : Cx} {Z0 Z Hl : Hp} {D : Ends} {K : PySem.W.Frag} {rest : List Stmt}
theorem KJ.mono {Hs Hs' : Hp} {J : Nat → Ct → List Res → Prop} {i : Nat} {σ : L2.St} {H : Hp} (e : Ex Hs Hs') (h : KJ M Z0 Z Hs' J i σ H) : KJ M Z0 Z Hs J i σ H := by
  obtain ⟨Γ, Rs, H0, h1, h2, h3⟩ := h
  exact ⟨Γ, Rs, H0, h1, e.trans h2, h3⟩
/-- for tg in iter: body; rest. J: the loop's word, by the turn -/
theorem xs_for {tg iter : Expr} {body : List Stmt} {Qs : List Pd} {pos : Pos} (hp : PassesOwn (model X.prog X.w) X.A X.env X.xe) (hi : XI M Γ Rs X tg iter Qs) (J : Nat → Ct → List Res → Prop) (h0 : J 0 Γ Rs)
    (hg : ∃ g, PG X tg g ∧ ∀ (i : Nat) (Q : Pd) (Γ1 : Ct) (Rs1 : List Res), Qs[i]? = some Q → J i Γ1 Rs1 → ∃ Γ2, (∀ (v : V) (σ : L2.St) (H0 H : Hp), Sl Γ1 σ H0 → Ex H0 H → Q.p v H0 → ∀ R : L2.St → Hp → Prop, (∀ σ', Sl Γ2 σ' H0 → R σ' H) → g v σ H R) ∧
      ∀ Hs, XS M Γ2 Rs1 X Z0 Z Hs { D with nx := KJ M Z0 Z Hs J (i + 1), ct := KJ M Z0 Z Hs J (i + 1), bk := wpB X rest D } body)
    (hd : ∀ Γ1 Rs1, J Qs.length Γ1 Rs1 → XS M Γ1 Rs1 X Z0 Z Hl D rest) (hc : X.calm = true := by rfl) (hs : ∀ x, foldedSetIterable iter X.env x = pure x := by intro _; rfl) : XS M Γ Rs X Z0 Z Hl D (.For tg iter body [] pos :: rest) := by
  obtain ⟨g, hg, hb⟩ := hg
  refine xs_cons (ps_for hp hc pi_wp hg pss_wp hs) fun σ H0 H l s b k => hi σ H0 H l s.le k _ fun I H1 G1 s1 k1 wk => ?_
  refine ⟨fun i m σ' G => m = Qs.length - i ∧ i ≤ Qs.length ∧ KJ M Z0 Z H1 J i σ' G, ⟨_, rfl, Nat.zero_le _, Γ, Rs, H1, h0, Ex.refl _, l.ex s1.ex, s.trans s1, k1⟩, ?_⟩
  rintro i m σ' G ⟨rfl, hi', Γ1, Rs1, H2, j, e2, l2, s2, k2⟩
  have w := wk H2 G e2 s2.le i
  by_cases hlt : i < Qs.length
  · obtain ⟨go, yl⟩ := w.1 _ (List.getElem?_eq_getElem hlt)
    refine .inr ⟨go, KJ M Z0 Z H1 J (i + 1), fun σ3 G3 h3 => ⟨Qs.length - (i + 1), by omega, rfl, hlt, h3⟩, fun x G3 y => ?_⟩
    obtain ⟨H3, s3, hx⟩ := yl x G3 y
    obtain ⟨Γ2, hv, hbody⟩ := hb i _ Γ1 Rs1 (List.getElem?_eq_getElem hlt) j
    refine hv x σ' H3 G3 (l2.ex s3.ex) s3.le hx _ fun σ4 l4 => ?_
    have hb2 := hbody H1 σ4 H3 G3 l4 (s2.trans s3.of0) (e2.trans s3.ex) (k2.step0 s3)
    exact hb2
  · have e : i = Qs.length := by omega
    subst e
    exact .inl ⟨w.2 rfl, hd Γ1 Rs1 j σ' H2 G l2 s2 ((b.trans s1.ex).trans e2) k2⟩
/-- at a turn's end -/
theorem xs_turn {J : Nat → Ct → List Res → Prop} {i : Nat} {Hs : Hp} {Γ1 : Ct} {Rs1 : List Res} (hn : ∀ σ H, KJ M Z0 Z Hs J i σ H → D.nx σ H) (h : J i Γ1 Rs1) : XS M Γ1 Rs1 X Z0 Z Hs D [] :=
  xs_nil fun σ H0 H l s b k => hn σ H ⟨Γ1, Rs1, H0, h, b, l, s, k⟩

/-! ### while -/
theorem xs_while {c : Expr} {body : List Stmt} {pos : Pos} (hp : PassesOwn (model X.prog X.w) X.A X.env X.xe) (J : Nat → Ct → List Res → Prop) (m0 : Nat) (h0 : J m0 Γ Rs)
    (hs : ∀ m Γ1 Rs1, J m Γ1 Rs1 → ∃ B, XT M Γ1 Rs1 X c B ∧ (B true → ∀ Hs, XS M Γ1 Rs1 X Z0 Z Hs { D with nx := fun σ H => ∃ m', m' < m ∧ KJ M Z0 Z Hs J m' σ H, ct := fun σ H => ∃ m', m' < m ∧ KJ M Z0 Z Hs J m' σ H, bk := wpB X rest D } body) ∧
      (B false → XS M Γ1 Rs1 X Z0 Z Hl D rest)) : XS M Γ Rs X Z0 Z Hl D (.While c body [] pos :: rest) := by
  refine xs_cons (ps_while hp pt_wp pss_wp) fun σ H0 H l s b k => ?_
  refine ⟨fun m σ' G => KJ M Z0 Z H0 J m σ' G, ⟨m0, Γ, Rs, H0, h0, Ex.refl _, l, s, k⟩, ?_⟩
  rintro m σ' G ⟨Γ1, Rs1, H2, j, e2, l2, s2, k2⟩
  obtain ⟨B, ht, hy, hn⟩ := hs m Γ1 Rs1 j
  refine ht σ' H2 G l2 s2.le k2 _ fun d H3 G3 s3 k3 hd => ?_
  cases d with
  | true =>
    refine ⟨fun σ3 G3 => ∃ m', m' < m ∧ KJ M Z0 Z H0 J m' σ3 G3, fun σ3 G3 h3 => h3, ?_⟩
    have q := hy hd H0 σ' H3 G3 (l2.ex s3.ex) (s2.trans s3) (e2.trans s3.ex) k3
    exact q
  | false => exact hn hd σ' H3 G3 (l2.ex s3.ex) (s2.trans s3) ((b.trans e2).trans s3.ex) k3
theorem xs_turnW {J : Nat → Ct → List Res → Prop} {m m' : Nat} {Hs : Hp} {Γ1 : Ct} {Rs1 : List Res} (hn : ∀ σ H, (∃ m', m' < m ∧ KJ M Z0 Z Hs J m' σ H) → D.nx σ H) (hm : m' < m) (h : J m' Γ1 Rs1) : XS M Γ1 Rs1 X Z0 Z Hs D [] :=
  xs_nil fun σ H0 H l s b k => hn σ H ⟨m', hm, Γ1, Rs1, H0, h, b, l, s, k⟩

/-! ### what a for goes over -/
theorem wk_list {a : Addr} {xs : List V} {ds : List PyData} {H0 : Hp} (h : SqL K H0 a xs) (hd : DdAll K H0 ds xs) : Wk (Itl K a) (ds.map (PD K)) H0 := fun H0' H e e' i => by
  refine ⟨fun Q q => ?_, fun q => ⟨xs, ex_l (e.trans e') h, by rw [hd.len]; exact Nat.le_of_eq (by simpa using q)⟩⟩
  rw [List.getElem?_map] at q
  cases hi : ds[i]? with
  | none =>
    rw [hi] at q
    cases q
  | some d =>
    rw [hi] at q
    have e1 : PD K d = Q := Option.some.inj q
    subst e1
    obtain ⟨v, h1, h2⟩ := hd.get hi
    refine ⟨⟨xs, v, ex_l (e.trans e') h, h1⟩, fun x H' ⟨y1, y2⟩ => ?_⟩
    have e2 : x = v := Option.some.inj ((y2 xs (ex_l (e.trans e') h)).symm.trans h1)
    subst e2 y1
    exact ⟨H0', Step.rfl e', Dd.ex e _ _ h2⟩
theorem wk_tup {a : Addr} {xs : List V} {ds : List PyData} {H0 : Hp} (h : SqT K H0 a xs) (hd : DdAll K H0 ds xs) : Wk (Itt K a) (ds.map (PD K)) H0 := fun H0' H e e' i => by
  refine ⟨fun Q q => ?_, fun q => ⟨xs, ex_t (e.trans e') h, by rw [hd.len]; exact Nat.le_of_eq (by simpa using q)⟩⟩
  rw [List.getElem?_map] at q
  cases hi : ds[i]? with
  | none =>
    rw [hi] at q
    cases q
  | some d =>
    rw [hi] at q
    have e1 : PD K d = Q := Option.some.inj q
    subst e1
    obtain ⟨v, h1, h2⟩ := hd.get hi
    refine ⟨⟨xs, v, ex_t (e.trans e') h, h1⟩, fun x H' ⟨y1, y2⟩ => ?_⟩
    have e2 : x = v := Option.some.inj ((y2 xs (ex_t (e.trans e') h)).symm.trans h1)
    subst e2 y1
    exact ⟨H0', Step.rfl e', Dd.ex e _ _ h2⟩
/-- lo, lo + 1, .. -/
def rgI (lo : Int) (n : Nat) : List Int := (List.range n).map fun (i : Nat) => lo + (i : Int)
theorem wk_range {lo : Int} {n : Nat} {H0 : Hp} : Wk (Itr lo n) ((li (rgI lo n)).map (PD K)) H0 := fun H0' H e e' i => by
  refine ⟨fun Q q => ?_, fun q => (show n ≤ i from Nat.le_of_eq (by simpa [rgI, li] using q))⟩
  by_cases hi : i < n
  · refine ⟨hi, fun x H' ⟨y1, y2⟩ => ?_⟩
    have e1 : PD K (.int (lo + (i : Int))) = Q := by simpa [rgI, li, hi] using q
    subst e1 y1
    exact ⟨H0', Step.rfl e', y2⟩
  · simp [rgI, li, hi] at q
theorem wk_rev {a : Addr} {xs : List V} {ds : List PyData} {H0 : Hp} (h : SqL K H0 a xs) (hd : DdAll K H0 ds xs) : Wk (Itv K a xs.length) (ds.reverse.map (PD K)) H0 := fun H0' H e e' i => by
  have hl := hd.len
  refine ⟨fun Q q => ?_, fun q => by show xs.length ≤ i; rw [hl]; exact Nat.le_of_eq (by simpa using q)⟩
  have hlt : i < ds.length := by
    have := (List.getElem?_eq_some_iff.mp q).1
    simpa using this
  have hi : ds[xs.length - 1 - i]? = some (ds[xs.length - 1 - i]'(by omega)) := List.getElem?_eq_getElem _
  have e1 : PD K (ds[xs.length - 1 - i]'(by omega)) = Q := by
    rw [List.getElem?_map, List.getElem?_reverse hlt] at q
    have e3 : ds.length - 1 - i = xs.length - 1 - i := by omega
    rw [e3, hi] at q
    exact Option.some.inj q
  subst e1
  obtain ⟨v, h1, h2⟩ := hd.get hi
  refine ⟨⟨by omega, xs, v, ex_l (e.trans e') h, h1⟩, fun x H' ⟨y1, y2⟩ => ?_⟩
  have e2 : x = v := Option.some.inj ((y2 xs (ex_l (e.trans e') h)).symm.trans h1)
  subst e2 y1
  exact ⟨H0', Step.rfl e', Dd.ex e _ _ h2⟩
/-- pairs in new tuples -/
def PT2 (K : PySem.W.Frag) (P Q : Pd) : Pd := ⟨fun v H => ∃ a x y, v = .ref a ∧ SqT K H a [x, y] ∧ P.p x H ∧ Q.p y H, fun e ⟨a, x, y, h1, h2, h3, h4⟩ => ⟨a, x, y, h1, ex_t e h2, P.m e h3, Q.m e h4⟩⟩
theorem wk_enum {a : Addr} {xs : List V} {ds : List PyData} {H0 : Hp} (h : SqL K H0 a xs) (hd : DdAll K H0 ds xs) : Wk (Ite K a) ((List.range ds.length).zipWith (fun i d => PT2 K (PD K (.int (i : Nat))) (PD K d)) ds) H0 := fun H0' H e e' i => by
  refine ⟨fun Q q => ?_, fun q => ⟨xs, ex_l (e.trans e') h, by rw [hd.len]; exact Nat.le_of_eq (by simpa using q)⟩⟩
  have hlt : i < ds.length := by
    have := (List.getElem?_eq_some_iff.mp q).1
    simpa using this
  have e1 : PT2 K (PD K (.int (i : Nat))) (PD K ds[i]) = Q := by
    simpa [List.getElem?_zipWith, hlt] using q
  subst e1
  obtain ⟨v, h1, h2⟩ := hd.get (List.getElem?_eq_getElem hlt)
  refine ⟨⟨xs, v, ex_l (e.trans e') h, h1⟩, fun x H' ⟨T, y, y1, y2, y3, y4⟩ => ?_⟩
  have e2 : y = v := Option.some.inj ((y4 xs (ex_l (e.trans e') h)).symm.trans h1)
  subst e2 y1 y3
  exact ⟨upd H0' T (.tup [.int (i : Nat), y]), Step.new e' y2, T, _, _, rfl, SqT.of upd_same, rfl, Dd.ex (e.trans (Ex.new (fresh_back e' y2))) _ _ h2⟩
theorem wk_zip {a b : Addr} {xs ys : List V} {ds es : List PyData} {H0 : Hp} (h : SqL K H0 a xs) (hd : DdAll K H0 ds xs) (h' : SqL K H0 b ys) (hd' : DdAll K H0 es ys) : Wk (Itz K a b) (ds.zipWith (fun d e => PT2 K (PD K d) (PD K e)) es) H0 := fun H0' H e e' i => by
  have l1 := hd.len
  have l2 := hd'.len
  refine ⟨fun Q q => ?_, fun q => ⟨xs, ys, ex_l (e.trans e') h, ex_l (e.trans e') h', by rw [List.length_zipWith] at q; omega⟩⟩
  have hlt : i < ds.length ∧ i < es.length := by
    have := (List.getElem?_eq_some_iff.mp q).1
    rw [List.length_zipWith] at this
    omega
  have e1 : PT2 K (PD K (ds[i]'hlt.1)) (PD K (es[i]'hlt.2)) = Q := by
    simpa [List.getElem?_zipWith, hlt.1, hlt.2] using q
  subst e1
  obtain ⟨v, h1, h2⟩ := hd.get (List.getElem?_eq_getElem hlt.1)
  obtain ⟨u, h3, h4⟩ := hd'.get (List.getElem?_eq_getElem hlt.2)
  refine ⟨⟨xs, ys, v, u, ex_l (e.trans e') h, ex_l (e.trans e') h', h1, h3⟩, fun x H' ⟨T, y, z, y1, y2, y3, y4, y5⟩ => ?_⟩
  have e2 : y = v := Option.some.inj ((y4 xs (ex_l (e.trans e') h)).symm.trans h1)
  have e3 : z = u := Option.some.inj ((y5 ys (ex_l (e.trans e') h')).symm.trans h3)
  subst e2 e3 y1 y3
  have x2 := e.trans (Ex.new (o := .tup [y, z]) (fresh_back e' y2))
  exact ⟨upd H0' T (.tup [y, z]), Step.new e' y2, T, _, _, rfl, SqT.of upd_same, Dd.ex x2 _ _ h2, Dd.ex x2 _ _ h4⟩
theorem xi_list {tg e : Expr} {ds : List PyData} (h : XE M Γ Rs X e (PD X.K (.list ds))) : XI M Γ Rs X tg e (ds.map (PD X.K)) := fun σ H0 H l ex k R r => PI.wp (pi_list pe_wp) (h σ H0 H l ex k _ fun v H1 G1 s1 k1 ⟨a, xs, e1, h1, h2⟩ =>
  ⟨a, e1, ⟨xs, ex_l s1.le (SqL.of h1)⟩, r _ H1 G1 s1 k1 (wk_list (SqL.of h1) h2)⟩)
theorem xi_tup {tg e : Expr} {ds : List PyData} (h : XE M Γ Rs X e (PD X.K (.tuple ds))) : XI M Γ Rs X tg e (ds.map (PD X.K)) := fun σ H0 H l ex k R r => PI.wp (pi_tup pe_wp) (h σ H0 H l ex k _ fun v H1 G1 s1 k1 ⟨a, xs, e1, h1, h2⟩ =>
  ⟨a, e1, ⟨xs, ex_t s1.le h1⟩, r _ H1 G1 s1 k1 (wk_tup h1 h2)⟩)
theorem xi_range1 {tg a : Expr} {p pos : Pos} {n : Int} (hm : X.mg "range" = none) (h : XE M Γ Rs X a (PD K (.int n))) (hn : -(2 ^ 62) ≤ n ∧ n < 2 ^ 62) (hg : Gl X "range" := by rfl) (hs : starEach [a] X.env = [(false, eval a X.env)] := by rfl) :
    XI M Γ Rs X tg (.Call (.Name "range" p) [a] [] pos) ((li (rgI 0 n.toNat)).map (PD K)) := fun σ H0 H l ex k R r => PI.wp (pi_range1 hg hm pa_wp hs) ((xa_1 (by exact h) (by exact hs)) σ H0 H l ex k _ fun vs H1 G1 s1 k1 a1 => by
  obtain ⟨v, w, e1, h1, h2⟩ := a1.inv
  have e2 := h2.nil_inv
  subst e1 e2
  have e3 : v = .int n := h1
  subst e3
  exact ⟨n, rfl, hn.1, hn.2, r _ H1 G1 s1 k1 wk_range⟩)
theorem xi_range2 {tg a b : Expr} {p pos : Pos} {lo n : Int} (hm : X.mg "range" = none) (h : XE M Γ Rs X a (PD K (.int lo))) (h' : XE M Γ Rs X b (PD K (.int n))) (hn : -(2 ^ 62) ≤ lo ∧ lo < 2 ^ 62 ∧ -(2 ^ 62) ≤ n ∧ n < 2 ^ 62) (hg : Gl X "range" := by rfl)
    (hs : starEach [a, b] X.env = [(false, eval a X.env), (false, eval b X.env)] := by rfl) (hs2 : starEach [b] X.env = [(false, eval b X.env)] := by rfl) :
    XI M Γ Rs X tg (.Call (.Name "range" p) [a, b] [] pos) ((li (rgI lo (n - lo).toNat)).map (PD K)) := fun σ H0 H l ex k R r => PI.wp (pi_range2 hg hm pa_wp hs hs2) ((xa_cons h (xa_1 h' (by exact hs2)) (by rw [hs, hs2])) σ H0 H l ex k _ fun vs H1 G1 s1 k1 a1 => by
  obtain ⟨v, w, e1, h1, h2⟩ := a1.inv
  obtain ⟨u, w', e4, h3, h4⟩ := h2.inv
  have e2 := h4.nil_inv
  subst e1 e4 e2
  have e3 : v = .int lo := h1
  have e5 : u = .int n := h3
  subst e3 e5
  exact ⟨lo, n, rfl, hn, r _ H1 G1 s1 k1 wk_range⟩)
theorem xi_rev {tg e : Expr} {p pos : Pos} {ds : List PyData} (hm : X.mg "reversed" = none) (h : XE M Γ Rs X e (PD X.K (.list ds))) (hg : Gl X "reversed" := by rfl) (hs : starEach [e] X.env = [(false, eval e X.env)] := by rfl) :
    XI M Γ Rs X tg (.Call (.Name "reversed" p) [e] [] pos) (ds.reverse.map (PD X.K)) := fun σ H0 H l ex k R r => PI.wp (pi_reversed hg hm pa_wp hs) ((xa_1 h (by exact hs)) σ H0 H l ex k _ fun vs H1 G1 s1 k1 a1 => by
  obtain ⟨v, w, e1, ⟨a, xs, e3, h3, h4⟩, h2⟩ := a1.inv
  have e2 := h2.nil_inv
  subst e1 e2 e3
  exact ⟨a, xs, rfl, ex_l s1.le (SqL.of h3), r _ H1 G1 s1 k1 (wk_rev (SqL.of h3) h4)⟩)
theorem xi_enum {e : Expr} {p pos tpos : Pos} {elts : List Expr} {kk : Nat} {ds : List PyData} (hm : X.mg "enumerate" = none) (h : XE M Γ Rs X e (PD X.K (.list ds))) (hg : Gl X "enumerate" := by rfl) (hs : starEach [e] X.env = [(false, eval e X.env)] := by rfl) :
    XI M Γ Rs X (.Tuple elts kk tpos) (.Call (.Name "enumerate" p) [e] [] pos) ((List.range ds.length).zipWith (fun i d => PT2 X.K (PD X.K (.int (i : Nat))) (PD X.K d)) ds) := fun σ H0 H l ex k R r => PI.wp (pi_enum hg hm pa_wp hs) ((xa_1 h (by exact hs)) σ H0 H l ex k _ fun vs H1 G1 s1 k1 a1 => by
  obtain ⟨v, w, e1, ⟨a, xs, e3, h3, h4⟩, h2⟩ := a1.inv
  have e2 := h2.nil_inv
  subst e1 e2 e3
  exact ⟨a, xs, rfl, ex_l s1.le (SqL.of h3), r _ H1 G1 s1 k1 (wk_enum (SqL.of h3) h4)⟩)
theorem xi_zip {e e2 : Expr} {p pos tpos : Pos} {elts : List Expr} {kk : Nat} {ds es : List PyData} (hm : X.mg "zip" = none) (h : XE M Γ Rs X e (PD X.K (.list ds))) (h' : XE M Γ Rs X e2 (PD X.K (.list es))) (hg : Gl X "zip" := by rfl)
    (hs : starEach [e, e2] X.env = (false, eval e X.env) :: starEach [e2] X.env := by rfl) (hpl : (backTo pos (starEach [e2] X.env)).any (·.1) = false := by rfl) (hs2 : starEach [e2] X.env = (false, eval e2 X.env) :: starEach [] X.env := by rfl) :
    XI M Γ Rs X (.Tuple elts kk tpos) (.Call (.Name "zip" p) [e, e2] [] pos) (ds.zipWith (fun d e => PT2 X.K (PD X.K d) (PD X.K e)) es) := fun σ H0 H l ex k R r => PI.wp (pi_zip hg hm pa_wp hs hpl) ((xa_cons h (xa_1 h' hs2) hs) σ H0 H l ex k _ fun vs H1 G1 s1 k1 a1 => by
  obtain ⟨v, w, e1, ⟨a, xs, e3, h3, h4⟩, h2⟩ := a1.inv
  obtain ⟨u, w', e5, ⟨b, ys, e6, h6, h7⟩, h8⟩ := h2.inv
  have e2 := h8.nil_inv
  subst e1 e5 e2 e3 e6
  exact ⟨a, b, xs, ys, rfl, ex_l s1.le (SqL.of h3), ex_l s1.le (SqL.of h6), r _ H1 G1 s1 k1 (wk_zip (SqL.of h3) h4 (SqL.of h6) h7)⟩)
/-! ### targets -/
abbrev GV (g : TG) (Q : Pd) (Γ1 Γ2 : Ct) : Prop := ∀ (v : V) (σ : L2.St) (H0 H : Hp), Sl Γ1 σ H0 → Ex H0 H → Q.p v H0 → ∀ R : L2.St → Hp → Prop, (∀ σ', Sl Γ2 σ' H0 → R σ' H) → g v σ H R
theorem gv_name {i : Nat} {Q : Pd} : GV (gName i) Q Γ (Γ.set i (some Q)) := fun v σ H0 H l e h R r => r _ (l.set h)
theorem gv_pair {i j : Nat} {P Q : Pd} : GV (gTup K 2 (gCons (gName i) (gCons (gName j) gNil))) (PT2 K P Q) Γ ((Γ.set i (some P)).set j (some Q)) := fun v σ H0 H l e ⟨a, x, y, h1, h2, h3, h4⟩ R r =>
  ⟨a, [x, y], h1, ex_t e h2, rfl, x, [y], rfl, y, [], rfl, rfl, r _ ((l.set h3).set h4)⟩
/-- for x in iter, x the i-th name -/
theorem xs_forN (i : Nat) {x : Str} {iter : Expr} {body : List Stmt} {Qs : List Pd} {pos xp : Pos} (hi : XI M Γ Rs X (.Name x xp) iter Qs) (J : Nat → Ct → List Res → Prop) (h0 : J 0 Γ Rs)
    (hb : ∀ (t : Nat) (Q : Pd) (Γ1 : Ct) (Rs1 : List Res), Qs[t]? = some Q → J t Γ1 Rs1 → ∀ Hs, XS M (Γ1.set i (some Q)) Rs1 X Z0 Z Hs { D with nx := KJ M Z0 Z Hs J (t + 1), ct := KJ M Z0 Z Hs J (t + 1), bk := wpB X rest D } body)
    (hd : ∀ Γ1 Rs1, J Qs.length Γ1 Rs1 → XS M Γ1 Rs1 X Z0 Z Hl D rest) (hN : X.N.Nodup) (hp : PassesOwn (model X.prog X.w) X.A X.env X.xe := by exact PassesOwn.never) (hx : X.N[i]? = some x := by rfl) (hl : Loc X.env.scope x := by first | exact Or.inl rfl | exact Or.inr rfl)
    (hf : X.fn x = true ∨ X.env.scope.names.lookup x = some .local := by first | exact .inl rfl | exact .inr rfl) (hc : X.calm = true := by rfl) (hs : ∀ x, foldedSetIterable iter X.env x = pure x := by intro _; rfl) : XS M Γ Rs X Z0 Z Hl D (.For (.Name x xp) iter body [] pos :: rest) :=
  xs_for hp hi J h0 ⟨gName i, pg_name hN hx hl hf, fun t Q Γ1 Rs1 hq j => ⟨_, gv_name, hb t Q Γ1 Rs1 hq j⟩⟩ hd hc hs
/-- for x, y in iter -/
theorem xs_forP (i j : Nat) {x y : Str} {iter : Expr} {body : List Stmt} {pos xp yp tp : Pos} {kt : Nat} {Qs : List Pd} (hi : XI M Γ Rs X (.Tuple [.Name x xp, .Name y yp] kt tp) iter Qs) (J : Nat → Ct → List Res → Prop) (h0 : J 0 Γ Rs)
    (hb : ∀ (t : Nat) (Q : Pd) (Γ1 : Ct) (Rs1 : List Res), Qs[t]? = some Q → J t Γ1 Rs1 → ∃ P1 P2, Q = PT2 X.K P1 P2 ∧ ∀ Hs, XS M ((Γ1.set i (some P1)).set j (some P2)) Rs1 X Z0 Z Hs { D with nx := KJ M Z0 Z Hs J (t + 1), ct := KJ M Z0 Z Hs J (t + 1), bk := wpB X rest D } body)
    (hd : ∀ Γ1 Rs1, J Qs.length Γ1 Rs1 → XS M Γ1 Rs1 X Z0 Z Hl D rest) (hN : X.N.Nodup) (hp : PassesOwn (model X.prog X.w) X.A X.env X.xe := by exact PassesOwn.never) (hx : X.N[i]? = some x := by rfl) (hy : X.N[j]? = some y := by rfl) (hl : Loc X.env.scope x := by first | exact Or.inl rfl | exact Or.inr rfl) (hl2 : Loc X.env.scope y := by first | exact Or.inl rfl | exact Or.inr rfl)
    (hf : X.fn x = true ∨ X.env.scope.names.lookup x = some .local := by first | exact .inl rfl | exact .inr rfl) (hf2 : X.fn y = true ∨ X.env.scope.names.lookup y = some .local := by first | exact .inl rfl | exact .inr rfl) (hc : X.calm = true := by rfl) (hs : ∀ x, foldedSetIterable iter X.env x = pure x := by intro _; rfl) :
    XS M Γ Rs X Z0 Z Hl D (.For (.Tuple [.Name x xp, .Name y yp] kt tp) iter body [] pos :: rest) :=
  xs_for hp hi J h0 ⟨_, pg_tup hc (pgs_cons (pg_name hN hx hl hf) (pgs_cons (pg_name hN hy hl2 hf2) pgs_nil)), fun t Q Γ1 Rs1 hq j => by
    obtain ⟨P1, P2, e, h⟩ := hb t Q Γ1 Rs1 hq j
    subst e
    exact ⟨_, gv_pair, h⟩⟩ hd hc hs
end
end Lh
namespace Lh
open PySem L2
open Evl (Ex ex_l ex_t ex_rd fresh_back)
/-! ### calls of defs -/
/-- a promise: from things as pre tells, the lists Rs at hand, a thing as post tells; what is in M may have changed -/
def SpF {α : Type} (M : α → Addr → Prop) (Rs : α → List Res) (pre : α → List Pd) (post : α → Pd) : Sp := fun vs H Q _ => ∃ (x : α) (H0 : Hp), Ex H0 H ∧ Rok (Rs x) H0 H ∧ DAll (pre x) vs H0 ∧
  ∀ v H0' H', Step (M x) H0 H H0' H' → Rok (Rs x) H0' H' → (post x).p v H0' → Q v H'
abbrev SpP {α : Type} (pre : α → List Pd) (post : α → Pd) : Sp := SpF (fun _ => M0) (fun _ => []) pre post
theorem Rok.mem {Rs : List Res} {H0 H : Hp} (k : Rok Rs H0 H) {r : Res} (h : r ∈ Rs) : r.p H0 H := k.2 r h
section
variable {M : Addr → Prop} {Γ Γ' : Ct} {Rs : List Res} {X : Cx} {Z0 Z Hl : Hp} {D : Ends} {K : PySem.W.Frag} {rest : List Stmt}
theorem sp_use {α : Type} {pre : α → List Pd} {post : α → Pd} {vs : List V} {H0 H : Hp} {Q : VK} {E : XK} (x : α) (e : Ex H0 H) (h : DAll (pre x) vs H0) (q : ∀ v H0' H', Step M0 H0 H H0' H' → (post x).p v H0' → Q v H') : SpP pre post vs H Q E :=
  ⟨x, H0, e, Rok.nil, h, fun v H0' H' s _ p => q v H0' H' s p⟩
/-- a call of a def that changes nothing -/
theorem xe_call {P' : Program} {w' : World} {K' : PySem.W.Frag} {mg' : Str → Option Value} {base' : Heap} {α : Type} {pre : α → List Pd} {post : α → Pd} {x : Str} {f : Addr} {fd : FuncData} {ps : List Str} {k : Nat} {e : Expr} {es : List Expr} {p pos : Pos} {Ps : List Pd} {C : Pd} (F : FnOk P' w' K' mg' base' CX0 k f fd ps (SpP pre post)) (hr : Room k X.A) (hm : mg' x = some (.ref f)) (hk : PySem.W.keepIn K' (.ref f) = true)
    (hb : Binds K' fd ps []) (ha : XA M Γ Rs X (e :: es) Ps) (hx : ∀ vs H, DAll Ps vs H → ∃ y, DAll (pre y) vs H ∧ ∀ v H, (post y).p v H → C.p v H) (hg : Gl X x := by rfl) (hdb : (x == ("__debug__" : Str)) = false := by decide)
    (he : starEach (e :: es) X.env = (false, eval e X.env) :: starEach es X.env := by rfl)
    (hpl : (backTo pos (starEach es X.env)).any (·.1) = false := by rfl) (eP : X.prog = P' := by rfl) (ew : X.w = w' := by rfl) (eK : X.K = K' := by rfl) (em : X.mg = mg' := by rfl) (eb : X.base = base' := by rfl) : XE M Γ Rs X (.Call (.Name x p) (e :: es) [] pos) C := by
  subst eP ew eK em eb
  exact YE.wp (pe_call F hr hg hm hk hb (dvs := []) .nil pass0 pa_wp hdb he hpl) fun σ H0 H l ex r Q q => ha σ H0 H l ex r _ fun vs H1 G1 s1 r1 a1 => by
    obtain ⟨y, h1, h2⟩ := hx vs H1 a1
    refine ⟨y, H1, s1.le, Rok.nil, by rw [List.append_nil]; exact h1, fun v H2 G2 s2 _ p2 => q v H2 G2 (s1.trans (s2.imp fun _ z => z.elim)) (r1.step0 s2) (h2 v H2 p2)⟩
theorem xe_callD {P' : Program} {w' : World} {K' : PySem.W.Frag} {mg' : Str → Option Value} {base' : Heap} {α : Type} {pre : α → List Pd} {post : α → Pd} {x : Str} {f : Addr} {fd : FuncData} {ps : List Str} {k : Nat} {e : Expr} {es : List Expr} {p pos : Pos} (F : FnOk P' w' K' mg' base' CX0 k f fd ps (SpP pre post)) (y : α) (hr : Room k X.A)
    (hm : mg' x = some (.ref f)) (hk : PySem.W.keepIn K' (.ref f) = true) (hb : Binds K' fd ps []) (ha : XA M Γ Rs X (e :: es) (pre y)) (hg : Gl X x := by rfl) (hdb : (x == ("__debug__" : Str)) = false := by decide)
    (he : starEach (e :: es) X.env = (false, eval e X.env) :: starEach es X.env := by rfl)
    (hpl : (backTo pos (starEach es X.env)).any (·.1) = false := by rfl)
    (eP : X.prog = P' := by rfl) (ew : X.w = w' := by rfl) (eK : X.K = K' := by rfl) (em : X.mg = mg' := by rfl) (eb : X.base = base' := by rfl) : XE M Γ Rs X (.Call (.Name x p) (e :: es) [] pos) (post y) :=
  xe_call F hr hm hk hb ha (fun vs H h => ⟨y, h, fun _ _ h => h⟩) hg hdb he hpl eP ew eK em eb
/-- a call of a def that changes the lists R1 (within M1), the first of those at hand -/
theorem xe_callM {P' : Program} {w' : World} {K' : PySem.W.Frag} {mg' : Str → Option Value} {base' : Heap} {α : Type} {M1 : α → Addr → Prop} {R1 : α → List Res} {pre : α → List Pd} {post : α → Pd} {x : Str} {f : Addr} {fd : FuncData} {ps : List Str} {k : Nat} {e : Expr} {es : List Expr} {p pos : Pos} {Ps : List Pd} {C : Pd} {r1 : Res} {Rs2 : List Res} (F : FnOk P' w' K' mg' base' CX0 k f fd ps (SpF M1 R1 pre post)) (hr : Room k X.A)
    (hm : mg' x = some (.ref f)) (hk : PySem.W.keepIn K' (.ref f) = true) (hb : Binds K' fd ps []) (ha : XA M Γ (r1 :: Rs2) X (e :: es) Ps) (hx : ∀ vs H, DAll Ps vs H → ∃ y, DAll (pre y) vs H ∧ R1 y = [r1] ∧ (∀ a, M1 y a → M a) ∧ (∀ a, M1 y a → a ∈ r1.ad) ∧ ∀ v H, (post y).p v H → C.p v H)
    (hg : Gl X x := by rfl) (hdb : (x == ("__debug__" : Str)) = false := by decide) (he : starEach (e :: es) X.env = (false, eval e X.env) :: starEach es X.env := by rfl) (hpl : (backTo pos (starEach es X.env)).any (·.1) = false := by rfl) (eP : X.prog = P' := by rfl) (ew : X.w = w' := by rfl) (eK : X.K = K' := by rfl) (em : X.mg = mg' := by rfl) (eb : X.base = base' := by rfl) : XE M Γ (r1 :: Rs2) X (.Call (.Name x p) (e :: es) [] pos) C := by
  subst eP ew eK em eb
  exact YE.wp (pe_call F hr hg hm hk hb (dvs := []) .nil pass0 pa_wp hdb he hpl) fun σ H0 H l ex r Q q => ha σ H0 H l ex r _ fun vs H1 G1 s1 k1 a1 => by
    obtain ⟨y, h1, h2, h3, h4, h5⟩ := hx vs H1 a1
    have nd : ∀ r ∈ Rs2, ∀ a ∈ r.ad, a ∉ r1.ad := fun r hr a ha hb => by
      have d := k1.1
      rw [List.flatMap_cons, List.nodup_append] at d
      exact d.2.2 a hb a (List.mem_flatMap.mpr ⟨r, hr, ha⟩) rfl
    refine ⟨y, H1, s1.le, ?_, by rw [List.append_nil]; exact h1, fun v H2 G2 s2 k2 p2 => ?_⟩
    · rw [h2]
      refine ⟨?_, fun r hr => k1.2 r (by rw [List.mem_singleton.mp hr]; exact List.mem_cons_self)⟩
      have d := k1.1
      rw [List.flatMap_cons, List.nodup_append] at d
      simpa using d.1
    · have k3 : Rok Rs2 H2 G2 := by
        have k1' : Rok Rs2 H1 G1 := ⟨by have d := k1.1; rw [List.flatMap_cons, List.nodup_append] at d; exact d.2.1, fun r hr => k1.2 r (List.mem_cons_of_mem _ hr)⟩
        exact k1'.step s2 fun r hr a ha hm => nd r hr a ha (h4 a hm)
      refine q v H2 G2 (s1.trans (s2.imp h3)) ⟨k1.1, fun r hr => ?_⟩ (h5 v H2 p2)
      rcases List.mem_cons.mp hr with e1 | hr
      · rw [e1]
        exact k2.2 r1 (by rw [h2]; exact List.mem_cons_self)
      · exact k3.2 r hr
end

/-! ### a def's promise by its body -/
section
variable {K : PySem.W.Frag} {mg : Str → Option Value} {base : Heap} {P : Program} {w : World}
/-- the slots at the beginning -/
def ctOf (N : List Str) (Ps : List Pd) : Ct := Ps.map some ++ List.replicate (N.length - Ps.length) none
theorem sl_start {N : List Str} {Ps : List Pd} {vs : List V} {H : Hp} (h : DAll Ps vs H) : Sl (ctOf N Ps) (L2.start N vs) H := by
  have e := h.1
  refine ⟨by simp [ctOf, L2.start, e], fun i P q => ?_⟩
  by_cases hi : i < Ps.length
  · unfold ctOf at q
    rw [List.getElem?_append_left (by simpa using hi), List.getElem?_map] at q
    cases hp : Ps[i]? with
    | none =>
      rw [hp] at q
      cases q
    | some P' =>
      rw [hp] at q
      have e1 : P' = P := Option.some.inj (Option.some.inj q)
      subst e1
      obtain ⟨v, h1, h2⟩ := h.2 i P' hp
      refine ⟨v, ?_, h2⟩
      unfold L2.start
      rw [List.getElem?_append_left (by simp [e]; exact hi), List.getElem?_map, h1]
      rfl
  · unfold ctOf at q
    rw [List.getElem?_append_right (by simpa using Nat.le_of_not_lt hi)] at q
    have := List.getElem?_replicate (n := N.length - Ps.length) (a := (none : Option Pd)) (i := i - (Ps.map some).length)
    rw [this] at q
    split at q
    · cases q
    · cases q
/-- what the walk of a body asks: the context, the promise's ends -/
theorem fn_F {α : Type} {M : α → Addr → Prop} {Rs : α → List Res} {pre : α → List Pd} {post : α → Pd} {x qual : Str} {st : Stmt} {f : Addr} {fd : FuncData} {N ps : List Str} {k : Nat} (F : Fun K x qual st f fd) (S : FnScope N ps (defScope st)) (len : ∀ y, (pre y).length = ps.length)
    (hb : ∀ (y : α) (Z0 Z : Hp) (Q : VK) (X : Cx) (qX : ∃ (cdv : Value) (A : Around) (outer : List Env) (s : Shared) (E : XK), X = (cxOf CX0 P w K mg base N qual (defScope st) f cdv A outer s Z E).nox ∧ Room k X.A), (∀ v H0' H', Step (M y) Z0 Z H0' H' → Rok (Rs y) H0' H' → (post y).p v H0' → Q v H') →
      XS (M y) (ctOf N (pre y)) (Rs y) X Z0 Z Z0 { nx := fun _ H' => Q .non H', rt := Q } (defBody st)) : FnOk P w K mg base CX0 (k + 1) f fd ps (SpF M Rs pre post) := by
  refine F.ok S (fun vs H Q E h => ?_) (fun cdv A outer s H vs Q E hr h => ?_)
  · obtain ⟨y, H0, _, _, h, _⟩ := h
    rw [h.1, len]
  · obtain ⟨y, H0, e, r, h, q⟩ := h
    refine ⟨_, pss_wp, ?_⟩
    exact hb y H0 H Q _ ⟨cdv, A, outer, s, E, rfl, hr⟩ q _ H0 H (sl_start h) (Step.rfl e) (Ex.refl _) r
end

/-! ### comprehensions -/
def wpEb (X : Cx) (scope : Scope) (e : Expr) : TE := fun σ H Q => ∀ (s0 : Shared) (H0 : Hp) (C : Addr) (cl : List (Str × Addr)) (fp : List Addr), wpE (X.blk s0 H0 scope (compEnvC scope cl C X.env) fp) e σ H Q
def wpTb (X : Cx) (scope : Scope) (e : Expr) : TT := fun σ H Q => ∀ (s0 : Shared) (H0 : Hp) (C : Addr) (cl : List (Str × Addr)) (fp : List Addr), wpT (X.blk s0 H0 scope (compEnvC scope cl C X.env) fp) e σ H Q
def wipeC (Γ : Ct) : List Nat → Ct
  | [] => Γ
  | v :: vs => (wipeC Γ vs).set v none
theorem Sl.forget {Γ : Ct} {σ : L2.St} {H : Hp} (h : Sl Γ σ H) (v : Nat) : Sl (Γ.set v none) (σ.set v none) H := by
  refine ⟨by simp [h.1], fun i P q => ?_⟩
  by_cases hi : v = i
  · subst hi
    by_cases hl : v < Γ.length
    · rw [List.getElem?_set_self hl] at q
      cases q
    · rw [List.getElem?_eq_none (by simpa using Nat.le_of_not_lt hl)] at q
      cases q
  · rw [List.getElem?_set_ne hi] at q
    obtain ⟨u, h1, h2⟩ := h.2 i P q
    exact ⟨u, by rw [List.getElem?_set_ne hi]; exact h1, h2⟩
theorem Sl.wipe {Γ : Ct} {σ : L2.St} {H : Hp} (h : Sl Γ σ H) : ∀ vs : List Nat, Sl (wipeC Γ vs) (L2.wipe σ vs) H
  | [] => h
  | v :: vs => (Sl.wipe h vs).forget v
/-- what may change stands in the heap -/
def Cov (M : Addr → Prop) (Rs : List Res) : Prop := ∀ H0 H, Rok Rs H0 H → ∀ a, M a → ∃ o, H a = some o
theorem cov0 {Rs : List Res} : Cov M0 Rs := fun _ _ _ _ z => z.elim
theorem Rok.wr {Rs : List Res} {A H : Hp} {p : Addr} {o : HO} (k : Rok Rs A H) (h : ∀ r ∈ Rs, ∀ a ∈ r.ad, a ≠ p) : Rok Rs A (upd H p o) := ⟨k.1, fun r hr => r.st (Ex.refl _) (fun a ha => (r.tr (k.2 r hr) a ha).2) (fun a ha => upd_ne (h r hr a ha)) (k.2 r hr)⟩
theorem Rok.updA {Rs : List Res} {A H : Hp} {p : Addr} {o : HO} (k : Rok Rs A H) (hp : A p = none) (h : ∀ r ∈ Rs, ∀ a ∈ r.ad, a ≠ p) : Rok Rs (upd A p o) H := ⟨k.1, fun r hr => r.st (Ex.new hp) (fun a ha => by rw [upd_ne (h r hr a ha)]; exact (r.tr (k.2 r hr) a ha).2) (fun a ha => rfl) (k.2 r hr)⟩
section
variable {M : Addr → Prop} {Γ Γ' : Ct} {Rs : List Res} {X : Cx} {Z0 Z Hl : Hp} {D : Ends} {K : PySem.W.Frag} {rest : List Stmt}
/-- the comprehension's word: the lists that may be made so far -/
theorem ye_lc {tg iter : Expr} {j : Nat} {tt : TT} {te : TE} {Qs : List Pd} (hi : XI M Γ Rs X tg iter Qs) (cv : Cov M Rs) (hz : Qs.length ≤ 100000) (R : Nat → List PyData → Prop) (r0 : R 0 [])
    (ht : ∀ (i : Nat) (Q : Pd), Qs[i]? = some Q → ∃ B, YT M ((wipeC Γ [j]).set j (some Q)) Rs tt B ∧ (B true → YE M ((wipeC Γ [j]).set j (some Q)) Rs te (PEx (fun d => ∀ ds, ds.length ≤ i → R i ds → R (i + 1) (ds ++ [d])) (PD K))) ∧ (B false → ∀ ds, R i ds → R (i + 1) ds)) :
    YE M Γ Rs (tLc (wpI X tg iter) (gName j) tt te [j]) (PEx (fun ds => R Qs.length ds ∧ ds.length ≤ Qs.length) fun ds => PD K (.list ds)) := fun σ H0 H l ex k Q q => hi σ H0 H l ex k _ fun J A0 G1 s1 k1 wk D hD => by
  have nr : ∀ r ∈ Rs, ∀ a ∈ r.ad, a ≠ D := fun r hr a ha e => by
    obtain ⟨⟨o, h1⟩, _⟩ := r.tr (k1.2 r hr) a ha
    rw [e, hD] at h1
    cases h1
  have nM : ¬ M D := fun z => by
    obtain ⟨o, h⟩ := cv A0 G1 k1 D z
    rw [hD] at h
    cases h
  refine ⟨fun i m G => m = Qs.length - i ∧ i ≤ Qs.length ∧ ∃ A acc ds, R i ds ∧ ds.length ≤ i ∧ Step M A0 G1 A G ∧ A D = none ∧ Rok Rs A G ∧ G D = some (.lst acc) ∧ DdAll K A ds acc, ⟨_, rfl, Nat.zero_le _, A0, [], [], r0, Nat.le_refl _, ?_, fresh_back s1.le hD, k1.wr nr, upd_same, rfl⟩, ?_⟩
  · exact ⟨fun a o _ h => by rw [upd_ne (ne_of_none h hD)]; exact h, fun a o h => ⟨o, by rw [upd_ne (ne_of_none h hD)]; exact h⟩, Ex.refl _, fun a o h => by rw [upd_ne (ne_of_none (s1.le a o h) hD)]; exact s1.le a o h, fun a o h => .inl h⟩
  · rintro i m G ⟨rfl, hi', A, acc, ds, hR, hlen, s2, aD, k2, gD, hdd⟩
    have w := wk A G s2.ex s2.le i
    by_cases hlt : i < Qs.length
    · have hq := List.getElem?_eq_getElem hlt
      obtain ⟨go, yl⟩ := w.1 _ hq
      obtain ⟨B, hB, hY, hN⟩ := ht i _ hq
      refine .inr ⟨go, fun G' => i + 1 ≤ Qs.length ∧ ∃ A acc ds, R (i + 1) ds ∧ ds.length ≤ i + 1 ∧ Step M A0 G1 A G' ∧ A D = none ∧ Rok Rs A G' ∧ G' D = some (.lst acc) ∧ DdAll K A ds acc, fun G' h => ⟨Qs.length - (i + 1), by omega, rfl, h⟩, fun x G2 y => ?_⟩
      obtain ⟨A2, s3, hx⟩ := yl x G2 y
      refine ⟨by simp [L2.wipe, List.set_set], ?_⟩
      have s12 := s2.trans s3.of0
      have nw : ∀ {A' G' : Hp}, Step M A G A' G' → A' D = none := fun {A' G'} s => by
        cases e : A' D with
        | none => rfl
        | some o =>
          rcases s.nw D o e with z | z
          · rw [aD] at z
            cases z
          · rw [gD] at z
            cases z
      have lΓ : Sl ((wipeC Γ [j]).set j (some Qs[i])) ((L2.wipe σ [j]).set j (some x)) A2 := (((l.ex s1.ex).ex (s2.ex.trans s3.ex)).wipe [j]).set hx
      refine hB _ A2 G2 lΓ s3.le (k2.step0 s3) _ fun b A3 G3 s4 k4 hb => ?_
      cases b with
      | true =>
        refine hY hb _ A3 G3 (lΓ.ex s4.ex) s4.le k4 _ fun v A4 G4 s5 k5 ⟨d, hd, hv⟩ => ?_
        have s35 : Step M A G A4 G4 := (s3.of0.trans s4).trans s5
        have g4 : G4 D = some (.lst acc) := s35.un D _ nM gD
        refine ⟨acc, g4, ?_, hlt, A4, acc ++ [v], ds ++ [d], hd ds hlen hR, by simp; omega, ?_, nw s35, k5.wr nr, upd_same, DdAll.app (DdAll.ex s35.ex _ _ hdd) (DdAll.one hv)⟩
        · rw [hdd.len]
          have : (100000 : Nat) < sizeLine := by decide
          omega
        · have t := s2.trans s35
          refine ⟨fun a o hm h => ?_, fun a o h => ?_, t.ex, fun a o h => ?_, t.nw⟩
          · rw [upd_ne (ne_of_none h hD)]
            exact t.un a o hm h
          · obtain ⟨o', h'⟩ := t.th a o h
            exact ⟨o', by rw [upd_ne (ne_of_none h hD)]; exact h'⟩
          · have na : a ≠ D := fun e => by
              rw [e, nw s35] at h
              cases h
            rw [upd_ne na]
            exact t.le a o h
      | false =>
        have s34 : Step M A G A3 G3 := s3.of0.trans s4
        exact ⟨hlt, A3, acc, ds, hN hb ds hR, by omega, s2.trans s34, nw s34, k4, s34.un D _ nM gD, DdAll.ex s34.ex _ _ hdd⟩
    · have e : i = Qs.length := by omega
      subst e
      refine .inl ⟨w.2 rfl, q (.ref D) (upd A D (.lst acc)) G ?_ (k2.updA aD nr) ⟨ds, ⟨hR, hlen⟩, D, acc, rfl, upd_same, DdAll.ex (Ex.new aD) _ _ hdd⟩⟩
      have t := s1.trans s2
      refine ⟨t.un, t.th, t.ex.trans (Ex.new aD), fun a o h => ?_, fun a o h => ?_⟩
      · by_cases ha : a = D
        · subst ha
          rw [upd_same] at h
          rw [gD]
          exact h
        · rw [upd_ne ha] at h
          exact t.le a o h
      · by_cases ha : a = D
        · subst ha
          refine .inr ?_
          cases e : H a with
          | none => rfl
          | some u =>
            obtain ⟨u', h'⟩ := s1.th a u e
            rw [hD] at h'
            cases h'
        · rw [upd_ne ha] at h
          exact t.nw a o h
theorem yt_yes : YT M Γ Rs tYes (Is true) := fun σ H0 H l e k Q q => q true H0 H (Step.rfl e) k rfl

theorem blk_ok {X : Cx} {e : Expr} {scope : Scope} : ∀ (s0 : Shared) (H0 : Hp) (C : Addr) (cl : List (Str × Addr)) (fp : List Addr), PE (X.blk s0 H0 scope (compEnvC scope cl C X.env) fp) e (wpEb X scope e) := fun s0 H0 C cl fp => ⟨fun pins s σ H Q I h => h s0 H0 C cl fp pins s I⟩
theorem blk_okT {X : Cx} {e : Expr} {scope : Scope} : ∀ (s0 : Shared) (H0 : Hp) (C : Addr) (cl : List (Str × Addr)) (fp : List Addr), PT (X.blk s0 H0 scope (compEnvC scope cl C X.env) fp) e (wpTb X scope e) := fun s0 H0 C cl fp => ⟨fun pins s σ H Q I h => h s0 H0 C cl fp pins s I⟩
/-- every block of the comprehension's scope -/
abbrev Blk (X : Cx) (scope : Scope) (Y : Cx → Prop) : Prop := ∀ (s0 : Shared) (H0 : Hp) (C : Addr) (cl : List (Str × Addr)) (fp : List Addr), Y (X.blk s0 H0 scope (compEnvC scope cl C X.env) fp)
theorem ye_blk {X : Cx} {e : Expr} {scope : Scope} {P : Pd} (h : Blk X scope fun Y => XE M Γ Rs Y e P) : YE M Γ Rs (wpEb X scope e) P := fun σ H0 H l ex k Q q s0 G0 C cl fp => h s0 G0 C cl fp σ H0 H l ex k Q q
theorem yt_blk {X : Cx} {e : Expr} {scope : Scope} {B : Bool → Prop} (h : Blk X scope fun Y => XT M Γ Rs Y e B) : YT M Γ Rs (wpTb X scope e) B := fun σ H0 H l ex k Q q s0 G0 C cl fp => h s0 G0 C cl fp σ H0 H l ex k Q q
abbrev blkG (Γ : Ct) (j : Nat) (Q : Pd) : Ct := (wipeC Γ [j]).set j (some Q)
/-- what the parts of [elt for x in iter if c] give -/
def LcIf (M : Addr → Prop) (Γ : Ct) (Rs : List Res) (X : Cx) (K : PySem.W.Frag) (scope : Scope) (j : Nat) (elt c : Expr) (Qs : List Pd) (R : Nat → List PyData → Prop) : Prop :=
  ∀ (i : Nat) (Q : Pd), Qs[i]? = some Q → ∃ B, (Blk X scope fun Y => XT M (blkG Γ j Q) Rs Y c B) ∧ (B true → Blk X scope fun Y => XE M (blkG Γ j Q) Rs Y elt (PEx (fun d => ∀ ds, ds.length ≤ i → R i ds → R (i + 1) (ds ++ [d])) (PD K))) ∧ (B false → ∀ ds, R i ds → R (i + 1) ds)
def LcAll (M : Addr → Prop) (Γ : Ct) (Rs : List Res) (X : Cx) (K : PySem.W.Frag) (scope : Scope) (j : Nat) (elt : Expr) (Qs : List Pd) (R : Nat → List PyData → Prop) : Prop :=
  ∀ (i : Nat) (Q : Pd), Qs[i]? = some Q → Blk X scope fun Y => XE M (blkG Γ j Q) Rs Y elt (PEx (fun d => ∀ ds, ds.length ≤ i → R i ds → R (i + 1) (ds ++ [d])) (PD K))
abbrev LcP (K : PySem.W.Frag) (Qs : List Pd) (R : Nat → List PyData → Prop) : Pd := PEx (fun ds => R Qs.length ds ∧ ds.length ≤ Qs.length) fun ds => PD K (.list ds)
theorem ye_lcIf (j : Nat) {tg iter elt c : Expr} {scope : Scope} {Qs : List Pd} (hi : XI M Γ Rs X tg iter Qs) (cv : Cov M Rs) (hz : Qs.length ≤ 100000) (R : Nat → List PyData → Prop) (r0 : R 0 []) (ht : LcIf M Γ Rs X K scope j elt c Qs R) :
    YE M Γ Rs (tLc (wpI X tg iter) (gName j) (wpTb X scope c) (wpEb X scope elt) [j]) (LcP K Qs R) := ye_lc hi cv hz R r0 fun i Q hq => by
  obtain ⟨B, h1, h2, h3⟩ := ht i Q hq
  exact ⟨B, yt_blk h1, fun hb => ye_blk (h2 hb), h3⟩
theorem ye_lcAll (j : Nat) {tg iter elt : Expr} {scope : Scope} {Qs : List Pd} (hi : XI M Γ Rs X tg iter Qs) (cv : Cov M Rs) (hz : Qs.length ≤ 100000) (R : Nat → List PyData → Prop) (r0 : R 0 []) (ht : LcAll M Γ Rs X K scope j elt Qs R) :
    YE M Γ Rs (tLc (wpI X tg iter) (gName j) tYes (wpEb X scope elt) [j]) (LcP K Qs R) := ye_lc hi cv hz R r0 fun i Q hq => ⟨Is true, yt_yes, fun _ => ye_blk (ht i Q hq), fun z => Bool.noConfusion z⟩
/-- the block's own name is stored -/
abbrev BlkG (X : Cx) (scope : Scope) (x : Str) (xp : Pos) (j : Nat) : Prop := ∀ (s : Shared) (H : Hp) (C : Addr) (cl : List (Str × Addr)) (fp : List Addr), PG (X.blk s H scope (compEnvC scope cl C X.env) fp) (.Name x xp) (gName j)
theorem xe_lcIf (j : Nat) {x : Str} {elt iter c : Expr} {scope : Scope} {pos xp : Pos} {Qs : List Pd} (hi : XI M Γ Rs X (.Name x xp) iter Qs) (R : Nat → List PyData → Prop) (r0 : R 0 []) (ht : LcIf M Γ Rs X K scope j elt c Qs R) (hN : X.N.Nodup)
    (ok : BlkOk X.N X.env.scope scope [(x, j)]) (hz : Qs.length ≤ 100000) (cv : Cov M Rs) (hg : BlkG X scope x xp j) (hc : X.calm = true := by rfl) (hs : ∀ x, foldedSetIterable iter X.env x = pure x := by intro _; rfl) :
    XE M Γ Rs X (.ListComp elt [⟨.Name x xp, iter, [c], 0⟩] scope pos) (LcP K Qs R) := YE.wp (pe_lc (own := [(x, j)]) hc hN pi_wp ok hg (fun s H C cl fp => pts_one (blk_okT s H C cl fp)) blk_ok hs) (ye_lcIf j hi cv hz R r0 ht)
theorem xe_lc (j : Nat) {x : Str} {elt iter : Expr} {scope : Scope} {pos xp : Pos} {Qs : List Pd} (hi : XI M Γ Rs X (.Name x xp) iter Qs) (R : Nat → List PyData → Prop) (r0 : R 0 []) (ht : LcAll M Γ Rs X K scope j elt Qs R) (hN : X.N.Nodup)
    (ok : BlkOk X.N X.env.scope scope [(x, j)]) (hz : Qs.length ≤ 100000) (cv : Cov M Rs) (hg : BlkG X scope x xp j) (hc : X.calm = true := by rfl) (hs : ∀ x, foldedSetIterable iter X.env x = pure x := by intro _; rfl) :
    XE M Γ Rs X (.ListComp elt [⟨.Name x xp, iter, [], 0⟩] scope pos) (LcP K Qs R) := YE.wp (pe_lc (own := [(x, j)]) hc hN pi_wp ok hg (fun s H C cl fp => pts_nil) blk_ok hs) (ye_lcAll j hi cv hz R r0 ht)
/-- y = [..] -/
theorem xs_asgT {i : Nat} {st : Stmt} {t : TE} {α : Type} {A : α → Prop} {P : α → Pd} (h : PS X st (tAsg t (gName i))) (y : YE M Γ Rs t (PEx A P)) (k : ∀ a, A a → XS M (Γ.set i (some (P a))) Rs X Z0 Z Hl D rest) : XS M Γ Rs X Z0 Z Hl D (st :: rest) :=
  xs_cons h fun σ H0 H l s b r => y σ H0 H l s.le r _ fun v H1 G1 s1 k1 ⟨a, ha, hv⟩ => k a ha _ H1 G1 ((l.ex s1.ex).set hv) (s.trans s1) (b.trans s1.ex) k1
theorem xs_lcIf (i j : Nat) {x y : Str} {elt iter c : Expr} {scope : Scope} {pos spos xp py : Pos} {Qs : List Pd} (hi : XI M Γ Rs X (.Name x xp) iter Qs) (R : Nat → List PyData → Prop) (r0 : R 0 []) (ht : LcIf M Γ Rs X K scope j elt c Qs R)
    (k : ∀ ds, R Qs.length ds ∧ ds.length ≤ Qs.length → XS M (Γ.set i (some (PD K (.list ds)))) Rs X Z0 Z Hl D rest) (hN : X.N.Nodup) (ok : BlkOk X.N X.env.scope scope [(x, j)]) (hz : Qs.length ≤ 100000) (cv : Cov M Rs) (hg : BlkG X scope x xp j)
    (hsw : swapsWith (.ListComp elt [⟨.Name x xp, iter, [c], 0⟩] scope pos) (some (.Name y py)) spos.line X.env = pure true) (hy : X.N[i]? = some y := by rfl) (hyl : X.env.scope.names.lookup y = some .local := by rfl) (hc : X.calm = true := by rfl) (hs : ∀ x, foldedSetIterable iter X.env x = pure x := by intro _; rfl) :
    XS M Γ Rs X Z0 Z Hl D (.Assign [.Name y py] (.ListComp elt [⟨.Name x xp, iter, [c], 0⟩] scope pos) spos :: rest) :=
  xs_asgT (ps_setLc (own := [(x, j)]) hc hN hy hyl hsw pi_wp ok hg (fun s H C cl fp => pts_one (blk_okT s H C cl fp)) blk_ok hs) (ye_lcIf j hi cv hz R r0 ht) k
theorem xs_lc (i j : Nat) {x y : Str} {elt iter : Expr} {scope : Scope} {pos spos xp py : Pos} {Qs : List Pd} (hi : XI M Γ Rs X (.Name x xp) iter Qs) (R : Nat → List PyData → Prop) (r0 : R 0 []) (ht : LcAll M Γ Rs X K scope j elt Qs R)
    (k : ∀ ds, R Qs.length ds ∧ ds.length ≤ Qs.length → XS M (Γ.set i (some (PD K (.list ds)))) Rs X Z0 Z Hl D rest) (hN : X.N.Nodup) (ok : BlkOk X.N X.env.scope scope [(x, j)]) (hz : Qs.length ≤ 100000) (cv : Cov M Rs) (hg : BlkG X scope x xp j)
    (hsw : swapsWith (.ListComp elt [⟨.Name x xp, iter, [], 0⟩] scope pos) (some (.Name y py)) spos.line X.env = pure true) (hy : X.N[i]? = some y := by rfl) (hyl : X.env.scope.names.lookup y = some .local := by rfl) (hc : X.calm = true := by rfl) (hs : ∀ x, foldedSetIterable iter X.env x = pure x := by intro _; rfl) :
    XS M Γ Rs X Z0 Z Hl D (.Assign [.Name y py] (.ListComp elt [⟨.Name x xp, iter, [], 0⟩] scope pos) spos :: rest) :=
  xs_asgT (ps_setLc (own := [(x, j)]) hc hN hy hyl hsw pi_wp ok hg (fun s H C cl fp => pts_nil) blk_ok hs) (ye_lcAll j hi cv hz R r0 ht) k
end
end Lh
/-! sum of a tuple of ints; enumerate of a tuple; len of an own object. -/
namespace LhS
open L2 PyProof.Rows PySem PySem.Spec
section
variable {s : Shared} {E : Value → Shared → Prop} {A : Around} {w : World} {prog : Program}
theorem sumT_raw {t : Addr} {kids : List Value} {ns : List Int} {Q : Value → Shared → Prop} (hh : A.handled = none) (ht : s.heap.IsTuple t kids.toArray) (hInts : IntsAre kids ns)
    (h : ∀ h' tk t', (∀ b o, s.heap.get? b = some o → h'.get? b = some o) → Q (.int ns.sum t') { s with heap := h', toks := tk }) : wpAny (model prog w) A (call (.builtin "sum") [.ref t]) Q E s := by
  obtain ⟨xs, e⟩ := hInts.allInts.items
  have hn : numsOf (intItems xs).toList = ns := by rw [← e]; exact hInts.numsOf
  rw [nums_intItems] at hn
  rw [e] at ht
  have hlt : t < s.heap.objs.size := by obtain ⟨_, q, _⟩ := ht; exact Heap.lt_size q
  refine call_sum_walkG (wpAny_pyIter_tuple ht ?_)
  refine ⟨s.heap.objs.size, _, _, _, _, _, numAt xs, rfl, Walks.tuple (A := A.in1) hh _ t (Nat.ne_of_lt hlt) (intItems xs), ⟨⟨_, Heap.get?_push_size _ rfl, rfl, rfl⟩, ht.push _⟩, fun b inFp => ?_, fun _ _ => intItems_at, fun h' tk t' hk => ?_⟩
  · show _ < (s.heap.push _).objs.size
    rw [Heap.size_push]
    have eOr : b = s.heap.objs.size ∨ b = t := by simpa using inFp
    rcases eOr with eOr | eOr
    · rw [eOr]
      exact Nat.lt_succ_self _
    · rw [eOr]
      exact Nat.lt_succ_of_lt hlt
  · have q := h h' tk t' fun b o e => hk b o (fun hm => by
      have eOne : b = s.heap.objs.size := by simpa using hm
      exact absurd (eOne ▸ Heap.lt_size e) (Nat.lt_irrefl _)) (Heap.get?_push_of_some _ e)
    have ez : preSum (numAt xs) (intItems xs).size = ns.sum := by
      rw [preSum_eq, List.take_of_length_le (by simp [intItems]), hn]
    rw [ez]
    exact q
end
section
variable {X : Cx}
def rSumT (K : PySem.W.Frag) : List V → Hp → VK → Prop := fun argv H Q => ∃ (a : Addr) (ns : List Int), argv = [V.ref a] ∧ SqT K H a (ns.map V.int) ∧ Q (.int ns.sum) H
theorem cr_sumT (hc : X.calm = true) : CallR X (.builtin "sum") (rSumT X.K) := by
  intro pins s σ H argv us Q I r h
  obtain ⟨ad, ns, rfl, hs, q⟩ := h
  obtain ⟨kids, vk, hl, _⟩ := I.tuple hs
  obtain ⟨u, rfl, uRel⟩ := vals1 r
  have uRel' : u = Value.ref ad := uRel
  subst uRel'
  exact sumT_raw (I.ok.hd hc) hl (intsAre_of vk) fun h' tk t' hk => ⟨.int _, H, I.kept hk, ⟨_, rfl⟩, q⟩
/-- len of an own object: what kids __len__ promises -/
def rLenO (C : Addr) (sp : Sp) (E : XK) : List V → Hp → VK → Prop := fun argv H Q => ∃ a dx fs, argv = [V.ref a] ∧ H a = some (.ins C dx fs) ∧ sp [.ref a] H (fun v H' => ∃ n : Int, v = .int n ∧ 0 ≤ n ∧ n < 2 ^ 63 ∧ Q (.int n) H') E
theorem cr_lenO {CX : CXT} {k : Nat} {C f : Addr} {fd : FuncData} {ps : List Str} {sp : Sp} {E : XK} (fpH : PySem.W.findIn X.K (.ref C) "__len__" = some (some (.ref f))) (hInts : PySem.W.isFn X.K (.ref f) = true)
    (F : FnOk X.prog X.w X.K X.mg X.base CX k f fd ps sp) (hr : Room (k + 1) X.A) (inFp : Binds X.K fd ps []) (hx : Passes CX X.nox E) : CallR X (.builtin "len") (rLenO C sp E) := by
  intro pins s σ H argv us Q I r h
  obtain ⟨a, dx, fs, rfl, eIns, hsp⟩ := h
  obtain ⟨u, rfl, uRel⟩ := vals1 r
  have uRel' : u = Value.ref a := uRel
  subst uRel'
  obtain ⟨mA, own, _, _, _, _⟩ := ins_get I.hok eIns
  obtain ⟨od, J, _⟩ := own.look
  obtain ⟨m, Ff⟩ := I.fr
  refine PySem.W.len_K Ff I.ok.mod.kin J fpH hInts ?_
  have hl : ([Value.ref a] ++ ([] : List Value)).length = ps.length := by
    rw [← F.len _ _ _ _ hsp]
    rfl
  refine wpAny_call (codeAny_mono (F.run X.A.in1 X.stack s H ⟨[.ref a], []⟩ [.ref a] [.ref a] _ E hr.in1 I.env0.in1 (inFp _ [.ref a] I.kIn hl) (.cons rfl .nil) hsp) fun r s' hSq => ?_)
  cases r with
  | error er => exact False.elim (hx pins σ H s er s' (I.wish _) hSq)
  | ok fl =>
    cases fl with
    | ret u =>
      obtain ⟨v, H', I3, vk, n, ev, h0, h1, q3⟩ := I.after hSq
      subst ev
      obtain ⟨t, rfl⟩ := vk
      exact ⟨⟨h0, h1⟩, ⟨.int n, H', I3.tok _, ⟨_, rfl⟩, q3⟩⟩
    | next => exact False.elim hSq
    | brk => exact False.elim hSq
    | cont => exact False.elim hSq
end
end LhS

/-! ### enumerate of a tuple -/
namespace LhS
open L2 PyProof.Rows PySem PySem.Spec
section
variable {s : Shared} {E : Value → Shared → Prop} {A : Around} {w : World} {prog : Program}
theorem meets_enumT (t : Addr) (items : Array Value) (n : Nat) (dct : Option Addr) (sl : Array (Option Value)) :
    Meets (Builtin.«enumerate.__new__» ⟨[.type "enumerate", .ref t], []⟩) (fun _ R s => s.heap.get? t = some { cls := .type "tuple", dict := dct, data := .seq items n, slots := sl } ∧
      R (.ok (.ret (.ref (s.heap.push { cls := .type "tuple_iterator", data := .fields #[.ref t, .int 0 0] }).objs.size)))
        { s with heap := (s.heap.push { cls := .type "tuple_iterator", data := .fields #[.ref t, .int 0 0] }).push { cls := .type "enumerate", data := .fields #[.none, .bool false, .ref s.heap.objs.size, rawInt 0, .none, .none] } }) :=
  .of_wp fun _ _ _ R s h => by
    obtain ⟨hp, gl, dp, tk, os⟩ := s
    obtain ⟨hl, h⟩ := h
    have hsub := sub_enumerate
    have hT : Heap.IsTuple (Shared.heap ⟨hp, gl, dp, tk, os⟩) t items := ⟨_, hl, rfl, n, rfl⟩
    wp_walk using AutoSeq1.wpAny_loadPart' hl
    refine wpAny_stack_any fun _ => wpAny_pure ?_
    split
    · rename_i kind _ _ _ _ _
      cases (kind == Value.type "enumerate")
      · wp_walk using AutoSeq1.wpAny_loadPart' hl, wpAny_pyIter_tuple hT
        exact ⟨_, rfl, h⟩
      · wp_walk using AutoSeq1.wpAny_loadPart' hl, wpAny_pyIter_tuple hT
        exact ⟨_, rfl, h⟩
    · wp_walk using AutoSeq1.wpAny_loadPart' hl, wpAny_pyIter_tuple hT
      exact ⟨_, rfl, h⟩
theorem call_enumT {t : Addr} {items : Array Value} {Q : Value → Shared → Prop} (hT : s.heap.IsTuple t items)
    (h : ∀ h', IsEnum h' (s.heap.objs.size + 1) s.heap.objs.size 0 .none → h'.IsTupleIter s.heap.objs.size t 0 → (∀ b o, s.heap.get? b = some o → h'.get? b = some o) → Q (.ref (s.heap.objs.size + 1)) { s with heap := h' }) :
    wpAny (model prog w) A (call (.type "enumerate") [.ref t]) Q E s := by
  obtain ⟨⟨c, dct, dt, sl⟩, hl, hc, n, hd⟩ := hT
  have hc' : c = .type "tuple" := hc
  have hd' : dt = .seq items n := hd
  subst hc' hd'
  refine callType_new F.called_enumerate (by decide) (F.typeCall_enumerate_1 _) (F.newCall_enumerate_1 _) (fun obj => F.args_object_init_2 obj _) F.entry_enumerate_new (meets_enumT t items n dct sl) ⟨hl, ?_⟩
  have hz : (s.heap.push { cls := .type "tuple_iterator", data := .fields #[.ref t, .int 0 0] }).objs.size = s.heap.objs.size + 1 := Heap.size_push ..
  show _ ∧ _
  rw [hz]
  have q := Heap.get?_push_size (s.heap.push { cls := .type "tuple_iterator", data := .fields #[.ref t, .int 0 0] }) (o := { cls := .type "enumerate", data := .fields #[.none, .bool false, .ref s.heap.objs.size, rawInt 0, .none, .none] }) rfl
  rw [hz] at q
  exact ⟨⟨_, q, rfl⟩, h _ q ⟨_, Heap.get?_push_of_some _ (Heap.get?_push_size _ rfl), rfl, rfl⟩ fun b o x => Heap.get?_push_of_some _ (Heap.get?_push_of_some _ x)⟩
end
/-- the tuple at a as it stands, each item in a new pair -/
def IteT (K : PySem.W.Frag) (a : Addr) : It :=
  ⟨fun i H => ∃ (xs : List V) (x : V), SqT K H a xs ∧ xs[i]? = some x, fun i H v H' => ∃ T x, v = .ref T ∧ H T = none ∧ H' = upd H T (.tup [.int (i : Nat), x]) ∧ ∀ xs, SqT K H a xs → xs[i]? = some x, fun i H => ∃ xs : List V, SqT K H a xs ∧ xs.length = i⟩
theorem turn_enumT {P : Program} {w : World} {K : PySem.W.Frag} {elts : List Expr} {kk : Nat} {tpos : Pos} (a e it : Addr) (hai : a ≠ it) :
    Turn P w K (.Tuple elts kk tpos) (IteT K a) [e, it] e (fun i h => (∃ was, IsEnum h e it ((i : Nat) : Int) was) ∧ h.IsTupleIter it a i ∧ e ≠ it ∧ e ≠ a) where
  mem := by simp
  obj := fun i h now b inFp => by
    obtain ⟨⟨was, hEn⟩, ⟨o, ho, hc, hd⟩, _⟩ := now
    have eOr : b = e ∨ b = it := by simpa using inFp
    rcases eOr with z | z
    · rw [z]
      exact ⟨_, hEn, fun v q => nomatch q⟩
    · rw [z]
      exact ⟨o, ho, fun v q => by rw [hd] at q; cases q⟩
  keep := fun i h h' now k => by
    obtain ⟨⟨was, hEn⟩, hInts, nEI, nEA⟩ := now
    exact ⟨⟨was, k e (by simp) _ hEn⟩, hInts.at fun o q => k it (by simp) o q, nEI, nEA⟩
  item := by
    intro X hP hw hK hc i pins s σ H E I fpH now hg
    subst hP hw hK
    obtain ⟨⟨was, hEn⟩, hIt, nEI, nEA⟩ := now
    obtain ⟨xs, x, hSq, hx⟩ := hg
    obtain ⟨kids, vk, p, hz⟩ := I.tuple hSq
    obtain ⟨u, hu, uRel⟩ := vk.get hx
    have eIn : e < s.heap.objs.size := Heap.lt_size hEn
    have iIn : it < s.heap.objs.size := by obtain ⟨_, q, _⟩ := hIt; exact Heap.lt_size q
    have hh : X.A.in1.handled = none := I.ok.hd hc
    have hlen : i < kids.toArray.size := by
      have := (List.getElem?_eq_some_iff.mp hu).1
      simpa using this
    refine wpAny_pyNext_enum_itemD (Draws.tuple hh it a hai kids.toArray) hEn ⟨hIt, p⟩ hlen nEI (by simp [nEI, nEA]) fun y h' tk hy ho hs' hT hsz hk => ?_
    have ey : y = u := by
      have q : kids[i]? = some y := by simpa using hy
      rw [hu] at q
      exact Eq.symm (Option.some.inj q)
    subst ey
    refine ⟨_, rfl, wpAny_letOwnedTupleGo_enum (s := { s with heap := h', toks := tk + 1 }) ho fun h'' he' sb => ?_⟩
    have hT2 : h''.get? s.heap.objs.size = some { cls := .type "tuple", data := .seq #[.int i tk, y] } := (sb.2 _ (Nat.ne_of_gt eIn)).trans hT
    have laid : ObjOk X.prog X.w (upd H s.heap.objs.size (.tup [.int (i : Nat), x])) h'' s.heap.objs.size (.tup [.int (i : Nat), x]) :=
      ⟨by show 2 ≤ sizeLine; decide, [.int i tk, y], .cons ⟨_, rfl⟩ (.cons uRel .nil), ⟨_, hT2, rfl, _, rfl⟩⟩
    have I1 : Inv X pins σ (upd H s.heap.objs.size (.tup [.int (i : Nat), x])) { s with heap := h'', toks := tk + 1 } :=
      I.turnedNew (ch := [e, it]) (fun b ob inFp q => (sb.2 b (fun z => inFp (by simp [z]))).trans (hk b ob (fun z => inFp (by simp [z])) (fun z => inFp (by simp [z])) q)) fpH (Nat.le_refl _) laid
    refine ⟨.ref s.heap.objs.size, _, I1, rfl, ⟨_, x, rfl, I.hok.fresh (Nat.le_refl _), rfl, fun ys hy => by rw [I.tuple_inj hy hSq]; exact hx⟩, ⟨⟨y, ?_⟩, hs'.1.at fun o q => (sb.2 it (Ne.symm nEI)).trans q, nEI, nEA⟩, fun b inFp => ?_⟩
    · have eOne : ((i + 1 : Nat) : Int) = (i : Int) + 1 := by omega
      rw [eOne]; exact he'
    · have bIn : b < s.heap.objs.size := by
        have eOr : b = e ∨ b = it := by simpa using inFp
        rcases eOr with z | z
        · rw [z]; exact eIn
        · rw [z]; exact iIn
      rw [upd_ne (Nat.ne_of_lt bIn)]
      exact (fpH b inFp).1
  done := by
    intro X hP hw hK hc i pins s σ H E I fpH now hg
    subst hP hw hK
    obtain ⟨⟨was, hEn⟩, hIt, nEI, nEA⟩ := now
    obtain ⟨xs, hSq, hx⟩ := hg
    obtain ⟨kids, vk, p, hz⟩ := I.tuple hSq
    obtain ⟨f0, f1, f2, f3, f4, f5⟩ := fpH it (by simp)
    have hl := vk.length
    have hh : X.A.in1.handled = none := I.ok.hd hc
    have hn : i = kids.toArray.size := by
      rw [← hx, hl]
      simp
    subst hn
    exact wpAny_pyNext_enum_endD (Draws.tuple hh it a hai kids.toArray) hEn ⟨hIt, p⟩ fun h' eb => ⟨rfl, I.turned (t' := s.toks) (fun b o inFp q => eb b o inFp q) f0 f1 f3 f4 f5⟩
  self := fun A i s Q E now h => by
    obtain ⟨⟨_, hEn⟩, _⟩ := now
    exact wpAny_pyIter_enum hEn h
def iEnumT (K : PySem.W.Frag) (ta : TA) : TI := fun σ H R => ta σ H fun argv H1 => ∃ a xs, argv = [.ref a] ∧ SqT K H1 a xs ∧ R (IteT K a) H1
theorem pi_enumT {X : Cx} {e : Expr} {ta : TA} {p pos tpos : Pos} {elts : List Expr} {kk : Nat} (hg : Gl X "enumerate") (hm : X.mg "enumerate" = none) (ha : PA X [e] ta) (hs : starEach [e] X.env = [(false, eval e X.env)] := by rfl) :
    PI X (.Tuple elts kk tpos) (.Call (.Name "enumerate" p) [e] [] pos) (iEnumT X.K ta) := by
  constructor
  intro pins s σ H R I h
  refine Call_ (ld_blt I hg hm boot_enumerate (PyProof.Rows.callWith_type1 (thn (ha.run pos pins s σ H _ I h) fun us s1 ⟨argv, H1, I1, r1, q1⟩ => ?_) hs rfl))
  obtain ⟨a, xs, ex, hSq, q⟩ := q1
  subst ex
  obtain ⟨u, rfl, uRel⟩ := vals1 r1
  have uRel' : u = Value.ref a := uRel
  subst uRel'
  obtain ⟨kids, vk, p', hz⟩ := I1.tuple hSq
  have hal : a < s1.heap.objs.size := by obtain ⟨_, q, _⟩ := p'; exact Heap.lt_size q
  refine call_enumT (show s1.heap.IsTuple a kids.toArray from p') fun h' hEn hIt hk => wpAny_pyIter_enum hEn ?_
  have Inow : Inv X pins σ H1 { s1 with heap := h' } := I1.kept (t' := s1.toks) hk
  refine ⟨s1.heap.objs.size + 1, [s1.heap.objs.size + 1, s1.heap.objs.size], _, _, H1, rfl, Inow, turn_enumT a (s1.heap.objs.size + 1) s1.heap.objs.size (Nat.ne_of_lt hal), ⟨⟨.none, hEn⟩, hIt, Nat.succ_ne_self _, Nat.ne_of_gt (Nat.lt_succ_of_lt hal)⟩, fun b inFp => ?_, q⟩
  have leB : s1.heap.objs.size ≤ b := by
    have eOr : b = s1.heap.objs.size + 1 ∨ b = s1.heap.objs.size := by simpa using inFp
    rcases eOr with z | z
    · exact z ▸ Nat.le_succ _
    · exact z ▸ Nat.le_refl _
  exact I1.fpOk leB (I1.hok.fresh leB)
end LhS
namespace Lh
open PySem L2
open Evl (Ex ex_l ex_t ex_rd fresh_back)
theorem sl_big {n : Nat} (h : n ≤ 1000000) : n ≤ sizeLine := Nat.le_trans h (by decide)
/-! ### steps by values -/
section
variable {H0 H : Hp} {K : PySem.W.Frag} {x y : V}
theorem yl_I0 {g : Int → Int → V} {i j : Int} {d : PyData} (hd : ∀ H, Dd K H d (g i j)) (hx : Dd K H0 (.int i) x) (hy : Dd K H0 (.int j) y) (e : Ex H0 H) : Yld H0 H (PD K d) (rI0 g x y H) := Yld.val (z := g i j) e (hd H0) fun Q q => ⟨i, j, hx, hy, q⟩
theorem yl_I {C : Int → Int → Prop} {g : Int → Int → V} {i j : Int} {d : PyData} (hc : C i j) (hd : ∀ H, Dd K H d (g i j)) (hx : Dd K H0 (.int i) x) (hy : Dd K H0 (.int j) y) (e : Ex H0 H) : Yld H0 H (PD K d) (rI C g x y H) := Yld.val (z := g i j) e (hd H0) fun Q q => ⟨i, j, hx, hy, hc, q⟩
theorem Yld.pb {f : VK → Prop} {b : Bool} (h : Yld H0 H (PD K (.bool b)) f) : Yld H0 H (PB K (Is b)) f := fun Q q => h Q fun v A G s p => q v A G s ⟨b, rfl, p⟩
theorem dec_int' {i j : Int} : decide (V.int i = V.int j) = decide (i = j) := by
  by_cases h : i = j
  · subst h
    simp
  · rw [decide_eq_false h, decide_eq_false (fun e => h (V.int.inj e))]
theorem dec_str' {i j : Str} : decide (V.str i = V.str j) = decide (i = j) := by
  by_cases h : i = j
  · subst h
    simp
  · rw [decide_eq_false h, decide_eq_false (fun e => h (V.str.inj e))]
theorem dec_bl' {i j : Bool} : decide (V.bl i = V.bl j) = decide (i = j) := by
  by_cases h : i = j
  · subst h
    simp
  · rw [decide_eq_false h, decide_eq_false (fun e => h (V.bl.inj e))]
theorem yl_eqI {i j : Int} (hx : Dd K H0 (.int i) x) (hy : Dd K H0 (.int j) y) (e : Ex H0 H) : Yld H0 H (PD K (.bool (decide (i = j)))) (rEq x y H) := by
  have hx' : x = .int i := hx
  have hy' : y = .int j := hy
  subst hx' hy'
  exact Yld.val (z := .bl (decide (V.int i = V.int j))) e (by rw [dec_int']; rfl) fun Q q => ⟨rfl, q⟩
theorem yl_neI {i j : Int} (hx : Dd K H0 (.int i) x) (hy : Dd K H0 (.int j) y) (e : Ex H0 H) : Yld H0 H (PD K (.bool (!decide (i = j)))) (rNe x y H) := by
  have hx' : x = .int i := hx
  have hy' : y = .int j := hy
  subst hx' hy'
  exact Yld.val (z := .bl (!decide (V.int i = V.int j))) e (by rw [dec_int']; rfl) fun Q q => ⟨rfl, q⟩
theorem yl_eqS {i j : Str} (hx : Dd K H0 (.str i) x) (hy : Dd K H0 (.str j) y) (e : Ex H0 H) : Yld H0 H (PD K (.bool (decide (i = j)))) (rEq x y H) := by
  have hx' : x = .str i := hx
  have hy' : y = .str j := hy
  subst hx' hy'
  exact Yld.val (z := .bl (decide (V.str i = V.str j))) e (by rw [dec_str']; rfl) fun Q q => ⟨rfl, q⟩
theorem yl_neS {i j : Str} (hx : Dd K H0 (.str i) x) (hy : Dd K H0 (.str j) y) (e : Ex H0 H) : Yld H0 H (PD K (.bool (!decide (i = j)))) (rNe x y H) := by
  have hx' : x = .str i := hx
  have hy' : y = .str j := hy
  subst hx' hy'
  exact Yld.val (z := .bl (!decide (V.str i = V.str j))) e (by rw [dec_str']; rfl) fun Q q => ⟨rfl, q⟩
theorem yl_eqB {i j : Bool} (hx : Dd K H0 (.bool i) x) (hy : Dd K H0 (.bool j) y) (e : Ex H0 H) : Yld H0 H (PD K (.bool (decide (i = j)))) (rEq x y H) := by
  have hx' : x = .bl i := hx
  have hy' : y = .bl j := hy
  subst hx' hy'
  exact Yld.val (z := .bl (decide (V.bl i = V.bl j))) e (by rw [dec_bl']; rfl) fun Q q => ⟨rfl, q⟩
theorem yl_neB {i j : Bool} (hx : Dd K H0 (.bool i) x) (hy : Dd K H0 (.bool j) y) (e : Ex H0 H) : Yld H0 H (PD K (.bool (!decide (i = j)))) (rNe x y H) := by
  have hx' : x = .bl i := hx
  have hy' : y = .bl j := hy
  subst hx' hy'
  exact Yld.val (z := .bl (!decide (V.bl i = V.bl j))) e (by rw [dec_bl']; rfl) fun Q q => ⟨rfl, q⟩
theorem yl_eqD {d d' : PyData} (hs : SeqAt.shaped d = true) (hs' : SeqAt.shaped d' = true) (hx : Dd K H0 d x) (hy : Dd K H0 d' y) (e : Ex H0 H) : Yld H0 H (PD K (.bool (PyData.eqv d d'))) (rEqD K x y H) :=
  Yld.val (z := .bl (PyData.eqv d d')) e rfl fun Q q => ⟨d, d', Dd.dp d x (Dd.ex e _ _ hx), Dd.dp d' y (Dd.ex e _ _ hy), hs, hs', q⟩
theorem yl_neD {d d' : PyData} (hs : SeqAt.shaped d = true) (hs' : SeqAt.shaped d' = true) (hx : Dd K H0 d x) (hy : Dd K H0 d' y) (e : Ex H0 H) : Yld H0 H (PD K (.bool (!PyData.eqv d d'))) (rNeD K x y H) :=
  Yld.val (z := .bl (!PyData.eqv d d')) e rfl fun Q q => ⟨d, d', Dd.dp d x (Dd.ex e _ _ hx), Dd.dp d' y (Dd.ex e _ _ hy), hs, hs', q⟩
/-- in a list or a tuple of ints -/
theorem inV_ints (i : Int) : ∀ ns : List Int, inV (.int i) (ns.map V.int) = decide (i ∈ ns)
  | [] => rfl
  | n :: ns => by
    have h := inV_ints i ns
    unfold inV at h ⊢
    rw [List.map_cons, List.any_cons, h]
    show ((n == i) || decide (i ∈ ns)) = decide (i ∈ n :: ns)
    by_cases e : n = i
    · subst e
      simp
    · have e' : ¬ i = n := fun z => e z.symm
      simp [e, e']
theorem flat_ints (ns : List Int) : (ns.map V.int).all flatV = true := by
  rw [List.all_map, List.all_eq_true]
  exact fun _ _ => rfl
theorem yl_inL {i : Int} {ns : List Int} (hx : Dd K H0 (.int i) x) (hy : Dd K H0 (.list (li ns)) y) (e : Ex H0 H) : Yld H0 H (PD K (.bool (decide (i ∈ ns)))) (rIn K false x y H) := by
  obtain ⟨a, xs, ey, h1, h2⟩ := hy
  have hx' : x = .int i := hx
  have e2 := h2.ints
  subst hx' ey e2
  exact Yld.val (z := .bl (inV (.int i) (ns.map V.int))) e (by rw [inV_ints]; rfl) fun Q q => ⟨a, _, rfl, .inl (SqL.of (e _ _ h1)), rfl, flat_ints ns, q⟩
theorem yl_niL {i : Int} {ns : List Int} (hx : Dd K H0 (.int i) x) (hy : Dd K H0 (.list (li ns)) y) (e : Ex H0 H) : Yld H0 H (PD K (.bool (!decide (i ∈ ns)))) (rIn K true x y H) := by
  obtain ⟨a, xs, ey, h1, h2⟩ := hy
  have hx' : x = .int i := hx
  have e2 := h2.ints
  subst hx' ey e2
  exact Yld.val (z := .bl (!inV (.int i) (ns.map V.int))) e (by rw [inV_ints]; rfl) fun Q q => ⟨a, _, rfl, .inl (SqL.of (e _ _ h1)), rfl, flat_ints ns, q⟩
theorem yl_inT {i : Int} {ns : List Int} (hx : Dd K H0 (.int i) x) (hy : Dd K H0 (.tuple (li ns)) y) (e : Ex H0 H) : Yld H0 H (PD K (.bool (decide (i ∈ ns)))) (rIn K false x y H) := by
  obtain ⟨a, xs, ey, h1, h2⟩ := hy
  have hx' : x = .int i := hx
  have e2 := h2.ints
  subst hx' ey e2
  exact Yld.val (z := .bl (inV (.int i) (ns.map V.int))) e (by rw [inV_ints]; rfl) fun Q q => ⟨a, _, rfl, .inr (ex_t e h1), rfl, flat_ints ns, q⟩
theorem yl_niT {i : Int} {ns : List Int} (hx : Dd K H0 (.int i) x) (hy : Dd K H0 (.tuple (li ns)) y) (e : Ex H0 H) : Yld H0 H (PD K (.bool (!decide (i ∈ ns)))) (rIn K true x y H) := by
  obtain ⟨a, xs, ey, h1, h2⟩ := hy
  have hx' : x = .int i := hx
  have e2 := h2.ints
  subst hx' ey e2
  exact Yld.val (z := .bl (!inV (.int i) (ns.map V.int))) e (by rw [inV_ints]; rfl) fun Q q => ⟨a, _, rfl, .inr (ex_t e h1), rfl, flat_ints ns, q⟩
theorem atI_dd {ds : List PyData} {xs : List V} {i : Int} {d : PyData} (h : DdAll K H ds xs) (q : atI ds i = some d) : ∃ v, atI xs i = some v ∧ Dd K H d v := by
  unfold atI at q ⊢
  rw [h.len]
  cases e : ixN ds.length i with
  | none =>
    rw [e] at q
    cases q
  | some j =>
    rw [e] at q
    obtain ⟨v, h1, h2⟩ := h.get (i := j) q
    exact ⟨v, h1, h2⟩
theorem yl_ixL {ds : List PyData} {i : Int} {d : PyData} (q : atI ds i = some d) (hx : Dd K H0 (.list ds) x) (hy : Dd K H0 (.int i) y) (e : Ex H0 H) : Yld H0 H (PD K d) (rIxL K x y H) := by
  obtain ⟨a, xs, ex, h1, h2⟩ := hx
  obtain ⟨v, q1, q2⟩ := atI_dd h2 q
  exact Yld.val (z := v) e q2 fun Q q => ⟨a, xs, i, v, ex, hy, SqL.of (e _ _ h1), q1, q⟩
theorem yl_ixT {ds : List PyData} {i : Int} {d : PyData} (q : atI ds i = some d) (hx : Dd K H0 (.tuple ds) x) (hy : Dd K H0 (.int i) y) (e : Ex H0 H) : Yld H0 H (PD K d) (rIxT K x y H) := by
  obtain ⟨a, xs, ex, h1, h2⟩ := hx
  obtain ⟨v, q1, q2⟩ := atI_dd h2 q
  exact Yld.val (z := v) e q2 fun Q q => ⟨a, xs, i, v, ex, hy, ex_t e h1, q1, q⟩
theorem yl_catL {ds es : List PyData} (hz : ds.length + es.length ≤ 1000000) (hx : Dd K H0 (.list ds) x) (hy : Dd K H0 (.list es) y) (e : Ex H0 H) : Yld H0 H (PD K (.list (ds ++ es))) (rCat x y H) := by
  obtain ⟨a, xs, ex, h1, h2⟩ := hx
  obtain ⟨b, ys, ey, h3, h4⟩ := hy
  exact Yld.newL e (DdAll.app h2 h4) fun Q q => ⟨a, b, xs, ys, ex, ey, e _ _ h1, e _ _ h3, by rw [h2.len, h4.len]; exact sl_big hz, q⟩
theorem dd_rep {ds : List PyData} {xs : List V} (h : DdAll K H ds xs) : ∀ n : Nat, DdAll K H (List.replicate n ds).flatten (List.replicate n xs).flatten
  | 0 => rfl
  | n + 1 => by
    simp only [List.replicate_succ, List.flatten_cons]
    exact DdAll.app h (dd_rep h n)
theorem yl_repL {ds : List PyData} {k : Int} (hk : -(2 ^ 63) ≤ k ∧ k < 2 ^ 63) (hz : ds.length * k.toNat ≤ 1000000) (hx : Dd K H0 (.list ds) x) (hy : Dd K H0 (.int k) y) (e : Ex H0 H) : Yld H0 H (PD K (.list (List.replicate k.toNat ds).flatten)) (rRep x y H) := by
  obtain ⟨a, xs, ex, h1, h2⟩ := hx
  exact Yld.newL e (dd_rep h2 _) fun Q q => ⟨a, k, xs, ex, hy, e _ _ h1, hk.1, hk.2, by rw [h2.len]; exact sl_big hz, q⟩
theorem yl_catT {ds es : List PyData} (hz : ds.length + es.length ≤ 1000000) (hx : Dd K H0 (.tuple ds) x) (hy : Dd K H0 (.tuple es) y) (e : Ex H0 H) : Yld H0 H (PD K (.tuple (ds ++ es))) (rCatA K x y H) := fun Q q => by
  obtain ⟨a, xs, ex, h1, h2⟩ := hx
  obtain ⟨b, ys, ey, h3, h4⟩ := hy
  refine ⟨a, b, xs, ys, ex, ey, ex_t e h1, ex_t e h3, by rw [h2.len, h4.len]; exact sl_big hz, fun z => ?_, fun _ z => ?_, fun _ _ p hp => ?_⟩
  · subst z
    have e1 : ds = [] := List.length_eq_zero_iff.mp (by rw [← h2.len]; rfl)
    subst e1
    exact q _ H0 H (Step.rfl e) ⟨b, ys, rfl, h3, h4⟩
  · subst z
    have e1 : es = [] := List.length_eq_zero_iff.mp (by rw [← h4.len]; rfl)
    subst e1
    rw [List.append_nil] at q
    exact q _ H0 H (Step.rfl e) ⟨a, xs, rfl, h1, h2⟩
  · exact q _ _ _ (Step.new e hp) ⟨p, _, rfl, SqT.of upd_same, DdAll.ex (Ex.new (fresh_back e hp)) _ _ (DdAll.app h2 h4)⟩
end
section
variable {M : Addr → Prop} {Γ Γ' : Ct} {Rs : List Res} {X : Cx} {Z0 Z Hl : Hp} {D : Ends} {K : PySem.W.Frag} {rest : List Stmt} {a b c : Expr} {pos : Pos} {i j k : Int} {s t : Str} {u v : Bool}
theorem xe_add (ha : XE M Γ Rs X a (PD K (.int i))) (hb : XE M Γ Rs X b (PD K (.int j))) : XE M Γ Rs X (.BinOp a .Add b pos) (PD K (.int (i + j))) := xe_bin op_add ha hb fun x y H0 H hx hy e _ => yl_I0 (fun _ => rfl) hx hy e
theorem xe_sub (ha : XE M Γ Rs X a (PD K (.int i))) (hb : XE M Γ Rs X b (PD K (.int j))) : XE M Γ Rs X (.BinOp a .Sub b pos) (PD K (.int (i - j))) := xe_bin op_sub ha hb fun x y H0 H hx hy e _ => yl_I0 (fun _ => rfl) hx hy e
theorem xe_mul (ha : XE M Γ Rs X a (PD K (.int i))) (hb : XE M Γ Rs X b (PD K (.int j))) (h : CMulW i j) : XE M Γ Rs X (.BinOp a .Mult b pos) (PD K (.int (i * j))) := xe_bin op_mulW ha hb fun x y H0 H hx hy e _ => yl_I h (fun _ => rfl) hx hy e
theorem xe_fdiv (ha : XE M Γ Rs X a (PD K (.int i))) (hb : XE M Γ Rs X b (PD K (.int j))) (h : CDivW i j) : XE M Γ Rs X (.BinOp a .FloorDiv b pos) (PD K (.int (i / j))) := xe_bin op_fdivW ha hb fun x y H0 H hx hy e _ => yl_I h (fun _ => rfl) hx hy e
theorem xe_mod (ha : XE M Γ Rs X a (PD K (.int i))) (hb : XE M Γ Rs X b (PD K (.int j))) (h : 0 < j) : XE M Γ Rs X (.BinOp a .Mod b pos) (PD K (.int (i % j))) := xe_bin op_mod ha hb fun x y H0 H hx hy e _ => yl_I h (fun _ => rfl) hx hy e
theorem xe_neg (ha : XE M Γ Rs X a (PD K (.int i))) : XE M Γ Rs X (.UnaryOp .USub a pos) (PD K (.int (-i))) := xe_un un_neg ha fun x H0 H hx e _ => Yld.val (z := .int (-i)) e rfl fun Q q => ⟨i, hx, q⟩
theorem xe_lt (ha : XE M Γ Rs X a (PD K (.int i))) (hb : XE M Γ Rs X b (PD K (.int j))) : XE M Γ Rs X (.Compare a [.Lt] [b] pos) (PD K (.bool (decide (i < j)))) := xe_cmp op_lt ha hb (fun x y H0 H hx hy e _ => yl_I0 (fun _ => rfl) hx hy e) (nomark _)
theorem xe_le (ha : XE M Γ Rs X a (PD K (.int i))) (hb : XE M Γ Rs X b (PD K (.int j))) : XE M Γ Rs X (.Compare a [.LtE] [b] pos) (PD K (.bool (decide (i ≤ j)))) := xe_cmp op_le ha hb (fun x y H0 H hx hy e _ => yl_I0 (fun _ => rfl) hx hy e) (nomark _)
theorem xe_gt (ha : XE M Γ Rs X a (PD K (.int i))) (hb : XE M Γ Rs X b (PD K (.int j))) : XE M Γ Rs X (.Compare a [.Gt] [b] pos) (PD K (.bool (decide (j < i)))) := xe_cmp op_gt ha hb (fun x y H0 H hx hy e _ => yl_I0 (fun _ => rfl) hx hy e) (nomark _)
theorem xe_ge (ha : XE M Γ Rs X a (PD K (.int i))) (hb : XE M Γ Rs X b (PD K (.int j))) : XE M Γ Rs X (.Compare a [.GtE] [b] pos) (PD K (.bool (decide (j ≤ i)))) := xe_cmp op_ge ha hb (fun x y H0 H hx hy e _ => yl_I0 (fun _ => rfl) hx hy e) (nomark _)
theorem xe_eqI (ha : XE M Γ Rs X a (PD K (.int i))) (hb : XE M Γ Rs X b (PD K (.int j))) : XE M Γ Rs X (.Compare a [.Eq] [b] pos) (PD K (.bool (decide (i = j)))) := xe_cmp op_eq ha hb (fun x y H0 H hx hy e _ => yl_eqI hx hy e) (nomark _)
theorem xe_neI (ha : XE M Γ Rs X a (PD K (.int i))) (hb : XE M Γ Rs X b (PD K (.int j))) : XE M Γ Rs X (.Compare a [.NotEq] [b] pos) (PD K (.bool (!decide (i = j)))) := xe_cmp op_ne ha hb (fun x y H0 H hx hy e _ => yl_neI hx hy e) (nomark _)
theorem xe_eqS (ha : XE M Γ Rs X a (PD K (.str s))) (hb : XE M Γ Rs X b (PD K (.str t))) : XE M Γ Rs X (.Compare a [.Eq] [b] pos) (PD K (.bool (decide (s = t)))) := xe_cmp op_eq ha hb (fun x y H0 H hx hy e _ => yl_eqS hx hy e) (nomark _)
theorem xe_neS (ha : XE M Γ Rs X a (PD K (.str s))) (hb : XE M Γ Rs X b (PD K (.str t))) : XE M Γ Rs X (.Compare a [.NotEq] [b] pos) (PD K (.bool (!decide (s = t)))) := xe_cmp op_ne ha hb (fun x y H0 H hx hy e _ => yl_neS hx hy e) (nomark _)
theorem xe_eqB (ha : XE M Γ Rs X a (PD K (.bool u))) (hb : XE M Γ Rs X b (PD K (.bool v))) : XE M Γ Rs X (.Compare a [.Eq] [b] pos) (PD K (.bool (decide (u = v)))) := xe_cmp op_eq ha hb (fun x y H0 H hx hy e _ => yl_eqB hx hy e) (nomark _)
theorem xe_neB (ha : XE M Γ Rs X a (PD K (.bool u))) (hb : XE M Γ Rs X b (PD K (.bool v))) : XE M Γ Rs X (.Compare a [.NotEq] [b] pos) (PD K (.bool (!decide (u = v)))) := xe_cmp op_ne ha hb (fun x y H0 H hx hy e _ => yl_neB hx hy e) (nomark _)
theorem xt_lt (ha : XE M Γ Rs X a (PD K (.int i))) (hb : XE M Γ Rs X b (PD K (.int j))) : XT M Γ Rs X (.Compare a [.Lt] [b] pos) (Is (decide (i < j))) := xt_cmp (K := K) op_lt ha hb (fun x y H0 H hx hy e _ => (yl_I0 (g := fun i j => .bl (decide (i < j))) (d := .bool (decide (i < j))) (fun _ => rfl) hx hy e).pb) (nomark _)
theorem xt_le (ha : XE M Γ Rs X a (PD K (.int i))) (hb : XE M Γ Rs X b (PD K (.int j))) : XT M Γ Rs X (.Compare a [.LtE] [b] pos) (Is (decide (i ≤ j))) := xt_cmp (K := K) op_le ha hb (fun x y H0 H hx hy e _ => (yl_I0 (g := fun i j => .bl (decide (i ≤ j))) (d := .bool (decide (i ≤ j))) (fun _ => rfl) hx hy e).pb) (nomark _)
theorem xt_gt (ha : XE M Γ Rs X a (PD K (.int i))) (hb : XE M Γ Rs X b (PD K (.int j))) : XT M Γ Rs X (.Compare a [.Gt] [b] pos) (Is (decide (j < i))) := xt_cmp (K := K) op_gt ha hb (fun x y H0 H hx hy e _ => (yl_I0 (g := fun i j => .bl (decide (j < i))) (d := .bool (decide (j < i))) (fun _ => rfl) hx hy e).pb) (nomark _)
theorem xt_ge (ha : XE M Γ Rs X a (PD K (.int i))) (hb : XE M Γ Rs X b (PD K (.int j))) : XT M Γ Rs X (.Compare a [.GtE] [b] pos) (Is (decide (j ≤ i))) := xt_cmp (K := K) op_ge ha hb (fun x y H0 H hx hy e _ => (yl_I0 (g := fun i j => .bl (decide (j ≤ i))) (d := .bool (decide (j ≤ i))) (fun _ => rfl) hx hy e).pb) (nomark _)
theorem xt_eqI (ha : XE M Γ Rs X a (PD K (.int i))) (hb : XE M Γ Rs X b (PD K (.int j))) : XT M Γ Rs X (.Compare a [.Eq] [b] pos) (Is (decide (i = j))) := xt_cmp (K := K) op_eq ha hb (fun x y H0 H hx hy e _ => (yl_eqI hx hy e).pb) (nomark _)
theorem xt_neI (ha : XE M Γ Rs X a (PD K (.int i))) (hb : XE M Γ Rs X b (PD K (.int j))) : XT M Γ Rs X (.Compare a [.NotEq] [b] pos) (Is (!decide (i = j))) := xt_cmp (K := K) op_ne ha hb (fun x y H0 H hx hy e _ => (yl_neI hx hy e).pb) (nomark _)
theorem xt_eqS (ha : XE M Γ Rs X a (PD K (.str s))) (hb : XE M Γ Rs X b (PD K (.str t))) : XT M Γ Rs X (.Compare a [.Eq] [b] pos) (Is (decide (s = t))) := xt_cmp (K := K) op_eq ha hb (fun x y H0 H hx hy e _ => (yl_eqS hx hy e).pb) (nomark _)
theorem xt_neS (ha : XE M Γ Rs X a (PD K (.str s))) (hb : XE M Γ Rs X b (PD K (.str t))) : XT M Γ Rs X (.Compare a [.NotEq] [b] pos) (Is (!decide (s = t))) := xt_cmp (K := K) op_ne ha hb (fun x y H0 H hx hy e _ => (yl_neS hx hy e).pb) (nomark _)
theorem xt_eqB (ha : XE M Γ Rs X a (PD K (.bool u))) (hb : XE M Γ Rs X b (PD K (.bool v))) : XT M Γ Rs X (.Compare a [.Eq] [b] pos) (Is (decide (u = v))) := xt_cmp (K := K) op_eq ha hb (fun x y H0 H hx hy e _ => (yl_eqB hx hy e).pb) (nomark _)
theorem xt_neB (ha : XE M Γ Rs X a (PD K (.bool u))) (hb : XE M Γ Rs X b (PD K (.bool v))) : XT M Γ Rs X (.Compare a [.NotEq] [b] pos) (Is (!decide (u = v))) := xt_cmp (K := K) op_ne ha hb (fun x y H0 H hx hy e _ => (yl_neB hx hy e).pb) (nomark _)
theorem room_u {n : Nat} (hr : Room n X.A) : X.A.units + 64 < cLine := by
  have := hr.un
  omega
theorem xe_eqD {d d' : PyData} {n : Nat} (hr : Room n X.A) (ha : XE M Γ Rs X a (PD X.K d)) (hb : XE M Γ Rs X b (PD X.K d')) (hs : SeqAt.shaped d = true) (hs' : SeqAt.shaped d' = true) : XE M Γ Rs X (.Compare a [.Eq] [b] pos) (PD X.K (.bool (PyData.eqv d d'))) := xe_cmp (op_eqD (room_u hr)) ha hb (fun x y H0 H hx hy e _ => yl_eqD hs hs' hx hy e) (nomark _)
theorem xe_neD {d d' : PyData} {n : Nat} (hr : Room n X.A) (ha : XE M Γ Rs X a (PD X.K d)) (hb : XE M Γ Rs X b (PD X.K d')) (hs : SeqAt.shaped d = true) (hs' : SeqAt.shaped d' = true) : XE M Γ Rs X (.Compare a [.NotEq] [b] pos) (PD X.K (.bool (!PyData.eqv d d'))) := xe_cmp (op_neD (room_u hr)) ha hb (fun x y H0 H hx hy e _ => yl_neD hs hs' hx hy e) (nomark _)
theorem xt_eqD {d d' : PyData} {n : Nat} (hr : Room n X.A) (ha : XE M Γ Rs X a (PD X.K d)) (hb : XE M Γ Rs X b (PD X.K d')) (hs : SeqAt.shaped d = true) (hs' : SeqAt.shaped d' = true) : XT M Γ Rs X (.Compare a [.Eq] [b] pos) (Is (PyData.eqv d d')) := xt_cmp (K := X.K) (op_eqD (room_u hr)) ha hb (fun x y H0 H hx hy e _ => (yl_eqD hs hs' hx hy e).pb) (nomark _)
theorem xt_neD {d d' : PyData} {n : Nat} (hr : Room n X.A) (ha : XE M Γ Rs X a (PD X.K d)) (hb : XE M Γ Rs X b (PD X.K d')) (hs : SeqAt.shaped d = true) (hs' : SeqAt.shaped d' = true) : XT M Γ Rs X (.Compare a [.NotEq] [b] pos) (Is (!PyData.eqv d d')) := xt_cmp (K := X.K) (op_neD (room_u hr)) ha hb (fun x y H0 H hx hy e _ => (yl_neD hs hs' hx hy e).pb) (nomark _)
theorem xe_inL {ns : List Int} (ha : XE M Γ Rs X a (PD X.K (.int i))) (hb : XE M Γ Rs X b (PD X.K (.list (li ns)))) (hm : behindInMarks .In b = false := by rfl) : XE M Γ Rs X (.Compare a [.In] [b] pos) (PD X.K (.bool (decide (i ∈ ns)))) := xe_cmp op_in_seq ha hb (fun x y H0 H hx hy e _ => yl_inL hx hy e) hm
theorem xe_inT {ns : List Int} (ha : XE M Γ Rs X a (PD X.K (.int i))) (hb : XE M Γ Rs X b (PD X.K (.tuple (li ns)))) (hm : behindInMarks .In b = false := by rfl) : XE M Γ Rs X (.Compare a [.In] [b] pos) (PD X.K (.bool (decide (i ∈ ns)))) := xe_cmp op_in_seq ha hb (fun x y H0 H hx hy e _ => yl_inT hx hy e) hm
theorem xe_niL {ns : List Int} (ha : XE M Γ Rs X a (PD X.K (.int i))) (hb : XE M Γ Rs X b (PD X.K (.list (li ns)))) (hm : behindInMarks .NotIn b = false := by rfl) : XE M Γ Rs X (.Compare a [.NotIn] [b] pos) (PD X.K (.bool (!decide (i ∈ ns)))) := xe_cmp op_notIn_seq ha hb (fun x y H0 H hx hy e _ => yl_niL hx hy e) hm
theorem xe_niT {ns : List Int} (ha : XE M Γ Rs X a (PD X.K (.int i))) (hb : XE M Γ Rs X b (PD X.K (.tuple (li ns)))) (hm : behindInMarks .NotIn b = false := by rfl) : XE M Γ Rs X (.Compare a [.NotIn] [b] pos) (PD X.K (.bool (!decide (i ∈ ns)))) := xe_cmp op_notIn_seq ha hb (fun x y H0 H hx hy e _ => yl_niT hx hy e) hm
theorem xt_inL {ns : List Int} (ha : XE M Γ Rs X a (PD X.K (.int i))) (hb : XE M Γ Rs X b (PD X.K (.list (li ns)))) (hm : behindInMarks .In b = false := by rfl) : XT M Γ Rs X (.Compare a [.In] [b] pos) (Is (decide (i ∈ ns))) := xt_cmp (K := X.K) op_in_seq ha hb (fun x y H0 H hx hy e _ => (yl_inL hx hy e).pb) hm
theorem xt_inT {ns : List Int} (ha : XE M Γ Rs X a (PD X.K (.int i))) (hb : XE M Γ Rs X b (PD X.K (.tuple (li ns)))) (hm : behindInMarks .In b = false := by rfl) : XT M Γ Rs X (.Compare a [.In] [b] pos) (Is (decide (i ∈ ns))) := xt_cmp (K := X.K) op_in_seq ha hb (fun x y H0 H hx hy e _ => (yl_inT hx hy e).pb) hm
theorem xt_niL {ns : List Int} (ha : XE M Γ Rs X a (PD X.K (.int i))) (hb : XE M Γ Rs X b (PD X.K (.list (li ns)))) (hm : behindInMarks .NotIn b = false := by rfl) : XT M Γ Rs X (.Compare a [.NotIn] [b] pos) (Is (!decide (i ∈ ns))) := xt_cmp (K := X.K) op_notIn_seq ha hb (fun x y H0 H hx hy e _ => (yl_niL hx hy e).pb) hm
theorem xt_niT {ns : List Int} (ha : XE M Γ Rs X a (PD X.K (.int i))) (hb : XE M Γ Rs X b (PD X.K (.tuple (li ns)))) (hm : behindInMarks .NotIn b = false := by rfl) : XT M Γ Rs X (.Compare a [.NotIn] [b] pos) (Is (!decide (i ∈ ns))) := xt_cmp (K := X.K) op_notIn_seq ha hb (fun x y H0 H hx hy e _ => (yl_niT hx hy e).pb) hm
/-! ### items, slices, sums of lists -/
theorem xe_ixL {ds : List PyData} {d : PyData} (ha : XE M Γ Rs X a (PD X.K (.list ds))) (hb : XE M Γ Rs X b (PD X.K (.int i))) (h : atI ds i = some d) (hs : PlainIx b := by exact fun _ _ => rfl) : XE M Γ Rs X (.Subscript a b pos) (PD X.K d) := YE.wp (pe_ix ix_list pe_wp pe_wp hs) (ye_op ha hb fun x y H0 H hx hy e _ => yl_ixL h hx hy e)
theorem xe_ixT {ds : List PyData} {d : PyData} (ha : XE M Γ Rs X a (PD X.K (.tuple ds))) (hb : XE M Γ Rs X b (PD X.K (.int i))) (h : atI ds i = some d) (hs : PlainIx b := by exact fun _ _ => rfl) : XE M Γ Rs X (.Subscript a b pos) (PD X.K d) := YE.wp (pe_ix ix_tup pe_wp pe_wp hs) (ye_op ha hb fun x y H0 H hx hy e _ => yl_ixT h hx hy e)
/-- at a place that is one of many -/
theorem xe_ixLE {ds : List PyData} {A : Int → Prop} {B : PyData → Prop} (ha : XE M Γ Rs X a (PD X.K (.list ds))) (hb : XE M Γ Rs X b (PEx A fun k => PD X.K (.int k))) (h : ∀ k, A k → ∃ d, atI ds k = some d ∧ B d) (hs : PlainIx b := by exact fun _ _ => rfl) : XE M Γ Rs X (.Subscript a b pos) (PEx B fun d => PD X.K d) :=
  YE.wp (pe_ix ix_list pe_wp pe_wp hs) (ye_op ha hb fun x y H0 H hx ⟨k, hk, hy⟩ e _ => by
    obtain ⟨d, h1, h2⟩ := h k hk
    exact fun Q q => yl_ixL h1 hx hy e Q fun v A G s p => q v A G s ⟨d, h2, p⟩)
theorem xe_catL {ds es : List PyData} (ha : XE M Γ Rs X a (PD K (.list ds))) (hb : XE M Γ Rs X b (PD K (.list es))) (hz : ds.length + es.length ≤ 1000000) : XE M Γ Rs X (.BinOp a .Add b pos) (PD K (.list (ds ++ es))) := xe_bin op_cat ha hb fun x y H0 H hx hy e _ => yl_catL hz hx hy e
theorem xe_catT {ds es : List PyData} (ha : XE M Γ Rs X a (PD X.K (.tuple ds))) (hb : XE M Γ Rs X b (PD X.K (.tuple es))) (hz : ds.length + es.length ≤ 1000000) : XE M Γ Rs X (.BinOp a .Add b pos) (PD X.K (.tuple (ds ++ es))) := xe_bin op_catA ha hb fun x y H0 H hx hy e _ => yl_catT hz hx hy e
theorem xe_repL {ds : List PyData} (ha : XE M Γ Rs X a (PD K (.list ds))) (hb : XE M Γ Rs X b (PD K (.int k))) (hk : -(2 ^ 63) ≤ k ∧ k < 2 ^ 63) (hz : ds.length * k.toNat ≤ 1000000) : XE M Γ Rs X (.BinOp a .Mult b pos) (PD K (.list (List.replicate k.toNat ds).flatten)) := xe_bin op_rep ha hb fun x y H0 H hx hy e _ => yl_repL hk hz hx hy e
/-- one argument -/
theorem da1 {P : Pd} {xs : List V} {H : Hp} (h : DAll [P] xs H) : ∃ x, xs = [x] ∧ P.p x H := by
  obtain ⟨x, r, e, h1, h2⟩ := h.inv
  have e2 := h2.nil_inv
  subst e e2
  exact ⟨x, rfl, h1⟩
theorem da2 {P Q : Pd} {xs : List V} {H : Hp} (h : DAll [P, Q] xs H) : ∃ x y, xs = [x, y] ∧ P.p x H ∧ Q.p y H := by
  obtain ⟨x, r, e, h1, h2⟩ := h.inv
  obtain ⟨y, e2, h3⟩ := da1 h2
  subst e e2
  exact ⟨x, y, rfl, h1, h3⟩
theorem da3 {P Q R : Pd} {xs : List V} {H : Hp} (h : DAll [P, Q, R] xs H) : ∃ x y z, xs = [x, y, z] ∧ P.p x H ∧ Q.p y H ∧ R.p z H := by
  obtain ⟨x, r, e, h1, h2⟩ := h.inv
  obtain ⟨y, z, e2, h3, h4⟩ := da2 h2
  subst e e2
  exact ⟨x, y, z, rfl, h1, h3, h4⟩
variable {p : Pos}
theorem xe_lenL {ds : List PyData} (hm : X.mg "len" = none) (h : XE M Γ Rs X a (PD X.K (.list ds))) (hg : Gl X "len" := by rfl) (he : starEach [a] X.env = (false, eval a X.env) :: starEach [] X.env := by rfl) : XE M Γ Rs X (.Call (.Name "len" p) [a] [] pos) (PD X.K (.int (ds.length : Int))) :=
  xe_callB call_len_seq hm PySem.boot_len (xa_1 h he) (fun xs H0 H hx e _ => by
    obtain ⟨x, e1, q, ys, e2, h1, h2⟩ := da1 hx
    subst e1 e2
    exact Yld.val (z := .int (ys.length : Int)) e (by rw [h2.len]; rfl) fun Q k => ⟨q, ys, rfl, .inl (SqL.of (e _ _ h1)), k⟩) hg (by decide) (by decide) he rfl
theorem xe_lenT {ds : List PyData} (hm : X.mg "len" = none) (h : XE M Γ Rs X a (PD X.K (.tuple ds))) (hg : Gl X "len" := by rfl) (he : starEach [a] X.env = (false, eval a X.env) :: starEach [] X.env := by rfl) : XE M Γ Rs X (.Call (.Name "len" p) [a] [] pos) (PD X.K (.int (ds.length : Int))) :=
  xe_callB call_len_seq hm PySem.boot_len (xa_1 h he) (fun xs H0 H hx e _ => by
    obtain ⟨x, e1, q, ys, e2, h1, h2⟩ := da1 hx
    subst e1 e2
    exact Yld.val (z := .int (ys.length : Int)) e (by rw [h2.len]; rfl) fun Q k => ⟨q, ys, rfl, .inr (ex_t e h1), k⟩) hg (by decide) (by decide) he rfl
theorem xe_intI (hm : X.mg "int" = none) (h : XE M Γ Rs X a (PD K (.int i))) (hg : Gl X "int" := by rfl) (he : starEach [a] X.env = (false, eval a X.env) :: starEach [] X.env := by rfl) : XE M Γ Rs X (.Call (.Name "int" p) [a] [] pos) (PD K (.int i)) :=
  xe_callTy call_int1 hm (by decide +kernel) (xa_1 h he) (fun xs H0 H hx e _ => by
    obtain ⟨x, e1, q⟩ := da1 hx
    have q' : x = .int i := q
    subst e1 q'
    exact Yld.val (z := .int i) e rfl fun Q k => .inl ⟨i, rfl, k⟩) hg (by decide) (by decide) he rfl
def b2n (b : Bool) : Int := if b then 1 else 0
theorem xe_intB (hm : X.mg "int" = none) (h : XE M Γ Rs X a (PD K (.bool u))) (hg : Gl X "int" := by rfl) (he : starEach [a] X.env = (false, eval a X.env) :: starEach [] X.env := by rfl) : XE M Γ Rs X (.Call (.Name "int" p) [a] [] pos) (PD K (.int (b2n u))) :=
  xe_callTy call_int1 hm (by decide +kernel) (xa_1 h he) (fun xs H0 H hx e _ => by
    obtain ⟨x, e1, q⟩ := da1 hx
    have q' : x = .bl u := q
    subst e1 q'
    exact Yld.val (z := .int (b2n u)) e rfl fun Q k => .inr ⟨u, rfl, k⟩) hg (by decide) (by decide) he rfl
theorem xe_sumL {ns : List Int} (hm : X.mg "sum" = none) (h : XE M Γ Rs X a (PD X.K (.list (li ns)))) (hc : X.calm = true := by rfl) (hg : Gl X "sum" := by rfl) (he : starEach [a] X.env = (false, eval a X.env) :: starEach [] X.env := by rfl) : XE M Γ Rs X (.Call (.Name "sum" p) [a] [] pos) (PD X.K (.int ns.sum)) :=
  xe_callB (cr_sum hc) hm (by decide +kernel) (xa_1 h he) (fun xs H0 H hx e _ => by
    obtain ⟨x, e1, q, ys, e2, h1, h2⟩ := da1 hx
    have e3 := h2.ints
    subst e1 e2 e3
    exact Yld.val (z := .int ns.sum) e rfl fun Q k => ⟨q, ns, rfl, SqL.of (e _ _ h1), k⟩) hg (by decide) (by decide) he rfl
theorem xe_sumT {ns : List Int} (hm : X.mg "sum" = none) (h : XE M Γ Rs X a (PD X.K (.tuple (li ns)))) (hc : X.calm = true := by rfl) (hg : Gl X "sum" := by rfl) (he : starEach [a] X.env = (false, eval a X.env) :: starEach [] X.env := by rfl) : XE M Γ Rs X (.Call (.Name "sum" p) [a] [] pos) (PD X.K (.int ns.sum)) :=
  xe_callB (LhS.cr_sumT hc) hm (by decide +kernel) (xa_1 h he) (fun xs H0 H hx e _ => by
    obtain ⟨x, e1, q, ys, e2, h1, h2⟩ := da1 hx
    have e3 := h2.ints
    subst e1 e2 e3
    exact Yld.val (z := .int ns.sum) e rfl fun Q k => ⟨q, ns, rfl, ex_t e h1, k⟩) hg (by decide) (by decide) he rfl
theorem xe_min2 (hm : X.mg "min" = none) (h : XE M Γ Rs X a (PD K (.int i))) (h' : XE M Γ Rs X b (PD K (.int j))) (hc : X.calm = true := by rfl) (hg : Gl X "min" := by rfl) (he : starEach [a, b] X.env = (false, eval a X.env) :: starEach [b] X.env := by rfl) (he2 : starEach [b] X.env = (false, eval b X.env) :: starEach [] X.env := by rfl) (hpl : (backTo pos (starEach [b] X.env)).any (·.1) = false := by rfl) :
    XE M Γ Rs X (.Call (.Name "min" p) [a, b] [] pos) (PD K (.int (min i j))) :=
  xe_callB (call_min2 hc) hm (by decide +kernel) (xa_cons h (xa_1 h' he2) he) (fun xs H0 H hx e _ => by
    obtain ⟨x, y, e1, q1, q2⟩ := da2 hx
    have q1' : x = .int i := q1
    have q2' : y = .int j := q2
    subst e1 q1' q2'
    have z : (if j < i then j else i) = min i j := by omega
    exact Yld.val (z := .int (min i j)) e rfl fun Q k => ⟨i, j, rfl, by rw [z]; exact k⟩) hg (by decide) (by decide) he hpl
theorem xe_max2 (hm : X.mg "max" = none) (h : XE M Γ Rs X a (PD K (.int i))) (h' : XE M Γ Rs X b (PD K (.int j))) (hc : X.calm = true := by rfl) (hg : Gl X "max" := by rfl) (he : starEach [a, b] X.env = (false, eval a X.env) :: starEach [b] X.env := by rfl) (he2 : starEach [b] X.env = (false, eval b X.env) :: starEach [] X.env := by rfl) (hpl : (backTo pos (starEach [b] X.env)).any (·.1) = false := by rfl) :
    XE M Γ Rs X (.Call (.Name "max" p) [a, b] [] pos) (PD K (.int (max i j))) :=
  xe_callB (call_max2 hc) hm (by decide +kernel) (xa_cons h (xa_1 h' he2) he) (fun xs H0 H hx e _ => by
    obtain ⟨x, y, e1, q1, q2⟩ := da2 hx
    have q1' : x = .int i := q1
    have q2' : y = .int j := q2
    subst e1 q1' q2'
    have z : (if j > i then j else i) = max i j := by omega
    exact Yld.val (z := .int (max i j)) e rfl fun Q k => ⟨i, j, rfl, by rw [z]; exact k⟩) hg (by decide) (by decide) he hpl
theorem xe_listL {ds : List PyData} (hm : X.mg "list" = none) (h : XE M Γ Rs X a (PD X.K (.list ds))) (hg : Gl X "list" := by rfl) (he : starEach [a] X.env = (false, eval a X.env) :: starEach [] X.env := by rfl) : XE M Γ Rs X (.Call (.Name "list" p) [a] [] pos) (PD X.K (.list ds)) :=
  xe_callTy call_list_of hm (by decide +kernel) (xa_1 h he) (fun xs H0 H hx e _ => by
    obtain ⟨x, e1, q, ys, e2, h1, h2⟩ := da1 hx
    subst e1 e2
    exact Yld.newL e h2 fun Q k => ⟨q, ys, rfl, .inl (SqL.of (e _ _ h1)), k⟩) hg (by decide) (by decide) he rfl
theorem xe_listT {ds : List PyData} (hm : X.mg "list" = none) (h : XE M Γ Rs X a (PD X.K (.tuple ds))) (hg : Gl X "list" := by rfl) (he : starEach [a] X.env = (false, eval a X.env) :: starEach [] X.env := by rfl) : XE M Γ Rs X (.Call (.Name "list" p) [a] [] pos) (PD X.K (.list ds)) :=
  xe_callTy call_list_of hm (by decide +kernel) (xa_1 h he) (fun xs H0 H hx e _ => by
    obtain ⟨x, e1, q, ys, e2, h1, h2⟩ := da1 hx
    subst e1 e2
    exact Yld.newL e h2 fun Q k => ⟨q, ys, rfl, .inr (ex_t e h1), k⟩) hg (by decide) (by decide) he rfl
theorem xe_tupL {ds : List PyData} (hm : X.mg "tuple" = none) (h : XE M Γ Rs X a (PD X.K (.list ds))) (hg : Gl X "tuple" := by rfl) (he : starEach [a] X.env = (false, eval a X.env) :: starEach [] X.env := by rfl) : XE M Γ Rs X (.Call (.Name "tuple" p) [a] [] pos) (PD X.K (.tuple ds)) :=
  xe_callTy call_tuple_of hm (by decide +kernel) (xa_1 h he) (fun xs H0 H hx e _ => by
    obtain ⟨x, e1, q, ys, e2, h1, h2⟩ := da1 hx
    subst e1 e2
    exact Yld.newT e h2 fun Q k => ⟨q, ys, rfl, .inl ⟨SqL.of (e _ _ h1), k⟩⟩) hg (by decide) (by decide) he rfl
theorem xe_tupT {ds : List PyData} (hm : X.mg "tuple" = none) (h : XE M Γ Rs X a (PD X.K (.tuple ds))) (hg : Gl X "tuple" := by rfl) (he : starEach [a] X.env = (false, eval a X.env) :: starEach [] X.env := by rfl) : XE M Γ Rs X (.Call (.Name "tuple" p) [a] [] pos) (PD X.K (.tuple ds)) :=
  xe_callTy call_tupleT hm (by decide +kernel) (xa_1 h he) (fun xs H0 H hx e _ => by
    obtain ⟨x, e1, q, ys, e2, h1, h2⟩ := da1 hx
    subst e1 e2
    exact Yld.val (z := .ref q) e ⟨q, ys, rfl, h1, h2⟩ fun Q k => ⟨q, ys, rfl, ex_t e h1, k⟩) hg (by decide) (by decide) he rfl
theorem xe_allL {bs : List Bool} (hm : X.mg "all" = none) (h : XE M Γ Rs X a (PD X.K (.list (bs.map PyData.bool)))) (hc : X.calm = true := by rfl) (hg : Gl X "all" := by rfl) (he : starEach [a] X.env = (false, eval a X.env) :: starEach [] X.env := by rfl) : XE M Γ Rs X (.Call (.Name "all" p) [a] [] pos) (PD X.K (.bool (bs.all id))) :=
  xe_callB (cr_all hc) hm (by decide +kernel) (xa_1 h he) (fun xs H0 H hx e _ => by
    obtain ⟨x, e1, q, ys, e2, h1, h2⟩ := da1 hx
    have bl : ∀ (bs : List Bool) (ys : List V), DdAll X.K H0 (bs.map PyData.bool) ys → ys = bs.map V.bl := fun bs => by
      induction bs with
      | nil => exact fun ys h => h
      | cons b bs ih =>
        rintro ys ⟨x, r, h1, h2, h3⟩
        have e : x = V.bl b := h2
        subst h1
        rw [e, ih r h3]
        rfl
    have e3 := bl bs ys h2
    subst e1 e2 e3
    exact Yld.val (z := .bl (bs.all id)) e rfl fun Q k => ⟨q, bs, rfl, SqL.of (e _ _ h1), k⟩) hg (by decide) (by decide) he rfl
/-- sorted of a list of ints -/
theorem xe_sortL {ns ms : List Int} (hm : X.mg "sorted" = none) (h : XE M Γ Rs X a (PD X.K (.list (li ns)))) (hz : ns.length < 64) (hs : ∀ ns' : List Int, ns'.Perm ns → ns'.Pairwise (· ≤ ·) → ns' = ms) (hg : Gl X "sorted" := by rfl) (he : starEach [a] X.env = (false, eval a X.env) :: starEach [] X.env := by rfl) :
    XE M Γ Rs X (.Call (.Name "sorted" p) [a] [] pos) (PD X.K (.list (li ms))) :=
  xe_callB cr_sorted hm (by decide +kernel) (xa_1 h he) (fun xs H0 H hx e _ => by
    obtain ⟨x, e1, q, ys, e2, h1, h2⟩ := da1 hx
    have e3 := h2.ints
    subst e1 e2 e3
    exact Yld.newL e (DdAll.of_ints ms) fun Q k => ⟨q, ns, rfl, SqL.of (e _ _ h1), hz, fun ns' p hp hw hn => by rw [hs ns' hp hw]; exact k p hn⟩) hg (by decide) (by decide) he rfl
theorem rgV_eq (n : Int) : rgV 0 n = (rgI 0 n.toNat).map V.int := by
  unfold rgV rgI
  rw [List.map_map, Int.sub_zero]
  rfl
theorem xe_listRg {n : Int} {p2 pos2 : Pos} (hm : X.mg "list" = none) (hm2 : X.mg "range" = none) (h : XE M Γ Rs X a (PD X.K (.int n))) (hn : 0 ≤ n ∧ n ≤ 1000000) (hc : X.calm = true := by rfl) (hg : Gl X "list" := by rfl) (hg2 : Gl X "range" := by rfl) (he : starEach [a] X.env = (false, eval a X.env) :: starEach [] X.env := by rfl)
    (he2 : starEach [.Call (.Name "range" p2) [a] [] pos2] X.env = (false, eval (.Call (.Name "range" p2) [a] [] pos2) X.env) :: starEach [] X.env := by rfl) : XE M Γ Rs X (.Call (.Name "list" p) [.Call (.Name "range" p2) [a] [] pos2] [] pos) (PD X.K (.list (li (rgI 0 n.toNat)))) :=
  YE.wp (pe_listRg hc hg hm (prg_1 hg2 hm2 pe_wp he) he2) fun σ H0 H l e k Q q => h σ H0 H l e k _ fun v H1 G1 s1 k1 hv => ⟨n, hv, RgOk.of_le (by omega) (by omega) (by omega) (by omega), fun d hd => by
    rw [rgV_eq]
    exact q _ (upd H1 d (.lst ((rgI 0 n.toNat).map V.int))) _ (s1.trans (Step.new s1.le hd)) (k1.step0 (Step.new s1.le hd)) ⟨d, _, rfl, upd_same, DdAll.of_ints _⟩⟩
theorem xe_tupRg {n : Int} {p2 pos2 : Pos} (hm : X.mg "tuple" = none) (hm2 : X.mg "range" = none) (h : XE M Γ Rs X a (PD X.K (.int n))) (hn : 0 ≤ n ∧ n ≤ 1000000) (hc : X.calm = true := by rfl) (hg : Gl X "tuple" := by rfl) (hg2 : Gl X "range" := by rfl) (he : starEach [a] X.env = (false, eval a X.env) :: starEach [] X.env := by rfl)
    (he2 : starEach [.Call (.Name "range" p2) [a] [] pos2] X.env = (false, eval (.Call (.Name "range" p2) [a] [] pos2) X.env) :: starEach [] X.env := by rfl) : XE M Γ Rs X (.Call (.Name "tuple" p) [.Call (.Name "range" p2) [a] [] pos2] [] pos) (PD X.K (.tuple (li (rgI 0 n.toNat)))) :=
  YE.wp (pe_tupRg hc hg hm (prg_1 hg2 hm2 pe_wp he) he2) fun σ H0 H l e k Q q => h σ H0 H l e k _ fun v H1 G1 s1 k1 hv => ⟨n, hv, RgOk.of_le (by omega) (by omega) (by omega) (by omega), fun d hd => by
    rw [rgV_eq]
    exact q _ (upd H1 d (.tup ((rgI 0 n.toNat).map V.int))) _ (s1.trans (Step.new s1.le hd)) (k1.step0 (Step.new s1.le hd)) ⟨d, _, rfl, SqT.of upd_same, DdAll.of_ints _⟩⟩
end
end Lh
namespace Lh
open PySem L2
open Evl (Ex ex_l ex_t ex_rd fresh_back)
section
variable {M : Addr → Prop} {Γ Γ' : Ct} {Rs : List Res} {X : Cx} {Z0 Z Hl : Hp} {D : Ends} {K : PySem.W.Frag} {rest : List Stmt} {a b c : Expr} {pos p : Pos} {i j k : Int}
theorem YT.is {t : TT} {B : Bool → Prop} {v : Bool} (h : YT M Γ Rs t B) (e : ∀ b, B b → b = v) : YT M Γ Rs t (Is v) := h.imp e
theorem xt_truT {ds : List PyData} (h : XE M Γ Rs X a (PD X.K (.tuple ds))) (he : ∀ whole, isTrue a X.env whole = (do let v ← whole; standAt a.pos; holding [v] (truthy v)) := by intro _; rfl) : XT M Γ Rs X a (Is (!ds.isEmpty)) := YT.wp (pt_truth pe_wp he) fun σ H0 H l e k Q q =>
  h σ H0 H l e k _ fun v H1 G1 s1 k1 ⟨a, xs, e1, h1, h2⟩ => by
    subst e1
    refine ⟨!xs.isEmpty, .inr (.inl ⟨xs, ex_t s1.le h1, rfl⟩), q _ H1 G1 s1 k1 ?_⟩
    have := h2.len
    cases xs <;> cases ds <;> simp at this ⊢
theorem xt_truL {ds : List PyData} (h : XE M Γ Rs X a (PD X.K (.list ds))) (he : ∀ whole, isTrue a X.env whole = (do let v ← whole; standAt a.pos; holding [v] (truthy v)) := by intro _; rfl) : XT M Γ Rs X a (Is (!ds.isEmpty)) := YT.wp (pt_truth pe_wp he) fun σ H0 H l e k Q q =>
  h σ H0 H l e k _ fun v H1 G1 s1 k1 ⟨a, xs, e1, h1, h2⟩ => by
    subst e1
    refine ⟨!xs.isEmpty, .inl ⟨xs, SqL.of (s1.le _ _ h1), rfl⟩, q _ H1 G1 s1 k1 ?_⟩
    have := h2.len
    cases xs <;> cases ds <;> simp at this ⊢
theorem xt_bool {u : Bool} (h : XE M Γ Rs X a (PD K (.bool u))) (he : ∀ whole, isTrue a X.env whole = (do let v ← whole; standAt a.pos; holding [v] (truthy v)) := by intro _; rfl) : XT M Γ Rs X a (Is u) := xt_val (K := K) h.pb he
theorem xt_lele {v : Int} (ha : XE M Γ Rs X a (PD K (.int i))) (hb : XE M Γ Rs X b (PD K (.int j))) (hc : XE M Γ Rs X c (PD K (.int v))) (hm : lastMarks [.LtE, .LtE] [b, c] = false := by with_unfolding_all rfl) : XT M Γ Rs X (.Compare a [.LtE, .LtE] [b, c] pos) (Is (decide (i ≤ j) && decide (j ≤ v))) :=
  (xt_chain (K := K) op_le op_le ha hb (fun x y H0 H hx hy e _ => (yl_I0 (g := fun i j => .bl (decide (i ≤ j))) (d := .bool (decide (i ≤ j))) (fun _ => rfl) hx hy e).pb) (fun _ => hc) (fun _ x y H0 H hx hy e _ => (yl_I0 (g := fun i j => .bl (decide (i ≤ j))) (d := .bool (decide (j ≤ v))) (fun _ => rfl) hx hy e).pb) hm).imp fun b hb => by
    rcases hb with ⟨h, rfl⟩ | ⟨h, h'⟩
    · show false = _
      rw [← h]
      rfl
    · show b = _
      rw [← h, Bool.true_and]
      exact h'
theorem xt_lelt {v : Int} (ha : XE M Γ Rs X a (PD K (.int i))) (hb : XE M Γ Rs X b (PD K (.int j))) (hc : XE M Γ Rs X c (PD K (.int v))) (hm : lastMarks [.LtE, .Lt] [b, c] = false := by with_unfolding_all rfl) : XT M Γ Rs X (.Compare a [.LtE, .Lt] [b, c] pos) (Is (decide (i ≤ j) && decide (j < v))) :=
  (xt_chain (K := K) op_le op_lt ha hb (fun x y H0 H hx hy e _ => (yl_I0 (g := fun i j => .bl (decide (i ≤ j))) (d := .bool (decide (i ≤ j))) (fun _ => rfl) hx hy e).pb) (fun _ => hc) (fun _ x y H0 H hx hy e _ => (yl_I0 (g := fun i j => .bl (decide (i < j))) (d := .bool (decide (j < v))) (fun _ => rfl) hx hy e).pb) hm).imp fun b hb => by
    rcases hb with ⟨h, rfl⟩ | ⟨h, h'⟩
    · show false = _
      rw [← h]
      rfl
    · show b = _
      rw [← h, Bool.true_and]
      exact h'
theorem xe_lele {v : Int} (ha : XE M Γ Rs X a (PD K (.int i))) (hb : XE M Γ Rs X b (PD K (.int j))) (hc : XE M Γ Rs X c (PD K (.int v))) (hm : lastMarks [.LtE, .LtE] [b, c] = false := by with_unfolding_all rfl) : XE M Γ Rs X (.Compare a [.LtE, .LtE] [b, c] pos) (PD K (.bool (decide (i ≤ j) && decide (j ≤ v)))) :=
  (xe_chain (K := K) op_le op_le ha hb (fun x y H0 H hx hy e _ => (yl_I0 (g := fun i j => .bl (decide (i ≤ j))) (d := .bool (decide (i ≤ j))) (fun _ => rfl) hx hy e).pb) (fun _ => hc) (fun _ x y H0 H hx hy e _ => (yl_I0 (g := fun i j => .bl (decide (i ≤ j))) (d := .bool (decide (j ≤ v))) (fun _ => rfl) hx hy e).pb) hm).imp fun z H ⟨b, hb, hz⟩ => by
    have e : b = (decide (i ≤ j) && decide (j ≤ v)) := by
      rcases hb with ⟨h, rfl⟩ | ⟨h, h'⟩
      · show false = _
        rw [← h]
        rfl
      · show b = _
        rw [← h, Bool.true_and]
        exact h'
    rw [← e]
    exact hz
/-- and, or, not of tests whose answers are told -/
theorem xt_andB {u v : Bool} (h : XT M Γ Rs X a (Is u)) (h' : u = true → XT M Γ Rs X b (Is v)) : XT M Γ Rs X (.BoolOp .And [a, b] pos) (Is (u && v)) := (xt_and h fun z => h' z.symm).imp fun b hb => by
  rcases hb with ⟨h, rfl⟩ | ⟨h, h'⟩
  · show false = _
    rw [← h]
    rfl
  · show b = _
    rw [← h, Bool.true_and]
    exact h'
theorem xt_orB {u v : Bool} (h : XT M Γ Rs X a (Is u)) (h' : u = false → XT M Γ Rs X b (Is v)) : XT M Γ Rs X (.BoolOp .Or [a, b] pos) (Is (u || v)) := (xt_or h fun z => h' z.symm).imp fun b hb => by
  rcases hb with ⟨h, rfl⟩ | ⟨h, h'⟩
  · show true = _
    rw [← h]
    rfl
  · show b = _
    rw [← h, Bool.false_or]
    exact h'
theorem xt_notB {u : Bool} (h : XT M Γ Rs X a (Is u)) : XT M Γ Rs X (.UnaryOp .Not a pos) (Is (!u)) := (xt_not h).imp fun b hb => by
  have e : (!b) = u := hb
  show b = !u
  rw [← e, Bool.not_not]
theorem xe_andB {u v : Bool} (h : XE M Γ Rs X a (PD K (.bool u))) (h' : u = true → XE M Γ Rs X b (PD K (.bool v))) : XE M Γ Rs X (.BoolOp .And [a, b] pos) (PD K (.bool (u && v))) := (xe_and h.pb fun z => (h' z.symm).pb).imp fun z H ⟨b, hb, hz⟩ => by
  have e : b = (u && v) := by
    rcases hb with ⟨h, rfl⟩ | ⟨h, h'⟩
    · show false = _
      rw [← h]
      rfl
    · show b = _
      rw [← h, Bool.true_and]
      exact h'
  rw [← e]
  exact hz
theorem xe_orB {u v : Bool} (h : XE M Γ Rs X a (PD K (.bool u))) (h' : u = false → XE M Γ Rs X b (PD K (.bool v))) : XE M Γ Rs X (.BoolOp .Or [a, b] pos) (PD K (.bool (u || v))) := (xe_or h.pb fun z => (h' z.symm).pb).imp fun z H ⟨b, hb, hz⟩ => by
  have e : b = (u || v) := by
    rcases hb with ⟨h, rfl⟩ | ⟨h, h'⟩
    · show true = _
      rw [← h]
      rfl
    · show b = _
      rw [← h, Bool.false_or]
      exact h'
  rw [← e]
  exact hz
theorem xe_not {u : Bool} (h : XE M Γ Rs X a (PD K (.bool u))) : XE M Γ Rs X (.UnaryOp .Not a pos) (PD K (.bool (!u))) := (xe_notB h.pb).imp fun z H ⟨b, hb, hz⟩ => by
  have e : (!b) = u := hb
  have e2 : b = !u := by rw [← e, Bool.not_not]
  rw [← e2]
  exact hz
/-- an answer that is known -/
theorem YT.eq {t : TT} {u v : Bool} (h : YT M Γ Rs t (Is u)) (e : u = v) : YT M Γ Rs t (Is v) := e ▸ h
theorem wk_enumT {a : Addr} {xs : List V} {ds : List PyData} {H0 : Hp} (h : SqT K H0 a xs) (hd : DdAll K H0 ds xs) : Wk (LhS.IteT K a) ((List.range ds.length).zipWith (fun i d => PT2 K (PD K (.int (i : Nat))) (PD K d)) ds) H0 := fun H0' H e e' i => by
  refine ⟨fun Q q => ?_, fun q => ⟨xs, ex_t (e.trans e') h, by rw [hd.len]; simpa using q⟩⟩
  have hlt : i < ds.length := by
    have := (List.getElem?_eq_some_iff.mp q).1
    simpa using this
  have e1 : PT2 K (PD K (.int (i : Nat))) (PD K ds[i]) = Q := by
    simpa [List.getElem?_zipWith, hlt] using q
  subst e1
  obtain ⟨v, h1, h2⟩ := hd.get (List.getElem?_eq_getElem hlt)
  refine ⟨⟨xs, v, ex_t (e.trans e') h, h1⟩, fun x H' ⟨T, y, y1, y2, y3, y4⟩ => ?_⟩
  have e2 : y = v := Option.some.inj ((y4 xs (ex_t (e.trans e') h)).symm.trans h1)
  subst e2 y1 y3
  exact ⟨upd H0' T (.tup [.int (i : Nat), y]), Step.new e' y2, T, _, _, rfl, SqT.of upd_same, rfl, Dd.ex (e.trans (Ex.new (fresh_back e' y2))) _ _ h2⟩
theorem xi_enumT {e : Expr} {p pos tpos : Pos} {elts : List Expr} {kk : Nat} {ds : List PyData} (hm : X.mg "enumerate" = none) (h : XE M Γ Rs X e (PD X.K (.tuple ds))) (hg : Gl X "enumerate" := by rfl) (hs : starEach [e] X.env = [(false, eval e X.env)] := by rfl) :
    XI M Γ Rs X (.Tuple elts kk tpos) (.Call (.Name "enumerate" p) [e] [] pos) ((List.range ds.length).zipWith (fun i d => PT2 X.K (PD X.K (.int (i : Nat))) (PD X.K d)) ds) := fun σ H0 H l ex k R r => PI.wp (LhS.pi_enumT hg hm pa_wp hs) ((xa_1 h (by exact hs)) σ H0 H l ex k _ fun vs H1 G1 s1 k1 a1 => by
  obtain ⟨v, e1, a, xs, e3, h3, h4⟩ := da1 a1
  subst e1 e3
  exact ⟨a, xs, rfl, ex_t s1.le h3, r _ H1 G1 s1 k1 (wk_enumT h3 h4)⟩)
/-- what an enumerate gives at turn t -/
theorem enum_at {ds : List PyData} {t : Nat} {Q : Pd} (h : ((List.range ds.length).zipWith (fun i d => PT2 K (PD K (.int (i : Nat))) (PD K d)) ds)[t]? = some Q) : ∃ d, ds[t]? = some d ∧ Q = PT2 K (PD K (.int (t : Nat))) (PD K d) := by
  have hlt : t < ds.length := by
    have := (List.getElem?_eq_some_iff.mp h).1
    simpa using this
  refine ⟨ds[t], List.getElem?_eq_getElem hlt, ?_⟩
  have : PT2 K (PD K (.int (t : Nat))) (PD K ds[t]) = Q := by simpa [List.getElem?_zipWith, hlt] using h
  exact this.symm
theorem zip_at {ds es : List PyData} {t : Nat} {Q : Pd} (h : (ds.zipWith (fun d e => PT2 K (PD K d) (PD K e)) es)[t]? = some Q) : ∃ d e, ds[t]? = some d ∧ es[t]? = some e ∧ Q = PT2 K (PD K d) (PD K e) := by
  have hlt : t < ds.length ∧ t < es.length := by
    have := (List.getElem?_eq_some_iff.mp h).1
    rw [List.length_zipWith] at this
    omega
  refine ⟨ds[t]'hlt.1, es[t]'hlt.2, List.getElem?_eq_getElem hlt.1, List.getElem?_eq_getElem hlt.2, ?_⟩
  have : PT2 K (PD K (ds[t]'hlt.1)) (PD K (es[t]'hlt.2)) = Q := by simpa [List.getElem?_zipWith, hlt.1, hlt.2] using h
  exact this.symm
theorem map_at {ds : List PyData} {t : Nat} {Q : Pd} (h : (ds.map (PD K))[t]? = some Q) : ∃ d, ds[t]? = some d ∧ Q = PD K d := by
  rw [List.getElem?_map] at h
  cases e : ds[t]? with
  | none =>
    rw [e] at h
    cases h
  | some d =>
    rw [e] at h
    exact ⟨d, rfl, (Option.some.inj h).symm⟩
theorem li_at {ns : List Int} {t : Nat} {d : PyData} (h : (li ns)[t]? = some d) : ∃ n, ns[t]? = some n ∧ d = .int n := by
  rw [List.getElem?_map] at h
  cases e : ns[t]? with
  | none =>
    rw [e] at h
    cases h
  | some n =>
    rw [e] at h
    exact ⟨n, rfl, (Option.some.inj h).symm⟩
theorem rgI_at {lo : Int} {n t : Nat} {m : Int} (h : (rgI lo n)[t]? = some m) : t < n ∧ m = lo + (t : Int) := by
  have hlt : t < n := by
    have := (List.getElem?_eq_some_iff.mp h).1
    simpa [rgI] using this
  refine ⟨hlt, ?_⟩
  have : lo + (t : Int) = m := by simpa [rgI, hlt] using h
  exact this.symm
theorem rgI_len {lo : Int} {n : Nat} : (rgI lo n).length = n := by simp [rgI]

/-! ### pure comprehensions -/
/-- [f x for x in xs] -/
theorem xe_map (j : Nat) {x : Str} {elt iter : Expr} {scope : Scope} {pos xp : Pos} {ds : List PyData} (f : PyData → PyData) (hi : XI M Γ Rs X (.Name x xp) iter (ds.map (PD X.K))) (ht : ∀ d, d ∈ ds → Blk X scope fun Y => XE M (blkG Γ j (PD X.K d)) Rs Y elt (PD X.K (f d)))
    (hN : X.N.Nodup) (ok : BlkOk X.N X.env.scope scope [(x, j)]) (hz : ds.length ≤ 100000) (cv : Cov M Rs) (hg : BlkG X scope x xp j) (hc : X.calm = true := by rfl) (hs : ∀ x, foldedSetIterable iter X.env x = pure x := by intro _; rfl) :
    XE M Γ Rs X (.ListComp elt [⟨.Name x xp, iter, [], 0⟩] scope pos) (PD X.K (.list (ds.map f))) :=
  (xe_lc (K := X.K) j hi (fun i es => es = (ds.take i).map f) rfl (fun i Q hq => by
    obtain ⟨d, hd, e⟩ := map_at hq
    subst e
    intro s0 H0 C cl fp
    refine YE.imp (ht d (List.mem_of_getElem? hd) s0 H0 C cl fp) fun v H h => ⟨f d, fun es _ he => ?_, h⟩
    dsimp only at he ⊢
    rw [he, List.take_add_one, hd]
    simp) hN ok (by rw [List.length_map]; exact hz) cv hg hc hs).imp fun v H ⟨es, ⟨h1, _⟩, h2⟩ => by
    rw [List.length_map, List.take_length] at h1
    subst h1
    exact h2
/-- [f x for x in xs if t x] -/
theorem xe_filt (j : Nat) {x : Str} {elt iter c : Expr} {scope : Scope} {pos xp : Pos} {ds : List PyData} (f : PyData → PyData) (t : PyData → Bool) (hi : XI M Γ Rs X (.Name x xp) iter (ds.map (PD X.K))) (hc' : ∀ d, d ∈ ds → Blk X scope fun Y => XT M (blkG Γ j (PD X.K d)) Rs Y c (Is (t d)))
    (ht : ∀ d, d ∈ ds → t d = true → Blk X scope fun Y => XE M (blkG Γ j (PD X.K d)) Rs Y elt (PD X.K (f d)))
    (hN : X.N.Nodup) (ok : BlkOk X.N X.env.scope scope [(x, j)]) (hz : ds.length ≤ 100000) (cv : Cov M Rs) (hg : BlkG X scope x xp j) (hc : X.calm = true := by rfl) (hs : ∀ x, foldedSetIterable iter X.env x = pure x := by intro _; rfl) :
    XE M Γ Rs X (.ListComp elt [⟨.Name x xp, iter, [c], 0⟩] scope pos) (PD X.K (.list ((ds.filter t).map f))) :=
  (xe_lcIf (K := X.K) j hi (fun i es => es = ((ds.take i).filter t).map f) rfl (fun i Q hq => by
    obtain ⟨d, hd, e⟩ := map_at hq
    subst e
    have hm := List.mem_of_getElem? hd
    refine ⟨Is (t d), hc' d hm, fun hb s0 H0 C cl fp => ?_, fun hb es he => ?_⟩
    · refine YE.imp (ht d hm hb.symm s0 H0 C cl fp) fun v H h => ⟨f d, fun es _ he => ?_, h⟩
      dsimp only at he ⊢
      rw [he, List.take_add_one, hd]
      simp [← hb]
    · dsimp only at he ⊢
      rw [he, List.take_add_one, hd]
      simp [← hb]) hN ok (by rw [List.length_map]; exact hz) cv hg hc hs).imp fun v H ⟨es, ⟨h1, _⟩, h2⟩ => by
    rw [List.length_map, List.take_length] at h1
    subst h1
    exact h2

/-! ### slices -/
theorem cut_dd {H : Hp} {ds : List PyData} {xs : List V} (h : DdAll K H ds xs) (lo hi : Option Int) : DdAll K H ((ds.drop (HT.sIx ds.length 0 lo)).take (HT.sIx ds.length ds.length hi - HT.sIx ds.length 0 lo)) (cutV xs lo hi) := by
  unfold cutV
  rw [h.len]
  exact (h.drop _).take _
def YO (M : Addr → Prop) (Γ : Ct) (Rs : List Res) (t : TO) (o : Option Int) : Prop := ∀ (σ : L2.St) (H0 H : Hp), Sl Γ σ H0 → Ex H0 H → Rok Rs H0 H → ∀ Q : Option Int → Hp → Prop, (∀ H0' H', Step M H0 H H0' H' → Rok Rs H0' H' → Q o H') → t σ H Q
theorem yo_none : YO M Γ Rs tNoPart none := fun σ H0 H l e k Q q => q H0 H (Step.rfl e) k
theorem yo_some {t : TE} (h : YE M Γ Rs t (PD K (.int i))) : YO M Γ Rs (tPart t) (some i) := fun σ H0 H l e k Q q => h σ H0 H l e k _ fun v H1 G1 s1 k1 hv => ⟨i, hv, q H1 G1 s1 k1⟩
theorem ye_slL {te : TE} {tl th : TO} {ds : List PyData} {lo hi : Option Int} (h : YE M Γ Rs te (PD K (.list ds))) (hl : YO M Γ Rs tl lo) (hh : YO M Γ Rs th hi) : YE M Γ Rs (tSl (rSlL K) te tl th) (PD K (.list ((ds.drop (HT.sIx ds.length 0 lo)).take (HT.sIx ds.length ds.length hi - HT.sIx ds.length 0 lo)))) := fun σ H0 H l e k Q q =>
  h σ H0 H l e k _ fun v H1 G1 s1 k1 ⟨a, xs, e1, h1, h2⟩ => hl σ H1 G1 (l.ex s1.ex) s1.le k1 _ fun H2 G2 s2 k2 => hh σ H2 G2 (l.ex (s1.ex.trans s2.ex)) s2.le k2 _ fun H3 G3 s3 k3 => ⟨a, xs, e1, SqL.of ((s2.trans s3).le _ _ ((s2.trans s3).ex _ _ h1)), fun p hp => by
    have s := (s1.trans s2).trans s3
    exact q _ _ _ (s.trans (Step.new s.le hp)) (k3.step0 (Step.new s.le hp)) ⟨p, _, rfl, upd_same, DdAll.ex ((s2.ex.trans s3.ex).trans (Ex.new (fresh_back s.le hp))) _ _ (cut_dd h2 lo hi)⟩⟩
theorem ye_slT {te : TE} {tl th : TO} {ds : List PyData} {lo hi : Option Int} (h : YE M Γ Rs te (PD K (.tuple ds))) (hl : YO M Γ Rs tl lo) (hh : YO M Γ Rs th hi) : YE M Γ Rs (tSl (rSlA K) te tl th) (PD K (.tuple ((ds.drop (HT.sIx ds.length 0 lo)).take (HT.sIx ds.length ds.length hi - HT.sIx ds.length 0 lo)))) := fun σ H0 H l e k Q q =>
  h σ H0 H l e k _ fun v H1 G1 s1 k1 ⟨a, xs, e1, h1, h2⟩ => hl σ H1 G1 (l.ex s1.ex) s1.le k1 _ fun H2 G2 s2 k2 => hh σ H2 G2 (l.ex (s1.ex.trans s2.ex)) s2.le k2 _ fun H3 G3 s3 k3 => by
    have s := (s1.trans s2).trans s3
    have h3 : SqT K H3 a xs := ex_t (s2.ex.trans s3.ex) h1
    have len := h2.len
    refine ⟨a, xs, e1, ex_t s.le h3, fun ⟨z1, z2⟩ => ?_, fun _ p hp => ?_⟩
    · refine q _ H3 G3 s k3 ⟨a, xs, rfl, h3, ?_⟩
      rw [len] at z1 z2
      rw [z1, z2, List.drop_zero, Nat.sub_zero, List.take_length]
      exact DdAll.ex (s2.ex.trans s3.ex) _ _ h2
    · exact q _ _ _ (s.trans (Step.new s.le hp)) (k3.step0 (Step.new s.le hp)) ⟨p, _, rfl, SqT.of upd_same, DdAll.ex ((s2.ex.trans s3.ex).trans (Ex.new (fresh_back s.le hp))) _ _ (cut_dd h2 lo hi)⟩
/-- xs[a:b], t[a:b] with 0 <= a <= b; t[a:], t[:b] -/
theorem sIx_int {n : Nat} {d : Nat} {i : Int} (h : 0 ≤ i) : HT.sIx n d (some i) = min i.toNat n := by
  unfold HT.sIx
  have e : ¬ i < 0 := by omega
  simp only [e, if_false]
theorem cut_eq {α : Type} (ds : List α) {x y : Int} (hx : 0 ≤ x) (hy : 0 ≤ y) : (ds.drop (HT.sIx ds.length 0 (some x))).take (HT.sIx ds.length ds.length (some y) - HT.sIx ds.length 0 (some x)) = (ds.drop x.toNat).take (y.toNat - x.toNat) := by
  rw [sIx_int hx, sIx_int hy]
  by_cases h : x.toNat ≤ ds.length
  · rw [Nat.min_eq_left h]
    by_cases h2 : y.toNat ≤ ds.length
    · rw [Nat.min_eq_left h2]
    · rw [Nat.min_eq_right (by omega), List.take_of_length_le (by simp), List.take_of_length_le (by simp; omega)]
  · rw [show min x.toNat ds.length = ds.length from Nat.min_eq_right (by omega), List.drop_length, List.drop_of_length_le (show ds.length ≤ x.toNat by omega)]
    simp
theorem cut_eq1 {α : Type} (ds : List α) {x : Int} (hx : 0 ≤ x) : (ds.drop (HT.sIx ds.length 0 (some x))).take (HT.sIx ds.length ds.length none - HT.sIx ds.length 0 (some x)) = ds.drop x.toNat := by
  rw [sIx_int hx, HT.sIx_none]
  by_cases h : x.toNat ≤ ds.length
  · rw [List.take_of_length_le (by simp), Nat.min_eq_left h]
  · rw [Nat.min_eq_right (by omega), List.drop_length, List.drop_of_length_le (by omega)]
    simp
theorem cut_eq2 {α : Type} (ds : List α) {y : Int} (hy : 0 ≤ y) : (ds.drop (HT.sIx ds.length 0 none)).take (HT.sIx ds.length ds.length (some y) - HT.sIx ds.length 0 none) = ds.take y.toNat := by
  rw [sIx_int hy, HT.sIx_none, List.drop_zero, Nat.sub_zero]
  by_cases h2 : y.toNat ≤ ds.length
  · rw [Nat.min_eq_left h2]
  · rw [Nat.min_eq_right (by omega), List.take_length, List.take_of_length_le (by omega)]
variable {p2 : Pos}
theorem xe_slT2 {ds : List PyData} (h : XE M Γ Rs X a (PD X.K (.tuple ds))) (hl : XE M Γ Rs X b (PD X.K (.int i))) (hh : XE M Γ Rs X c (PD X.K (.int j))) (h0 : 0 ≤ i) (h1 : 0 ≤ j) : XE M Γ Rs X (.Subscript a (.Slice (some b) (some c) none p2) pos) (PD X.K (.tuple ((ds.drop i.toNat).take (j.toNat - i.toNat)))) :=
  (YE.wp (pe_slice sl_tupA pe_wp (po_some pe_wp) (po_some pe_wp)) (ye_slT h (yo_some hl) (yo_some hh))).to (by rw [cut_eq ds h0 h1])
theorem xe_slL2 {ds : List PyData} (h : XE M Γ Rs X a (PD X.K (.list ds))) (hl : XE M Γ Rs X b (PD X.K (.int i))) (hh : XE M Γ Rs X c (PD X.K (.int j))) (h0 : 0 ≤ i) (h1 : 0 ≤ j) : XE M Γ Rs X (.Subscript a (.Slice (some b) (some c) none p2) pos) (PD X.K (.list ((ds.drop i.toNat).take (j.toNat - i.toNat)))) :=
  (YE.wp (pe_slice sl_list pe_wp (po_some pe_wp) (po_some pe_wp)) (ye_slL h (yo_some hl) (yo_some hh))).to (by rw [cut_eq ds h0 h1])
theorem xe_slTa {ds : List PyData} (h : XE M Γ Rs X a (PD X.K (.tuple ds))) (hl : XE M Γ Rs X b (PD X.K (.int i))) (h0 : 0 ≤ i) : XE M Γ Rs X (.Subscript a (.Slice (some b) none none p2) pos) (PD X.K (.tuple (ds.drop i.toNat))) :=
  (YE.wp (pe_slice sl_tupA pe_wp (po_some pe_wp) po_none) (ye_slT h (yo_some hl) yo_none)).to (by rw [cut_eq1 ds h0])
theorem xe_slLa {ds : List PyData} (h : XE M Γ Rs X a (PD X.K (.list ds))) (hl : XE M Γ Rs X b (PD X.K (.int i))) (h0 : 0 ≤ i) : XE M Γ Rs X (.Subscript a (.Slice (some b) none none p2) pos) (PD X.K (.list (ds.drop i.toNat))) :=
  (YE.wp (pe_slice sl_list pe_wp (po_some pe_wp) po_none) (ye_slL h (yo_some hl) yo_none)).to (by rw [cut_eq1 ds h0])
theorem xe_slTb {ds : List PyData} (h : XE M Γ Rs X a (PD X.K (.tuple ds))) (hl : XE M Γ Rs X b (PD X.K (.int i))) (h0 : 0 ≤ i) : XE M Γ Rs X (.Subscript a (.Slice none (some b) none p2) pos) (PD X.K (.tuple (ds.take i.toNat))) :=
  (YE.wp (pe_slice sl_tupA pe_wp po_none (po_some pe_wp)) (ye_slT h yo_none (yo_some hl))).to (by rw [cut_eq2 ds h0])
theorem xe_slLb {ds : List PyData} (h : XE M Γ Rs X a (PD X.K (.list ds))) (hl : XE M Γ Rs X b (PD X.K (.int i))) (h0 : 0 ≤ i) : XE M Γ Rs X (.Subscript a (.Slice none (some b) none p2) pos) (PD X.K (.list (ds.take i.toNat))) :=
  (YE.wp (pe_slice sl_list pe_wp po_none (po_some pe_wp)) (ye_slL h yo_none (yo_some hl))).to (by rw [cut_eq2 ds h0])
theorem xe_revL {ds : List PyData} {kq : Nat} {q1 q2 q3 : Pos} (h : XE M Γ Rs X a (PD X.K (.list ds))) : XE M Γ Rs X (.Subscript a (.Slice none none (some (.UnaryOp .USub (.Constant (.int 1) kq q1) q2)) q3) pos) (PD X.K (.list ds.reverse)) := YE.wp (pe_revL pe_wp) fun σ H0 H l e k Q q =>
  h σ H0 H l e k _ fun v H1 G1 s1 k1 ⟨a, xs, e1, h1, h2⟩ => ⟨a, xs, e1, SqL.of (s1.le _ _ h1), fun p hp => q _ _ _ (s1.trans (Step.new s1.le hp)) (k1.step0 (Step.new s1.le hp)) ⟨p, _, rfl, upd_same, DdAll.ex (Ex.new (fresh_back s1.le hp)) _ _ h2.rev⟩⟩

/-! ### lists at hand -/
/-- a list that was made here is a thing like any other from now on -/
theorem xs_frz (i : Nat) {q : Addr} {ds : List PyData} (hi : Γ[i]? = some (some (PV (.ref q)))) (h : XS M (Γ.set i (some (PD X.K (.list ds)))) Rs X Z0 Z Hl D rest) : XS M Γ (Res.lst Z q (ds.map (PD X.K)) :: Rs) X Z0 Z Hl D rest := fun σ H0 H l s b k => by
  obtain ⟨hz, h0, xs, hq, hd⟩ := k.2 _ List.mem_cons_self
  obtain ⟨v, h1, h2⟩ := l.2 i _ hi
  have e2 : v = .ref q := h2
  subst e2
  have nd := k.1
  rw [List.flatMap_cons, List.nodup_append] at nd
  have ne : ∀ r ∈ Rs, ∀ a ∈ r.ad, a ≠ q := fun r hr a ha e => nd.2.2 q (by simp [Res.lst]) a (List.mem_flatMap.mpr ⟨r, hr, ha⟩) e.symm
  have k2 : Rok Rs (upd H0 q (.lst xs)) H := Rok.updA ⟨nd.2.1, fun r hr => k.2 r (List.mem_cons_of_mem _ hr)⟩ h0 ne
  have x1 : Ex H0 (upd H0 q (.lst xs)) := Ex.new h0
  have l2 : Sl (Γ.set i (some (PD X.K (.list ds)))) (σ.set i (some (.ref q))) (upd H0 q (.lst xs)) := (l.ex x1).set ⟨q, xs, rfl, upd_same, DdAll.ex x1 _ _ hd.dd⟩
  have e3 : σ.set i (some (.ref q)) = σ := by
    have hlt := (List.getElem?_eq_some_iff.mp h1).1
    have := (List.getElem?_eq_some_iff.mp h1).2
    rw [← this]
    exact List.set_getElem_self hlt
  rw [e3] at l2
  refine h σ _ H l2 ⟨s.un, s.th, s.ex.trans x1, fun a o ha => ?_, fun a o ha => ?_⟩ (b.trans x1) k2
  · by_cases e : a = q
    · subst e
      rw [upd_same] at ha
      rw [hq]
      exact ha
    · rw [upd_ne e] at ha
      exact s.le a o ha
  · by_cases e : a = q
    · subst e
      exact .inr hz
    · rw [upd_ne e] at ha
      exact s.nw a o ha
/-- x = [..], a list that will grow -/
theorem xs_newL (i : Nat) {x : Str} {es : List Expr} {ds : List PyData} {pos pos' q : Pos} (h : XA M Γ Rs X es (ds.map (PD X.K))) (hz : ds.length ≤ 1000) (k : ∀ q, XS M (Γ.set i (some (PV (.ref q)))) (Res.lst Z q (ds.map (PD X.K)) :: Rs) X Z0 Z Hl D rest) (cv : Cov M Rs) (hN : X.N.Nodup)
    (hi : X.N[i]? = some x := by rfl) (hx : Loc X.env.scope x := by first | exact Or.inl rfl | exact Or.inr rfl) (hs : swapsWith (.List es q) (some (.Name x pos')) pos.line X.env = pure false := by rfl) (hf : X.fn x = true ∨ X.env.scope.names.lookup x = some .local := by first | exact .inl rfl | exact .inr rfl) :
    XS M Γ Rs X Z0 Z Hl D (.Assign [.Name x pos'] (.List es q) pos :: rest) :=
  xs_cons (ps_set hN hi hx (pe_lst pa_wp) hs hf) fun σ H0 H l s b r => h σ H0 H l s.le r _ fun vs H1 G1 s1 k1 a1 => ⟨by have := a1.1; rw [List.length_map] at this; rw [this]; exact Nat.le_trans hz (by decide), fun p hp => by
    have t := s.trans s1
    have ne : ∀ r ∈ Rs, ∀ a ∈ r.ad, a ≠ p := fun r hr a ha e => by
      obtain ⟨⟨o, h1⟩, _⟩ := r.tr (k1.2 r hr) a ha
      rw [e, hp] at h1
      cases h1
    have hZ : Z p = none := by
      cases e : Z p with
      | none => rfl
      | some o =>
        obtain ⟨o', h'⟩ := t.th p o e
        rw [hp] at h'
        cases h'
    refine k p _ H1 _ ((l.ex s1.ex).set (P := PV (.ref p)) rfl) ⟨fun a o hm ha => ?_, fun a o ha => ?_, t.ex, fun a o ha => ?_, t.nw⟩ (b.trans s1.ex) ⟨?_, fun r hr => ?_⟩
    · rw [upd_ne (ne_of_none ha hZ)]
      exact t.un a o hm ha
    · obtain ⟨o', h'⟩ := t.th a o ha
      exact ⟨o', by rw [upd_ne (ne_of_none h' hp)]; exact h'⟩
    · rw [upd_ne (ne_of_none (t.le a o ha) hp)]
      exact t.le a o ha
    · rw [List.flatMap_cons, List.nodup_append]
      refine ⟨by simp [Res.lst], k1.1, fun a ha c hc e => ?_⟩
      have e1 : a = p := by simpa [Res.lst] using ha
      obtain ⟨r, hr, hc⟩ := List.mem_flatMap.mp hc
      exact ne r hr c hc (e ▸ e1)
    · obtain e | hr := List.mem_cons.mp hr
      · subst e
        exact ⟨hZ, fresh_back s1.le hp, vs, upd_same, a1⟩
      · exact (k1.wr ne).2 r hr⟩
/-- x.append(e) -/
theorem xs_app {q : Addr} {o e : Expr} {Ps : List Pd} {P : Pd} {pos cpos apos : Pos} (ho : XE M Γ (Res.lst Z q Ps :: Rs) X o (PV (.ref q))) (he : XE M Γ (Res.lst Z q Ps :: Rs) X e P) (hz : Ps.length < 1000000) (k : XS M Γ (Res.lst Z q (Ps ++ [P]) :: Rs) X Z0 Z Hl D rest) 
    (hpe : PE X (.Call (.Attribute o "append" apos) [e] [] cpos) (tBM X.K "list" rAppend (wpE X o) (tCons (wpE X e) tNil))) (hs : swapsWith (.Call (.Attribute o "append" apos) [e] [] cpos) none pos.line X.env = pure false := by rfl) : XS M Γ (Res.lst Z q Ps :: Rs) X Z0 Z Hl D (.Expr (.Call (.Attribute o "append" apos) [e] [] cpos) pos :: rest) :=
  xs_cons (ps_expr hpe hs) fun σ H0 H l s b r => ho σ H0 H l s.le r _ fun v H1 G1 s1 k1 hv => by
    have hv' : v = .ref q := hv
    subst hv'
    obtain ⟨_, _, xs1, hq1, _⟩ := k1.2 _ List.mem_cons_self
    refine ⟨.inl ⟨rfl, xs1, SqL.of hq1⟩, ?_⟩
    refine he σ H1 G1 (l.ex s1.ex) s1.le k1 _ fun y H2 G2 s2 k2 hy => ?_
    obtain ⟨hz0, h0, xs, hq, hd⟩ := k2.2 _ List.mem_cons_self
    refine ⟨q, xs, y, rfl, rfl, hq, by rw [hd.1]; exact Nat.lt_of_lt_of_le hz (by decide), ?_⟩
    have t := (s.trans s1).trans s2
    have nd := k2.1
    rw [List.flatMap_cons, List.nodup_append] at nd
    have ne : ∀ r ∈ Rs, ∀ a ∈ r.ad, a ≠ q := fun r hr a ha e => nd.2.2 q (by simp [Res.lst]) a (List.mem_flatMap.mpr ⟨r, hr, ha⟩) e.symm
    have kr : Rok Rs H2 G2 := ⟨nd.2.1, fun r hr => k2.2 r (List.mem_cons_of_mem _ hr)⟩
    refine k _ H2 _ (l.ex (s1.ex.trans s2.ex)) ⟨fun a o hm ha => ?_, fun a o ha => ?_, t.ex, fun a o ha => ?_, t.nw⟩ (b.trans (s1.ex.trans s2.ex)) ⟨k2.1, fun r hr => ?_⟩
    · rw [upd_ne (ne_of_none ha hz0)]
      exact t.un a o hm ha
    · obtain ⟨o', h'⟩ := t.th a o ha
      exact ⟨o', by rw [upd_ne (ne_of_none ha hz0)]; exact h'⟩
    · have na : a ≠ q := fun e => by
        rw [e, h0] at ha
        cases ha
      rw [upd_ne na]
      exact t.le a o ha
    · obtain e | hr := List.mem_cons.mp hr
      · subst e
        exact ⟨hz0, h0, _, upd_same, hd.app (DAll.cons hy DAll.nil)⟩
      · exact (kr.wr ne).2 r hr
end
end Lh
/-! Own classes: objects by their fields, properties, methods, making. -/
namespace Lh
open PySem L2
open Evl (Ex ex_l ex_t ex_rd fresh_back)
/-- the fields fs of vs -/
def Flds (fs : List (Str × Pd)) (vs : List (Str × V)) (H : Hp) : Prop := ∀ f : Str, (∀ P, fs.lookup f = some P → ∃ u, vs.lookup f = some u ∧ P.p u H) ∧ (fs.lookup f = none → vs.lookup f = none)
theorem Flds.ex {fs : List (Str × Pd)} {vs : List (Str × V)} {H H' : Hp} (e : Ex H H') (h : Flds fs vs H) : Flds fs vs H' := fun f => ⟨fun P hP => by
  obtain ⟨u, h1, h2⟩ := (h f).1 P hP
  exact ⟨u, h1, P.m e h2⟩, (h f).2⟩
theorem Flds.put {fs : List (Str × Pd)} {vs : List (Str × V)} {H : Hp} {f : Str} {P : Pd} {v : V} (h : Flds fs vs H) (hv : P.p v H) : Flds ((f, P) :: fs) (putF f v vs) H := fun g => by
  rw [lookup_putF, List.lookup_cons]
  by_cases e : g = f
  · subst e
    simp only [if_true, beq_self_eq_true]
    exact ⟨fun Q hQ => by
      have e2 : P = Q := Option.some.inj hQ
      subst e2
      exact ⟨v, rfl, hv⟩, fun q => by cases q⟩
  · have eb : (g == f) = false := by simpa using e
    rw [eb, if_neg e]
    exact h g
theorem putF_length (f : Str) (v : V) : ∀ vs : List (Str × V), (putF f v vs).length ≤ vs.length + 1
  | [] => Nat.le_refl _
  | (g, x) :: r => by
    unfold putF
    split
    · simp
    · simp only [List.length_cons]
      have := putF_length f v r
      omega
/-- an object of the class at C with these fields -/
def PObj (C : Addr) (fs : List (Str × Pd)) : Pd := ⟨fun v H => ∃ a dx vs, v = .ref a ∧ H a = some (.ins C dx vs) ∧ Flds fs vs H, fun e ⟨a, dx, vs, h1, h2, h3⟩ => ⟨a, dx, vs, h1, e _ _ h2, h3.ex e⟩⟩
/-- .. that is being made -/
def Res.ob (C x dx : Addr) (fs : List (Str × Pd)) : Res where
  ad := [x]
  p := fun H0 H => H0 x = none ∧ ∃ vs, H x = some (.ins C dx vs) ∧ Flds fs vs H0 ∧ vs.length ≤ fs.length
  st := fun {H0 H H0' H'} e n q ⟨h1, vs, h2, h3, h4⟩ => ⟨n x (by simp), vs, by rw [q x (by simp)]; exact h2, h3.ex e, h4⟩
  tr := fun {H0 H} ⟨h1, vs, h2, h3, h4⟩ a ha => by
    have e : a = x := by simpa using ha
    subst e
    exact ⟨⟨_, h2⟩, h1⟩
abbrev MX (x : Addr) : Addr → Prop := fun a => a = x
/-- the promise of an __init__ -/
def SpI {α : Type} (C : Addr) (pre : α → List Pd) (fs : α → List (Str × Pd)) : Sp := fun vs H Q _ => ∃ (y : α) (x dx : Addr) (H0 : Hp) (ws : List V), vs = .ref x :: ws ∧ Ex H0 H ∧ Rok [Res.ob C x dx []] H0 H ∧ DAll (pre y) ws H0 ∧
  ∀ H0' H', Step (MX x) H0 H H0' H' → Rok [Res.ob C x dx (fs y)] H0' H' → Q .non H'
section
variable {M : Addr → Prop} {Γ Γ' : Ct} {Rs : List Res} {X : Cx} {Z0 Z Hl : Hp} {D : Ends} {K : PySem.W.Frag} {rest : List Stmt} {a b c o e : Expr} {es : List Expr} {pos p : Pos} {C : Addr} {fs : List (Str × Pd)}
theorem xe_fld {f : Str} {P : Pd} (h : XE M Γ Rs X o (PObj C fs)) (hl : fs.lookup f = some P) (hc : Cls X.K C) (hn : NoAttr X.K C f) (hb : attributeBase o f X.env (eval o X.env) = eval o X.env := by rfl) : XE M Γ Rs X (.Attribute o f pos) P :=
  YE.wp (pe_fld pe_wp hb) fun σ H0 H l ex k Q q => h σ H0 H l ex k _ fun v H1 G1 s1 k1 ⟨a, dx, vs, h1, h2, h3⟩ => by
    obtain ⟨u, hu, hp⟩ := (h3 f).1 P hl
    exact ⟨a, C, dx, vs, u, h1, s1.le _ _ h2, hc, hn, hu, q u H1 G1 s1 k1 hp⟩
/-- a property of an object -/
theorem xe_prop {P' : Program} {w' : World} {K' : PySem.W.Frag} {mg' : Str → Option Value} {base' : Heap} {α : Type} {pre : α → List Pd} {post : α → Pd} {f : Str} {pa g : Addr} {fd : FuncData} {ps : List Str} {n : Nat} (F : FnOk P' w' K' mg' base' CX0 n g fd ps (SpP pre post)) (y : α) (h : XE M Γ Rs X o (PObj C fs)) (hy : pre y = [PObj C fs]) (hc : Cls K' C) (hp : PropOf K' C f pa g) (hr : Room (n + 1) X.A)
    (hb : Binds K' fd ps []) (hab : attributeBase o f X.env (eval o X.env) = eval o X.env := by rfl) (eP : X.prog = P' := by rfl) (ew : X.w = w' := by rfl) (eK : X.K = K' := by rfl) (em : X.mg = mg' := by rfl) (eb : X.base = base' := by rfl) : XE M Γ Rs X (.Attribute o f pos) (post y) := by
  subst eP ew eK em eb
  exact YE.wp (pe_prop pe_wp hc hp F hr hb (dvs := []) .nil pass0 hab) fun σ H0 H l ex k Q q => h σ H0 H l ex k _ fun v H1 G1 s1 k1 hv => by
    obtain ⟨a, dx, vs, h1, h2, h3⟩ := id hv
    refine ⟨a, dx, vs, h1, s1.le _ _ h2, y, H1, s1.le, Rok.nil, ?_, fun v H2 G2 s2 _ p2 => q v H2 G2 (s1.trans (s2.imp fun _ z => z.elim)) (k1.step0 s2) p2⟩
    rw [hy, ← h1]
    exact DAll.cons hv DAll.nil
/-- a method of an object -/
theorem xe_meth {P' : Program} {w' : World} {K' : PySem.W.Frag} {mg' : Str → Option Value} {base' : Heap} {α : Type} {pre : α → List Pd} {post : α → Pd} {m : Str} {g : Addr} {fd : FuncData} {ps : List Str} {n : Nat} {apos : Pos} {pl : Sem Bool} {Ps : List Pd} (F : FnOk P' w' K' mg' base' CX0 n g fd ps (SpP pre post)) (y : α) (h : XE M Γ Rs X o (PObj C fs)) (ha : XA M Γ Rs X (e :: es) Ps) (hy : pre y = PObj C fs :: Ps) (hnf : fs.lookup m = none) (hc : Cls K' C) (hm : Meth K' C m g) (hr : Room n X.A) (hb : Binds K' fd ps [])
    (hst : starEach (e :: es) X.env = (false, eval e X.env) :: starEach es X.env := by rfl)
    (hpl : (backTo pos (starEach es X.env)).any (·.1) = false := by rfl)
    (ht :
      eval (.Call (.Attribute o m apos) (e :: es) [] pos) X.env = (do
      let obj ← eval o X.env
      standAt apos.atName
      let (meth, self0) ← holding [obj] (getMethod obj m pl)
      callWith pos meth self0 (backTo pos (starEach (e :: es) X.env)) (backToKw pos (keywordEach [] X.env))) := by rfl) (eP : X.prog = P' := by rfl) (ew : X.w = w' := by rfl) (eK : X.K = K' := by rfl) (em : X.mg = mg' := by rfl) (eb : X.base = base' := by rfl) : XE M Γ Rs X (.Call (.Attribute o m apos) (e :: es) [] pos) (post y) := by
  subst eP ew eK em eb
  exact YE.wp (pe_meth (pl := pl) pe_wp hc hm F hr hb (dvs := []) .nil pass0 pa_wp hst hpl ht) fun σ H0 H l ex k Q q => h σ H0 H l ex k _ fun v H1 G1 s1 k1 hv => by
    obtain ⟨a, dx, vs, h1, h2, h3⟩ := id hv
    refine ⟨a, dx, vs, h1, s1.le _ _ h2, (h3 m).2 hnf, ?_⟩
    refine ha σ H1 G1 (l.ex s1.ex) s1.le k1 _ fun ws H2 G2 s2 k2 hw => ?_
    refine ⟨y, H2, s2.le, Rok.nil, ?_, fun v H3 G3 s3 _ p3 => q v H3 G3 ((s1.trans s2).trans (s3.imp fun _ z => z.elim)) (k2.step0 s3) p3⟩
    rw [hy, List.append_nil]
    exact DAll.cons ((PObj C fs).m s2.ex hv) hw
/-- .. without arguments -/
theorem xe_meth0 {P' : Program} {w' : World} {K' : PySem.W.Frag} {mg' : Str → Option Value} {base' : Heap} {α : Type} {pre : α → List Pd} {post : α → Pd} {m : Str} {g : Addr} {fd : FuncData} {ps : List Str} {n : Nat} {apos : Pos} {pl : Sem Bool} (F : FnOk P' w' K' mg' base' CX0 n g fd ps (SpP pre post)) (y : α) (h : XE M Γ Rs X o (PObj C fs)) (hy : pre y = [PObj C fs]) (hnf : fs.lookup m = none) (hc : Cls K' C) (hm : Meth K' C m g) (hr : Room n X.A) (hb : Binds K' fd ps [])
    (ht :
      eval (.Call (.Attribute o m apos) [] [] pos) X.env = (do
      let obj ← eval o X.env
      standAt apos.atName
      let (meth, self0) ← holding [obj] (getMethod obj m pl)
      callWith pos meth self0 (backTo pos (starEach [] X.env)) (backToKw pos (keywordEach [] X.env))) := by rfl) (eP : X.prog = P' := by rfl) (ew : X.w = w' := by rfl) (eK : X.K = K' := by rfl) (em : X.mg = mg' := by rfl) (eb : X.base = base' := by rfl) : XE M Γ Rs X (.Call (.Attribute o m apos) [] [] pos) (post y) := by
  subst eP ew eK em eb
  exact YE.wp (pe_meth0 (pl := pl) pe_wp hc hm F hr hb (dvs := []) .nil pass0 ht) fun σ H0 H l ex k Q q => h σ H0 H l ex k _ fun v H1 G1 s1 k1 hv => by
    obtain ⟨a, dx, vs, h1, h2, h3⟩ := id hv
    refine ⟨a, dx, vs, h1, s1.le _ _ h2, (h3 m).2 hnf, y, H1, s1.le, Rok.nil, ?_, fun v H3 G3 s3 _ p3 => q v H3 G3 (s1.trans (s3.imp fun _ z => z.elim)) (k1.step0 s3) p3⟩
    rw [hy]
    exact DAll.cons hv DAll.nil
/-- len of an object -/
theorem xe_lenO {P' : Program} {w' : World} {K' : PySem.W.Frag} {mg' : Str → Option Value} {base' : Heap} {α : Type} {pre : α → List Pd} {post : α → Pd} {g : Addr} {fd : FuncData} {ps : List Str} {n : Nat} {z : Int} (F : FnOk P' w' K' mg' base' CX0 n g fd ps (SpP pre post)) (y : α) (hm : X.mg "len" = none) (h : XE M Γ Rs X a (PObj C fs)) (hy : pre y = [PObj C fs]) (hz : post y = PD X.K (.int z)) (h0 : 0 ≤ z ∧ z < 2 ^ 63) (hf : PySem.W.findIn K' (.ref C) "__len__" = some (some (.ref g))) (hi : PySem.W.isFn K' (.ref g) = true) (hr : Room (n + 1) X.A) (hb : Binds K' fd ps []) (hg : Gl X "len" := by rfl) (he : starEach [a] X.env = (false, eval a X.env) :: starEach [] X.env := by rfl) (eP : X.prog = P' := by rfl) (ew : X.w = w' := by rfl) (eK : X.K = K' := by rfl) (em : X.mg = mg' := by rfl) (eb : X.base = base' := by rfl) : XE M Γ Rs X (.Call (.Name "len" p) [a] [] pos) (PD X.K (.int z)) := by
  subst eP ew eK em eb
  exact xe_callB (LhS.cr_lenO (C := C) (E := E0) hf hi F hr hb pass0) hm PySem.boot_len (xa_1 h he) (fun xs H0 H hx ex _ => by
    obtain ⟨v, e1, hv⟩ := da1 hx
    obtain ⟨a, dx, vs, h1, h2, h3⟩ := id hv
    subst e1
    exact fun Q q => ⟨a, dx, vs, by rw [h1], ex _ _ h2, y, H0, ex, Rok.nil, by rw [hy, ← h1]; exact DAll.cons hv DAll.nil, fun v H2 G2 s2 _ p2 => by
      rw [hz] at p2
      have p3 : v = .int z := p2
      exact ⟨z, p3, h0.1, h0.2, q _ H2 G2 (s2.imp fun _ z => z) rfl⟩⟩) hg (by decide) (by decide) he rfl
/-- self.f = e -/
theorem xs_fld {f : Str} {P : Pd} {x dx : Addr} {pos' : Pos} (ho : XE M Γ (Res.ob C x dx fs :: Rs) X o (PV (.ref x))) (hv : XE M Γ (Res.ob C x dx fs :: Rs) X e P) (hc : Cls X.K C) (hn : NoAttr X.K C f) (hz : fs.length < 100) (hM : M x) (hZ : ∀ H0 H, Step M Z0 Z H0 H → Rok (Res.ob C x dx fs :: Rs) H0 H → ∃ u, Z x = some u)
    (k : XS M Γ (Res.ob C x dx ((f, P) :: fs) :: Rs) X Z0 Z Hl D rest) (hs : swapsWith e (some (.Attribute o f pos')) pos.line X.env = pure false := by rfl) : XS M Γ (Res.ob C x dx fs :: Rs) X Z0 Z Hl D (.Assign [.Attribute o f pos'] e pos :: rest) :=
  xs_cons (ps_fld pe_wp pe_wp hs) fun σ H0 H l s b r => hv σ H0 H l s.le r _ fun y H1 G1 s1 k1 hy => ho σ H1 G1 (l.ex s1.ex) s1.le k1 _ fun v H2 G2 s2 k2 hv2 => by
    have hv' : v = .ref x := hv2
    subst hv'
    obtain ⟨h0, vs, hq, hd, hlen⟩ := k2.2 _ List.mem_cons_self
    have t := (s.trans s1).trans s2
    obtain ⟨uz, hZx⟩ := hZ H2 G2 t k2
    have nd := k2.1
    rw [List.flatMap_cons, List.nodup_append] at nd
    have ne : ∀ r ∈ Rs, ∀ a ∈ r.ad, a ≠ x := fun r hr a ha e => nd.2.2 x (by simp [Res.ob]) a (List.mem_flatMap.mpr ⟨r, hr, ha⟩) e.symm
    have kr : Rok Rs H2 G2 := ⟨nd.2.1, fun r hr => k2.2 r (List.mem_cons_of_mem _ hr)⟩
    refine ⟨x, C, dx, vs, rfl, hq, hc, hn, by omega, ?_⟩
    refine k _ H2 _ (l.ex (s1.ex.trans s2.ex)) ⟨fun a u hm ha => ?_, fun a u ha => ?_, t.ex, fun a u ha => ?_, t.nw⟩ (b.trans (s1.ex.trans s2.ex)) ⟨k2.1, fun r hr => ?_⟩
    · have na : a ≠ x := fun e => hm (e ▸ hM)
      rw [upd_ne na]
      exact t.un a u hm ha
    · by_cases e : a = x
      · subst e
        exact ⟨_, upd_same⟩
      · obtain ⟨o', h'⟩ := t.th a u ha
        exact ⟨o', by rw [upd_ne e]; exact h'⟩
    · have na : a ≠ x := fun e => by
        rw [e, h0] at ha
        cases ha
      rw [upd_ne na]
      exact t.le a u ha
    · obtain e | hr := List.mem_cons.mp hr
      · subst e
        exact ⟨h0, _, upd_same, hd.put (P.m s2.ex hy), Nat.le_trans (putF_length _ _ _) (by simp; omega)⟩
      · exact (kr.wr ne).2 r hr
/-- C(e, ..) -/
theorem xe_make {P' : Program} {w' : World} {K' : PySem.W.Frag} {mg' : Str → Option Value} {base' : Heap} {α : Type} {pre : α → List Pd} {fs : α → List (Str × Pd)} {x : Str} {f : Addr} {fd : FuncData} {ps : List Str} {n : Nat} {Ps : List Pd} {T : Pd} (MK : Mk K' C f) (F : FnOk P' w' K' mg' base' CX0 n f fd ps (SpI C pre fs)) (hr : Room (n + 1) X.A) (hm : mg' x = some (.ref C)) (hb : Binds K' fd ps [])
    (ha : XA M Γ Rs X (e :: es) Ps) (hx : ∀ vs H, DAll Ps vs H → ∃ y, DAll (pre y) vs H ∧ ∀ v H, (PObj C (fs y)).p v H → T.p v H) (cv : Cov M Rs) (hg : Gl X x := by rfl) (hdb : (x == ("__debug__" : Str)) = false := by decide)
    (he : starEach (e :: es) X.env = (false, eval e X.env) :: starEach es X.env := by rfl)
    (hpl : (backTo pos (starEach es X.env)).any (·.1) = false := by rfl) (eP : X.prog = P' := by rfl) (ew : X.w = w' := by rfl) (eK : X.K = K' := by rfl) (em : X.mg = mg' := by rfl) (eb : X.base = base' := by rfl) : XE M Γ Rs X (.Call (.Name x p) (e :: es) [] pos) T := by
  subst eP ew eK em eb
  exact YE.wp (pe_make MK F hr hg hm hb (dvs := []) .nil pass0 pa_wp hdb he hpl) fun σ H0 H l ex k Q q => ha σ H0 H l ex k _ fun vs H1 G1 s1 k1 a1 o dx ho hd hne => by
    obtain ⟨y, h1, h2⟩ := hx vs H1 a1
    have old : ∀ {a : Addr} {u : HO}, G1 a = some u → a ≠ o ∧ a ≠ dx := fun {a u} h => ⟨ne_of_none h ho, ne_of_none h hd⟩
    have ks : ∀ {a : Addr} {u : HO}, G1 a = some u → upd (upd G1 dx (.own o)) o (.ins C dx []) a = some u := fun {a u} h => by
      rw [upd_ne (old h).1, upd_ne (old h).2]
      exact h
    refine ⟨y, o, dx, H1, vs, by rw [List.append_nil], fun a u h => ks (s1.le a u h), ⟨by simp [Res.ob], fun r hr => ?_⟩, h1, fun H2 G2 s2 k2 => ⟨rfl, ?_⟩⟩
    · have e1 : r = Res.ob C o dx [] := by simpa using hr
      subst e1
      exact ⟨fresh_back s1.le ho, [], upd_same, fun f => ⟨fun P z => (by cases z), fun _ => rfl⟩, Nat.le_refl _⟩
    · obtain ⟨h0, ws, hq, hf, _⟩ := k2.2 _ List.mem_cons_self
      have ne : ∀ r ∈ Rs, ∀ a ∈ r.ad, a ≠ o := fun r hr a ha e => by
        obtain ⟨⟨u, h⟩, _⟩ := r.tr (k1.2 r hr) a ha
        exact (old h).1 e
      have nd : ∀ r ∈ Rs, ∀ a ∈ r.ad, a ≠ dx := fun r hr a ha e => by
        obtain ⟨⟨u, h⟩, _⟩ := r.tr (k1.2 r hr) a ha
        exact (old h).2 e
      have k1' : Rok Rs H1 (upd (upd G1 dx (.own o)) o (.ins C dx [])) := (k1.wr nd).wr ne
      have k2' : Rok Rs H2 G2 := k1'.step s2 fun r hr a ha hm => ne r hr a ha hm
      have nMo : ¬ M o := fun z => by
        obtain ⟨u, h⟩ := cv H1 G1 k1 o z
        rw [ho] at h
        cases h
      refine q _ (upd H2 o (.ins C dx ws)) G2 (s1.trans ⟨fun a u _ h => s2.un a u (fun z => (old h).1 z) (ks h), fun a u h => s2.th a u (ks h), s2.ex.trans (Ex.new h0), fun a u h => ?_, fun a u h => ?_⟩) (k2'.updA h0 ne) (h2 _ _ ⟨o, dx, ws, rfl, upd_same, hf.ex (Ex.new h0)⟩)
      · by_cases e : a = o
        · subst e
          rw [upd_same] at h
          rw [hq]
          exact h
        · rw [upd_ne e] at h
          exact s2.le a u h
      · by_cases e : a = o
        · subst e
          exact .inr ho
        · rw [upd_ne e] at h
          rcases s2.nw a u h with z | z
          · exact .inl z
          · refine .inr ?_
            cases e2 : G1 a with
            | none => rfl
            | some w =>
              rw [ks e2] at z
              cases z
end
section
variable {K : PySem.W.Frag} {mg : Str → Option Value} {base : Heap} {P : Program} {w : World}
/-- an __init__ by its body -/
theorem fn_I {α : Type} {C : Addr} {pre : α → List Pd} {fs : α → List (Str × Pd)} {x qual : Str} {st : Stmt} {f : Addr} {fd : FuncData} {N ps : List Str} {k : Nat} (F : Fun K x qual st f fd) (S : FnScope N ps (defScope st)) (len : ∀ y, (pre y).length + 1 = ps.length)
    (hb : ∀ (y : α) (o dx : Addr) (Z0 Z : Hp) (Q : VK) (X : Cx) (qX : ∃ (cdv : Value) (A : Around) (outer : List Env) (s : Shared) (E : XK), X = (cxOf CX0 P w K mg base N qual (defScope st) f cdv A outer s Z E).nox ∧ Room k X.A), (∃ u, Z o = some u) → (∀ H0' H', Step (MX o) Z0 Z H0' H' → Rok [Res.ob C o dx (fs y)] H0' H' → Q .non H') →
      XS (MX o) (ctOf N (PV (.ref o) :: pre y)) [Res.ob C o dx []] X Z0 Z Z0 { nx := fun _ H' => Q .non H', rt := Q } (defBody st)) : FnOk P w K mg base CX0 (k + 1) f fd ps (SpI C pre fs) := by
  refine F.ok S (fun vs H Q E h => ?_) (fun cdv A outer s H vs Q E hr h => ?_)
  · obtain ⟨y, o, dx, H0, ws, rfl, _, _, h, _⟩ := h
    rw [List.length_cons, h.1, len]
  · obtain ⟨y, o, dx, H0, ws, rfl, e, r, h, q⟩ := h
    refine ⟨_, pss_wp, ?_⟩
    obtain ⟨_, vs', hq, _⟩ := r.2 _ List.mem_cons_self
    exact hb y o dx H0 H Q _ ⟨cdv, A, outer, s, E, rfl, hr⟩ ⟨_, hq⟩ q _ H0 H (sl_start (DAll.cons (P := PV (.ref o)) rfl h)) (Step.rfl e) (Ex.refl _) r
end
end Lh
namespace Lh
open PySem L2
open Evl (Ex ex_l ex_t ex_rd fresh_back)
def onI (h : Int → PyData) : PyData → PyData
  | .int n => h n
  | _ => .none
def onB (t : Int → Bool) : PyData → Bool
  | .int n => t n
  | _ => false
theorem map_onI (h : Int → PyData) (ns : List Int) : (li ns).map (onI h) = ns.map h := by
  unfold li
  rw [List.map_map]
  rfl
theorem filt_onI (h : Int → PyData) (t : Int → Bool) (ns : List Int) : ((li ns).filter (onB t)).map (onI h) = (ns.filter t).map h := by
  induction ns with
  | nil => rfl
  | cons n ns ih =>
    have e1 : li (n :: ns) = .int n :: li ns := rfl
    have e2 : onB t (.int n) = t n := rfl
    rw [e1, List.filter_cons, List.filter_cons, e2]
    by_cases e : t n = true
    · rw [if_pos e, if_pos e, List.map_cons, List.map_cons, ih]
      rfl
    · rw [if_neg e, if_neg e, ih]
section
variable {M : Addr → Prop} {Γ Γ' : Ct} {Rs : List Res} {X : Cx} {K : PySem.W.Frag}
theorem xe_mapI (j : Nat) {x : Str} {elt iter : Expr} {scope : Scope} {pos xp : Pos} {ns : List Int} (h : Int → PyData) (hi : XI M Γ Rs X (.Name x xp) iter ((li ns).map (PD X.K))) (ht : ∀ n, n ∈ ns → Blk X scope fun Y => XE M (blkG Γ j (PD X.K (.int n))) Rs Y elt (PD X.K (h n)))
    (hN : X.N.Nodup) (ok : BlkOk X.N X.env.scope scope [(x, j)]) (hz : ns.length ≤ 100000) (cv : Cov M Rs) (hg : BlkG X scope x xp j) (hc : X.calm = true := by rfl) (hs : ∀ x, foldedSetIterable iter X.env x = pure x := by intro _; rfl) :
    XE M Γ Rs X (.ListComp elt [⟨.Name x xp, iter, [], 0⟩] scope pos) (PD X.K (.list (ns.map h))) := by
  have q := xe_map j (onI h) hi (fun d hd => by
    obtain ⟨n, hn, rfl⟩ := List.mem_map.mp hd
    exact ht n hn) hN ok (by simpa [li] using hz) cv hg hc hs (pos := pos)
  rw [map_onI] at q
  exact q
theorem xe_filtI (j : Nat) {x : Str} {elt iter c : Expr} {scope : Scope} {pos xp : Pos} {ns : List Int} (h : Int → PyData) (t : Int → Bool) (hi : XI M Γ Rs X (.Name x xp) iter ((li ns).map (PD X.K))) (hc' : ∀ n, n ∈ ns → Blk X scope fun Y => XT M (blkG Γ j (PD X.K (.int n))) Rs Y c (Is (t n)))
    (ht : ∀ n, n ∈ ns → t n = true → Blk X scope fun Y => XE M (blkG Γ j (PD X.K (.int n))) Rs Y elt (PD X.K (h n)))
    (hN : X.N.Nodup) (ok : BlkOk X.N X.env.scope scope [(x, j)]) (hz : ns.length ≤ 100000) (cv : Cov M Rs) (hg : BlkG X scope x xp j) (hc : X.calm = true := by rfl) (hs : ∀ x, foldedSetIterable iter X.env x = pure x := by intro _; rfl) :
    XE M Γ Rs X (.ListComp elt [⟨.Name x xp, iter, [c], 0⟩] scope pos) (PD X.K (.list ((ns.filter t).map h))) := by
  have q := xe_filt j (onI h) (onB t) hi (fun d hd => by
    obtain ⟨n, hn, rfl⟩ := List.mem_map.mp hd
    exact hc' n hn) (fun d hd => by
    obtain ⟨n, hn, rfl⟩ := List.mem_map.mp hd
    exact ht n hn) hN ok (by simpa [li] using hz) cv hg hc hs (pos := pos)
  rw [filt_onI] at q
  exact q
end
end Lh
namespace K42
open PySem L2 Lh
/-! ### the text by places -/
def top (i : Nat) : Stmt := PySem.Challenge.pw_liftheard_k42_whole_pictures.main.body.getD i (.Pass ⟨0, 0, 0, 0⟩)
abbrev s_check_gaps : Stmt := top 9
abbrev s_check_bells : Stmt := top 10
abbrev s_check_floors : Stmt := top 11
abbrev s_is_row_of : Stmt := top 15
abbrev s_check_log : Stmt := top 16
abbrev s_check_hearing : Stmt := top 17
abbrev s_next_floors : Stmt := top 18
abbrev s_links_of : Stmt := top 20
abbrev s_numbers_ahead : Stmt := top 21
abbrev s_numbers_behind : Stmt := top 22
abbrev s_numbers_through : Stmt := top 23
abbrev s_floor_line : Stmt := top 25
abbrev s_shaft : Stmt := top 26
abbrev s_table_line : Stmt := top 27
abbrev s_ways_table : Stmt := top 28
abbrev s__law_mix : Stmt := top 30
abbrev s__law_next : Stmt := top 31
abbrev s__law_alike : Stmt := top 32
abbrev s__law_house : Stmt := top 33
abbrev s__law_far : Stmt := top 34
abbrev s__law_next_floors : Stmt := top 35
abbrev s__law_ways : Stmt := top 36
abbrev s__law_row : Stmt := top 37
abbrev s__law_log : Stmt := top 38
abbrev s__law_start : Stmt := top 39
abbrev s__law_floors : Stmt := top 40
abbrev s_law : Stmt := top 41
abbrev s_House_init : Stmt := inClass (top 12) 0
abbrev s_House_gaps : Stmt := inClass (top 12) 1
abbrev s_House_bells : Stmt := inClass (top 12) 2
abbrev s_House_floors : Stmt := inClass (top 12) 3
abbrev s_House_len : Stmt := inClass (top 12) 4
abbrev s_House_eq : Stmt := inClass (top 12) 5
abbrev s_House_seconds : Stmt := inClass (top 12) 6
abbrev n_check_gaps : List Str := ["gaps", "index", "gap"]
theorem sc_check_gaps : FnScope n_check_gaps ["gaps"] (defScope s_check_gaps) := ⟨rfl, rfl, rfl, by decide +kernel, rfl, by decide +kernel, by decide +kernel⟩
abbrev n_check_bells : List Str := ["bells", "floors", "index", "bell"]
theorem sc_check_bells : FnScope n_check_bells ["bells", "floors"] (defScope s_check_bells) := ⟨rfl, rfl, rfl, by decide +kernel, rfl, by decide +kernel, by decide +kernel⟩
abbrev n_check_floors : List Str := ["house", "floors", "floor"]
theorem sc_check_floors : FnScope n_check_floors ["house", "floors"] (defScope s_check_floors) := ⟨rfl, rfl, rfl, by decide +kernel, rfl, by decide +kernel, by decide +kernel⟩
abbrev n_is_row_of : List Str := ["house", "row", "floor"]
theorem sc_is_row_of : FnScope n_is_row_of ["house", "row"] (defScope s_is_row_of) := ⟨rfl, rfl, rfl, by decide +kernel, rfl, by decide +kernel, by decide +kernel⟩
abbrev n_check_log : List Str := ["house", "log", "index", "row"]
theorem sc_check_log : FnScope n_check_log ["house", "log"] (defScope s_check_log) := ⟨rfl, rfl, rfl, by decide +kernel, rfl, by decide +kernel, by decide +kernel⟩
abbrev n_check_hearing : List Str := ["house", "start", "log"]
theorem sc_check_hearing : FnScope n_check_hearing ["house", "start", "log"] (defScope s_check_hearing) := ⟨rfl, rfl, rfl, by decide +kernel, rfl, by decide +kernel, by decide +kernel⟩
abbrev n_next_floors : List Str := ["house", "row", "floor", "kind", "other"]
theorem sc_next_floors : FnScope n_next_floors ["house", "row", "floor"] (defScope s_next_floors) := ⟨rfl, rfl, rfl, by decide +kernel, rfl, by decide +kernel, by decide +kernel⟩
abbrev n_links_of : List Str := ["house", "log", "floor", "row"]
theorem sc_links_of : FnScope n_links_of ["house", "log"] (defScope s_links_of) := ⟨rfl, rfl, rfl, by decide +kernel, rfl, by decide +kernel, by decide +kernel⟩
abbrev n_numbers_ahead : List Str := ["house", "links", "numbers", "ends_of_floors", "behind", "end", "ends"]
theorem sc_numbers_ahead : FnScope n_numbers_ahead ["house", "links"] (defScope s_numbers_ahead) := ⟨rfl, rfl, rfl, by decide +kernel, rfl, by decide +kernel, by decide +kernel⟩
abbrev n_numbers_behind : List Str := ["house", "start", "links", "numbers", "floor", "ends_of_floors", "behind", "number", "ends", "end"]
theorem sc_numbers_behind : FnScope n_numbers_behind ["house", "start", "links"] (defScope s_numbers_behind) := ⟨rfl, rfl, rfl, by decide +kernel, rfl, by decide +kernel, by decide +kernel⟩
abbrev n_numbers_through : List Str := ["house", "start", "links", "numbers", "behind", "ahead", "one", "other"]
theorem sc_numbers_through : FnScope n_numbers_through ["house", "start", "links"] (defScope s_numbers_through) := ⟨rfl, rfl, rfl, by decide +kernel, rfl, by decide +kernel, by decide +kernel⟩
abbrev n_floor_line : List Str := ["house", "floors", "floor", "sign"]
theorem sc_floor_line : FnScope n_floor_line ["house", "floors", "floor"] (defScope s_floor_line) := ⟨rfl, rfl, rfl, by decide +kernel, rfl, by decide +kernel, by decide +kernel⟩
abbrev n_shaft : List Str := ["house", "floors", "lines", "floor", "gap"]
theorem sc_shaft : FnScope n_shaft ["house", "floors"] (defScope s_shaft) := ⟨rfl, rfl, rfl, by decide +kernel, rfl, by decide +kernel, by decide +kernel⟩
abbrev n_table_line : List Str := ["numbers", "floor", "signs", "numbers_then"]
theorem sc_table_line : FnScope n_table_line ["numbers", "floor"] (defScope s_table_line) := ⟨rfl, rfl, rfl, by decide +kernel, rfl, by decide +kernel, by decide +kernel⟩
abbrev n_ways_table : List Str := ["house", "start", "log", "numbers", "floor"]
theorem sc_ways_table : FnScope n_ways_table ["house", "start", "log"] (defScope s_ways_table) := ⟨rfl, rfl, rfl, by decide +kernel, rfl, by decide +kernel, by decide +kernel⟩
abbrev n__law_mix : List Str := ["_law_script", "_law_seed", "_law_state", "_law_cell"]
theorem sc__law_mix : FnScope n__law_mix ["_law_script", "_law_seed"] (defScope s__law_mix) := ⟨rfl, rfl, rfl, by decide +kernel, rfl, by decide +kernel, by decide +kernel⟩
abbrev n__law_next : List Str := ["_law_h", "_law_limit", "_law_cell"]
theorem sc__law_next : FnScope n__law_next ["_law_h", "_law_limit"] (defScope s__law_next) := ⟨rfl, rfl, rfl, by decide +kernel, rfl, by decide +kernel, by decide +kernel⟩
abbrev n__law_alike : List Str := ["_law_found", "_law_due", "_law_k"]
theorem sc__law_alike : FnScope n__law_alike ["_law_found", "_law_due"] (defScope s__law_alike) := ⟨rfl, rfl, rfl, by decide +kernel, rfl, by decide +kernel, by decide +kernel⟩
abbrev n__law_house : List Str := ["_law_h", "_law_most", "_law_gaps", "_law_k", "_law_floor"]
theorem sc__law_house : FnScope n__law_house ["_law_h", "_law_most"] (defScope s__law_house) := ⟨rfl, rfl, rfl, by decide +kernel, rfl, by decide +kernel, by decide +kernel⟩
abbrev n__law_far : List Str := ["_law_gaps", "_law_one", "_law_other"]
theorem sc__law_far : FnScope n__law_far ["_law_gaps", "_law_one", "_law_other"] (defScope s__law_far) := ⟨rfl, rfl, rfl, by decide +kernel, rfl, by decide +kernel, by decide +kernel⟩
abbrev n__law_next_floors : List Str := ["_law_drawn", "_law_floor", "_law_row_here", "_law_floors_here", "_law_other"]
theorem sc__law_next_floors : FnScope n__law_next_floors ["_law_drawn", "_law_floor", "_law_row_here"] (defScope s__law_next_floors) := ⟨rfl, rfl, rfl, by decide +kernel, rfl, by decide +kernel, by decide +kernel⟩
abbrev n__law_ways : List Str := ["_law_drawn", "_law_start_here", "_law_log_here", "_law_found", "_law_floor", "_law_row_here", "_law_longer", "_law_way", "_law_other"]
theorem sc__law_ways : FnScope n__law_ways ["_law_drawn", "_law_start_here", "_law_log_here"] (defScope s__law_ways) := ⟨rfl, rfl, rfl, by decide +kernel, rfl, by decide +kernel, by decide +kernel⟩
abbrev n__law_row : List Str := ["_law_h", "_law_drawn", "_law_floor", "_law_many", "_law_kind", "_law_other", "_law_one", "_law_seconds", "_law_some"]
theorem sc__law_row : FnScope n__law_row ["_law_h", "_law_drawn", "_law_floor"] (defScope s__law_row) := ⟨rfl, rfl, rfl, by decide +kernel, rfl, by decide +kernel, by decide +kernel⟩
abbrev n__law_log : List Str := ["_law_h", "_law_drawn", "_law_start_here", "_law_many", "_law_floor", "_law_found", "_law_k", "_law_row_here", "_law_later"]
theorem sc__law_log : FnScope n__law_log ["_law_h", "_law_drawn", "_law_start_here", "_law_many"] (defScope s__law_log) := ⟨rfl, rfl, rfl, by decide +kernel, rfl, by decide +kernel, by decide +kernel⟩
abbrev n__law_start : List Str := ["_law_h", "_law_drawn", "_law_many", "_law_found", "_law_floor"]
theorem sc__law_start : FnScope n__law_start ["_law_h", "_law_drawn"] (defScope s__law_start) := ⟨rfl, rfl, rfl, by decide +kernel, rfl, by decide +kernel, by decide +kernel⟩
abbrev n__law_floors : List Str := ["_law_courses", "_law_moment", "_law_way"]
theorem sc__law_floors : FnScope n__law_floors ["_law_courses", "_law_moment"] (defScope s__law_floors) := ⟨rfl, rfl, rfl, by decide +kernel, rfl, by decide +kernel, by decide +kernel⟩
abbrev n_law : List Str := ["_law_script", "_law_h", "_law_turn", "_law_drawn", "_law_house_here", "_law_start_here", "_law_many", "_law_floors_here", "_law_lines", "_law_floor", "_law_log_here", "_law_courses", "_law_signs", "_law_moment"]
theorem sc_law : FnScope n_law ["_law_script"] (defScope s_law) := ⟨rfl, rfl, rfl, by decide +kernel, rfl, by decide +kernel, by decide +kernel⟩
abbrev n_House_init : List Str := ["self", "gaps", "bells", "floors"]
theorem sc_House_init : FnScope n_House_init ["self", "gaps", "bells"] (defScope s_House_init) := ⟨rfl, rfl, rfl, by decide +kernel, rfl, by decide +kernel, by decide +kernel⟩
abbrev n_House_gaps : List Str := ["self"]
theorem sc_House_gaps : FnScope n_House_gaps ["self"] (defScope s_House_gaps) := ⟨rfl, rfl, rfl, by decide +kernel, rfl, by decide +kernel, by decide +kernel⟩
abbrev n_House_bells : List Str := ["self"]
theorem sc_House_bells : FnScope n_House_bells ["self"] (defScope s_House_bells) := ⟨rfl, rfl, rfl, by decide +kernel, rfl, by decide +kernel, by decide +kernel⟩
abbrev n_House_floors : List Str := ["self"]
theorem sc_House_floors : FnScope n_House_floors ["self"] (defScope s_House_floors) := ⟨rfl, rfl, rfl, by decide +kernel, rfl, by decide +kernel, by decide +kernel⟩
abbrev n_House_len : List Str := ["self"]
theorem sc_House_len : FnScope n_House_len ["self"] (defScope s_House_len) := ⟨rfl, rfl, rfl, by decide +kernel, rfl, by decide +kernel, by decide +kernel⟩
abbrev n_House_eq : List Str := ["self", "other"]
theorem sc_House_eq : FnScope n_House_eq ["self", "other"] (defScope s_House_eq) := ⟨rfl, rfl, rfl, by decide +kernel, rfl, by decide +kernel, by decide +kernel⟩
abbrev n_House_seconds : List Str := ["self", "one", "other"]
theorem sc_House_seconds : FnScope n_House_seconds ["self", "one", "other"] (defScope s_House_seconds) := ⟨rfl, rfl, rfl, by decide +kernel, rfl, by decide +kernel, by decide +kernel⟩
/-- what the top has written -/
structure Txt (K : PySem.W.Frag) (mg : Str → Option Value) where
  C_House : Addr
  f_check_gaps : Addr
  d_check_gaps : FuncData
  f_check_bells : Addr
  d_check_bells : FuncData
  f_check_floors : Addr
  d_check_floors : FuncData
  f_is_row_of : Addr
  d_is_row_of : FuncData
  f_check_log : Addr
  d_check_log : FuncData
  f_check_hearing : Addr
  d_check_hearing : FuncData
  f_next_floors : Addr
  d_next_floors : FuncData
  f_links_of : Addr
  d_links_of : FuncData
  f_numbers_ahead : Addr
  d_numbers_ahead : FuncData
  f_numbers_behind : Addr
  d_numbers_behind : FuncData
  f_numbers_through : Addr
  d_numbers_through : FuncData
  f_floor_line : Addr
  d_floor_line : FuncData
  f_shaft : Addr
  d_shaft : FuncData
  f_table_line : Addr
  d_table_line : FuncData
  f_ways_table : Addr
  d_ways_table : FuncData
  f__law_mix : Addr
  d__law_mix : FuncData
  f__law_next : Addr
  d__law_next : FuncData
  f__law_alike : Addr
  d__law_alike : FuncData
  f__law_house : Addr
  d__law_house : FuncData
  f__law_far : Addr
  d__law_far : FuncData
  f__law_next_floors : Addr
  d__law_next_floors : FuncData
  f__law_ways : Addr
  d__law_ways : FuncData
  f__law_row : Addr
  d__law_row : FuncData
  f__law_log : Addr
  d__law_log : FuncData
  f__law_start : Addr
  d__law_start : FuncData
  f__law_floors : Addr
  d__law_floors : FuncData
  f_law : Addr
  d_law : FuncData
  f_House_init : Addr
  d_House_init : FuncData
  f_House_gaps : Addr
  d_House_gaps : FuncData
  f_House_bells : Addr
  d_House_bells : FuncData
  f_House_floors : Addr
  d_House_floors : FuncData
  f_House_len : Addr
  d_House_len : FuncData
  f_House_eq : Addr
  d_House_eq : FuncData
  f_House_seconds : Addr
  d_House_seconds : FuncData
  p_House_gaps : Addr
  p_House_bells : Addr
  p_House_floors : Addr
  F_check_gaps : Fun K "check_gaps" "check_gaps" s_check_gaps f_check_gaps d_check_gaps
  b_check_gaps : Binds K d_check_gaps ["gaps"] []
  g_check_gaps : mg "check_gaps" = some (.ref f_check_gaps)
  F_check_bells : Fun K "check_bells" "check_bells" s_check_bells f_check_bells d_check_bells
  b_check_bells : Binds K d_check_bells ["bells", "floors"] []
  g_check_bells : mg "check_bells" = some (.ref f_check_bells)
  F_check_floors : Fun K "check_floors" "check_floors" s_check_floors f_check_floors d_check_floors
  b_check_floors : Binds K d_check_floors ["house", "floors"] []
  g_check_floors : mg "check_floors" = some (.ref f_check_floors)
  F_is_row_of : Fun K "is_row_of" "is_row_of" s_is_row_of f_is_row_of d_is_row_of
  b_is_row_of : Binds K d_is_row_of ["house", "row"] []
  g_is_row_of : mg "is_row_of" = some (.ref f_is_row_of)
  F_check_log : Fun K "check_log" "check_log" s_check_log f_check_log d_check_log
  b_check_log : Binds K d_check_log ["house", "log"] []
  g_check_log : mg "check_log" = some (.ref f_check_log)
  F_check_hearing : Fun K "check_hearing" "check_hearing" s_check_hearing f_check_hearing d_check_hearing
  b_check_hearing : Binds K d_check_hearing ["house", "start", "log"] []
  g_check_hearing : mg "check_hearing" = some (.ref f_check_hearing)
  F_next_floors : Fun K "next_floors" "next_floors" s_next_floors f_next_floors d_next_floors
  b_next_floors : Binds K d_next_floors ["house", "row", "floor"] []
  g_next_floors : mg "next_floors" = some (.ref f_next_floors)
  F_links_of : Fun K "links_of" "links_of" s_links_of f_links_of d_links_of
  b_links_of : Binds K d_links_of ["house", "log"] []
  g_links_of : mg "links_of" = some (.ref f_links_of)
  F_numbers_ahead : Fun K "numbers_ahead" "numbers_ahead" s_numbers_ahead f_numbers_ahead d_numbers_ahead
  b_numbers_ahead : Binds K d_numbers_ahead ["house", "links"] []
  g_numbers_ahead : mg "numbers_ahead" = some (.ref f_numbers_ahead)
  F_numbers_behind : Fun K "numbers_behind" "numbers_behind" s_numbers_behind f_numbers_behind d_numbers_behind
  b_numbers_behind : Binds K d_numbers_behind ["house", "start", "links"] []
  g_numbers_behind : mg "numbers_behind" = some (.ref f_numbers_behind)
  F_numbers_through : Fun K "numbers_through" "numbers_through" s_numbers_through f_numbers_through d_numbers_through
  b_numbers_through : Binds K d_numbers_through ["house", "start", "links"] []
  g_numbers_through : mg "numbers_through" = some (.ref f_numbers_through)
  F_floor_line : Fun K "floor_line" "floor_line" s_floor_line f_floor_line d_floor_line
  b_floor_line : Binds K d_floor_line ["house", "floors", "floor"] []
  g_floor_line : mg "floor_line" = some (.ref f_floor_line)
  F_shaft : Fun K "shaft" "shaft" s_shaft f_shaft d_shaft
  b_shaft : Binds K d_shaft ["house", "floors"] []
  g_shaft : mg "shaft" = some (.ref f_shaft)
  F_table_line : Fun K "table_line" "table_line" s_table_line f_table_line d_table_line
  b_table_line : Binds K d_table_line ["numbers", "floor"] []
  g_table_line : mg "table_line" = some (.ref f_table_line)
  F_ways_table : Fun K "ways_table" "ways_table" s_ways_table f_ways_table d_ways_table
  b_ways_table : Binds K d_ways_table ["house", "start", "log"] []
  g_ways_table : mg "ways_table" = some (.ref f_ways_table)
  F__law_mix : Fun K "_law_mix" "_law_mix" s__law_mix f__law_mix d__law_mix
  b__law_mix : Binds K d__law_mix ["_law_script", "_law_seed"] []
  g__law_mix : mg "_law_mix" = some (.ref f__law_mix)
  F__law_next : Fun K "_law_next" "_law_next" s__law_next f__law_next d__law_next
  b__law_next : Binds K d__law_next ["_law_h", "_law_limit"] []
  g__law_next : mg "_law_next" = some (.ref f__law_next)
  F__law_alike : Fun K "_law_alike" "_law_alike" s__law_alike f__law_alike d__law_alike
  b__law_alike : Binds K d__law_alike ["_law_found", "_law_due"] []
  g__law_alike : mg "_law_alike" = some (.ref f__law_alike)
  F__law_house : Fun K "_law_house" "_law_house" s__law_house f__law_house d__law_house
  b__law_house : Binds K d__law_house ["_law_h", "_law_most"] []
  g__law_house : mg "_law_house" = some (.ref f__law_house)
  F__law_far : Fun K "_law_far" "_law_far" s__law_far f__law_far d__law_far
  b__law_far : Binds K d__law_far ["_law_gaps", "_law_one", "_law_other"] []
  g__law_far : mg "_law_far" = some (.ref f__law_far)
  F__law_next_floors : Fun K "_law_next_floors" "_law_next_floors" s__law_next_floors f__law_next_floors d__law_next_floors
  b__law_next_floors : Binds K d__law_next_floors ["_law_drawn", "_law_floor", "_law_row_here"] []
  g__law_next_floors : mg "_law_next_floors" = some (.ref f__law_next_floors)
  F__law_ways : Fun K "_law_ways" "_law_ways" s__law_ways f__law_ways d__law_ways
  b__law_ways : Binds K d__law_ways ["_law_drawn", "_law_start_here", "_law_log_here"] []
  g__law_ways : mg "_law_ways" = some (.ref f__law_ways)
  F__law_row : Fun K "_law_row" "_law_row" s__law_row f__law_row d__law_row
  b__law_row : Binds K d__law_row ["_law_h", "_law_drawn", "_law_floor"] []
  g__law_row : mg "_law_row" = some (.ref f__law_row)
  F__law_log : Fun K "_law_log" "_law_log" s__law_log f__law_log d__law_log
  b__law_log : Binds K d__law_log ["_law_h", "_law_drawn", "_law_start_here", "_law_many"] []
  g__law_log : mg "_law_log" = some (.ref f__law_log)
  F__law_start : Fun K "_law_start" "_law_start" s__law_start f__law_start d__law_start
  b__law_start : Binds K d__law_start ["_law_h", "_law_drawn"] []
  g__law_start : mg "_law_start" = some (.ref f__law_start)
  F__law_floors : Fun K "_law_floors" "_law_floors" s__law_floors f__law_floors d__law_floors
  b__law_floors : Binds K d__law_floors ["_law_courses", "_law_moment"] []
  g__law_floors : mg "_law_floors" = some (.ref f__law_floors)
  F_law : Fun K "law" "law" s_law f_law d_law
  b_law : Binds K d_law ["_law_script"] []
  g_law : mg "law" = some (.ref f_law)
  F_House_init : Fun K "__init__" "House.__init__" s_House_init f_House_init d_House_init
  b_House_init : Binds K d_House_init ["self", "gaps", "bells"] []
  F_House_gaps : Fun K "gaps" "House.gaps" s_House_gaps f_House_gaps d_House_gaps
  b_House_gaps : Binds K d_House_gaps ["self"] []
  m_House_gaps : PropOf K C_House "gaps" p_House_gaps f_House_gaps
  F_House_bells : Fun K "bells" "House.bells" s_House_bells f_House_bells d_House_bells
  b_House_bells : Binds K d_House_bells ["self"] []
  m_House_bells : PropOf K C_House "bells" p_House_bells f_House_bells
  F_House_floors : Fun K "floors" "House.floors" s_House_floors f_House_floors d_House_floors
  b_House_floors : Binds K d_House_floors ["self"] []
  m_House_floors : PropOf K C_House "floors" p_House_floors f_House_floors
  F_House_len : Fun K "__len__" "House.__len__" s_House_len f_House_len d_House_len
  b_House_len : Binds K d_House_len ["self"] []
  m_House_len : Meth K C_House "__len__" f_House_len
  F_House_eq : Fun K "__eq__" "House.__eq__" s_House_eq f_House_eq d_House_eq
  b_House_eq : Binds K d_House_eq ["self", "other"] []
  m_House_eq : Meth K C_House "__eq__" f_House_eq
  F_House_seconds : Fun K "seconds" "House.seconds" s_House_seconds f_House_seconds d_House_seconds
  b_House_seconds : Binds K d_House_seconds ["self", "one", "other"] []
  m_House_seconds : Meth K C_House "seconds" f_House_seconds
  g_House : mg "House" = some (.ref C_House)
  c_House : Cls K C_House
  k_House : Mk K C_House f_House_init
  a_House_gaps : NoAttr K C_House "_gaps"
  a_House_bells : NoAttr K C_House "_bells"
  a_House_floors : NoAttr K C_House "_floors"
  z_len : mg "len" = none
  z_range : mg "range" = none
  z_enumerate : mg "enumerate" = none
  z_zip : mg "zip" = none
  z_min : mg "min" = none
  z_max : mg "max" = none
  z_sum : mg "sum" = none
  z_sorted : mg "sorted" = none
  z_reversed : mg "reversed" = none
  z_int : mg "int" = none
  z_str : mg "str" = none
  z_bool : mg "bool" = none
  z_list : mg "list" = none
  z_tuple : mg "tuple" = none
  z_dict : mg "dict" = none
  z_set : mg "set" = none
  z_isinstance : mg "isinstance" = none
  z_all : mg "all" = none
  z_ValueError : mg "ValueError" = none
  z_super : mg "super" = none
  v_MOST_GAPS : ∃ t, mg "MOST_GAPS" = some (.int 9 t)
  v_LONGEST_GAP : ∃ t, mg "LONGEST_GAP" = some (.int 9 t)
  v_LONGEST_GO : ∃ t, mg "LONGEST_GO" = some (.int 81 t)
end K42
namespace K42
open PySem L2 Lh
structure GapsOk (g : List Int) : Prop where
  one : 1 ≤ g.length
  nine : g.length ≤ 9
  each : ∀ x ∈ g, 1 ≤ x ∧ x ≤ 9
abbrev spCheckGaps (K : PySem.W.Frag) : Sp := SpP (α := { g : List Int // GapsOk g }) (fun g => [PD K (.tuple (li g.1))]) (fun _ => PD K .none)
section
variable {K : PySem.W.Frag} {mg : Str → Option Value} {base : Heap} {P : Program} {w : World}
theorem ok_check_gaps (T : Txt K mg) : FnOk P w K mg base CX0 1 T.f_check_gaps T.d_check_gaps ["gaps"] (spCheckGaps K) := by
  refine fn_F T.F_check_gaps sc_check_gaps (fun _ => rfl) fun ⟨g, hg⟩ Z0 Z Q X qX hQ => ?_
  obtain ⟨cdv, A, outer, s, E, rfl, hr⟩ := qX
  obtain ⟨t1, v1⟩ := T.v_MOST_GAPS
  obtain ⟨t2, v2⟩ := T.v_LONGEST_GAP
  refine xs_skip ((xt_notB (xt_truT (xe_var 0))).eq ?_) ?_
  · have h := hg.one
    cases g with
    | nil => simp at h
    | cons x r => rfl
  · refine xs_forP 1 2 (xi_enumT T.z_enumerate (xe_var 0)) (fun _ Γ1 Rs1 => Rs1 = [] ∧ ∃ a b, Γ1 = [some (PD K (.tuple (li g))), a, b]) ⟨rfl, none, none, rfl⟩ ?_ ?_ sc_check_gaps.nd
    · rintro t Qt Γ1 Rs1 hq ⟨rfl, a, b, rfl⟩
      obtain ⟨d, hd, rfl⟩ := enum_at hq
      obtain ⟨n, hn, rfl⟩ := li_at hd
      refine ⟨_, _, rfl, fun Hs => ?_⟩
      have h1 := hg.each n (List.mem_of_getElem? hn)
      have h2 : t < g.length := (List.getElem?_eq_some_iff.mp hn).1
      have h3 := hg.nine
      refine xs_skip ((xt_orB (xt_eqI (xe_var 1) (xe_gint v1)) fun _ => xt_notB (xt_lele (K := K) xe_int (xe_var 2) (xe_gint v2))).eq ?_) ?_
      rotate_left
      · exact xs_turn (fun σ H h => h) ⟨rfl, _, _, rfl⟩
      have : ¬ ((t : Int) = 9) := by omega
      simp [this, h1.1, h1.2]
    · rintro Γ1 Rs1 ⟨rfl, a, b, rfl⟩
      exact xs_nil fun σ H0 H l s b k => hQ _ _ _ s k rfl
end
end K42
namespace K42
open PySem L2 Lh
theorem mem_rgI {x : Int} {n : Nat} : x ∈ rgI 0 n ↔ 0 ≤ x ∧ x < n := by
  unfold rgI
  rw [List.mem_map]
  constructor
  · rintro ⟨i, hi, rfl⟩
    rw [List.mem_range] at hi
    omega
  · rintro ⟨h0, h1⟩
    exact ⟨x.toNat, List.mem_range.mpr (by omega), by omega⟩
/-- ascending floors among fl -/
structure BellsOk (b fl : List Int) : Prop where
  among : ∀ x ∈ b, x ∈ fl
  up : ∀ (t : Nat) (m n : Int), b[t]? = some m → b[t + 1]? = some n → m < n
structure HouseOk (g b : List Int) : Prop where
  gaps : GapsOk g
  bells : BellsOk b (rgI 0 (g.length + 1))
abbrev spCheckBells (K : PySem.W.Frag) : Sp := SpP (α := { p : List Int × List Int // BellsOk p.1 p.2 }) (fun p => [PD K (.tuple (li p.1.1)), PD K (.tuple (li p.1.2))]) (fun _ => PD K .none)
abbrev flds (K : PySem.W.Frag) (g b : List Int) : List (Str × Pd) := [("_floors", PD K (.tuple (li (rgI 0 (g.length + 1))))), ("_bells", PD K (.tuple (li b))), ("_gaps", PD K (.tuple (li g)))]
abbrev PHo (K : PySem.W.Frag) (C : Addr) (g b : List Int) : Pd := PObj C (flds K g b)
theorem atI_prev {ns : List Int} {t : Nat} (h : t < ns.length) : atI (li ns) (((t + 1 : Nat) : Int) - 1) = some (.int ns[t]) := by
  have e : (((t + 1 : Nat) : Int) - 1) = (t : Int) := by omega
  rw [e]
  exact atI_nat (by simp [li, h])
section
variable {K : PySem.W.Frag} {mg : Str → Option Value} {base : Heap} {P : Program} {w : World}
theorem ok_check_bells (T : Txt K mg) : FnOk P w K mg base CX0 1 T.f_check_bells T.d_check_bells ["bells", "floors"] (spCheckBells K) := by
  refine fn_F T.F_check_bells sc_check_bells (fun _ => rfl) fun ⟨⟨bs, fl⟩, hb⟩ Z0 Z Q X qX hQ => ?_
  obtain ⟨cdv, A, outer, s, E, rfl, hr⟩ := qX
  refine xs_forP 2 3 (xi_enumT T.z_enumerate (xe_var 0)) (fun _ Γ1 Rs1 => Rs1 = [] ∧ ∃ a b, Γ1 = [some (PD K (.tuple (li bs))), some (PD K (.tuple (li fl))), a, b]) ⟨rfl, none, none, rfl⟩ ?_ ?_ sc_check_bells.nd
  · rintro t Qt Γ1 Rs1 hq ⟨rfl, a, b, rfl⟩
    obtain ⟨d, hd, rfl⟩ := enum_at hq
    obtain ⟨n, hn, rfl⟩ := li_at hd
    refine ⟨_, _, rfl, fun Hs => ?_⟩
    have h1 := hb.among n (List.mem_of_getElem? hn)
    have hlt : t < bs.length := (List.getElem?_eq_some_iff.mp hn).1
    refine xs_skip (YT.eq (xt_orB (xt_niT (xe_var 3) (xe_var 1)) fun _ => (?_ : XT _ _ _ _ _ (Is false))) (by simp [h1])) (xs_turn (fun σ H h => h) ⟨rfl, _, _, rfl⟩)
    cases t with
    | zero => exact YT.eq (xt_andB (v := false) (xt_gt (K := K) (xe_var 2) xe_int) (fun z => by simp at z)) (by simp)
    | succ t' =>
      have hp : t' < bs.length := by omega
      have h2 := hb.up t' bs[t'] n (List.getElem?_eq_getElem hp) hn
      exact YT.eq (xt_andB (xt_gt (K := K) (xe_var 2) xe_int) (fun _ => xt_le (K := K) (xe_var 3) (xe_ixT (xe_var 0) (xe_sub (xe_var 2) xe_int) (atI_prev hp)))) (by
        have : ¬ n ≤ bs[t'] := by omega
        simp [this])
  · rintro Γ1 Rs1 ⟨rfl, a, b, rfl⟩
    exact xs_nil fun σ H0 H l s b k => hQ _ _ _ s k rfl
abbrev spFld (K : PySem.W.Frag) (C : Addr) (r : List Int × List Int → Pd) : Sp := SpP (α := List Int × List Int) (fun y => [PHo K C y.1 y.2]) r
theorem ok_House_floors (T : Txt K mg) : FnOk P w K mg base CX0 1 T.f_House_floors T.d_House_floors ["self"] (spFld K T.C_House fun y => PD K (.tuple (li (rgI 0 (y.1.length + 1))))) := by
  refine fn_F T.F_House_floors sc_House_floors (fun _ => rfl) fun ⟨g, b⟩ Z0 Z Q X qX hQ => ?_
  obtain ⟨cdv, A, outer, s, E, rfl, hr⟩ := qX
  exact xs_ret (xe_fld (xe_var 0) rfl T.c_House T.a_House_floors) fun v H0 H s k hv => hQ v H0 H s k hv
theorem ok_House_gaps (T : Txt K mg) : FnOk P w K mg base CX0 1 T.f_House_gaps T.d_House_gaps ["self"] (spFld K T.C_House fun y => PD K (.tuple (li y.1))) := by
  refine fn_F T.F_House_gaps sc_House_gaps (fun _ => rfl) fun ⟨g, b⟩ Z0 Z Q X qX hQ => ?_
  obtain ⟨cdv, A, outer, s, E, rfl, hr⟩ := qX
  exact xs_ret (xe_fld (xe_var 0) rfl T.c_House T.a_House_gaps) fun v H0 H s k hv => hQ v H0 H s k hv
theorem ok_House_bells (T : Txt K mg) : FnOk P w K mg base CX0 1 T.f_House_bells T.d_House_bells ["self"] (spFld K T.C_House fun y => PD K (.tuple (li y.2))) := by
  refine fn_F T.F_House_bells sc_House_bells (fun _ => rfl) fun ⟨g, b⟩ Z0 Z Q X qX hQ => ?_
  obtain ⟨cdv, A, outer, s, E, rfl, hr⟩ := qX
  exact xs_ret (xe_fld (xe_var 0) rfl T.c_House T.a_House_bells) fun v H0 H s k hv => hQ v H0 H s k hv
theorem ok_House_len (T : Txt K mg) : FnOk P w K mg base CX0 1 T.f_House_len T.d_House_len ["self"] (spFld K T.C_House fun y => PD K (.int ((y.1.length : Int) + 1))) := by
  refine fn_F T.F_House_len sc_House_len (fun _ => rfl) fun ⟨g, b⟩ Z0 Z Q X qX hQ => ?_
  obtain ⟨cdv, A, outer, s, E, rfl, hr⟩ := qX
  refine xs_ret (YE.to (xe_lenT T.z_len (xe_fld (xe_var 0) rfl T.c_House T.a_House_floors)) ?_) fun v H0 H s k hv => hQ v H0 H s k hv
  simp [li, rgI_len]
  rfl
/-- a house of this class -/
abbrev spCheckFloors (K : PySem.W.Frag) (C : Addr) : Sp := SpP (α := { p : (List Int × List Int) × List Int // ∀ x ∈ p.2, 0 ≤ x ∧ x ≤ p.1.1.length }) (fun p => [PHo K C p.1.1.1 p.1.1.2, PD K (.tuple (li p.1.2))]) (fun _ => PD K .none)
theorem ok_check_floors (T : Txt K mg) : FnOk P w K mg base CX0 3 T.f_check_floors T.d_check_floors ["house", "floors"] (spCheckFloors K T.C_House) := by
  refine fn_F T.F_check_floors sc_check_floors (fun _ => rfl) fun ⟨⟨⟨g, b⟩, fl⟩, hf⟩ Z0 Z Q X qX hQ => ?_
  obtain ⟨cdv, A, outer, s, E, rfl, hr⟩ := qX
  refine xs_forN 2 (xi_tup (xe_var 1)) (fun _ Γ1 Rs1 => Rs1 = [] ∧ ∃ a, Γ1 = [some (PHo K T.C_House g b), some (PD K (.tuple (li fl))), a]) ⟨rfl, none, rfl⟩ ?_ ?_ sc_check_floors.nd
  · rintro t Qt Γ1 Rs1 hq ⟨rfl, a, rfl⟩ Hs
    obtain ⟨d, hd, rfl⟩ := map_at hq
    obtain ⟨n, hn, rfl⟩ := li_at hd
    have h1 : 0 ≤ n ∧ n ≤ g.length := hf n (List.mem_of_getElem? hn)
    refine xs_skip (YT.eq (xt_niT (xe_var 2) (xe_prop (ok_House_floors T) (g, b) (xe_var 0) rfl T.c_House T.m_House_floors hr T.b_House_floors)) ?_) (xs_turn (fun σ H h => h) ⟨rfl, _, rfl⟩)
    have : n ∈ rgI 0 (g.length + 1) := mem_rgI.mpr (by omega)
    simp [this]
  · rintro Γ1 Rs1 ⟨rfl, a, rfl⟩
    exact xs_nil fun σ H0 H l s b k => hQ _ _ _ s k rfl
/-- the seconds between two floors -/
def far (g : List Int) (i j : Int) : Int := ((g.drop (min i j).toNat).take ((max i j).toNat - (min i j).toNat)).sum
abbrev spSeconds (K : PySem.W.Frag) (C : Addr) : Sp := SpP (α := { p : (List Int × List Int) × Int × Int // (0 ≤ p.2.1 ∧ p.2.1 ≤ p.1.1.length) ∧ 0 ≤ p.2.2 ∧ p.2.2 ≤ p.1.1.length }) (fun p => [PHo K C p.1.1.1 p.1.1.2, PD K (.int p.1.2.1), PD K (.int p.1.2.2)]) (fun p => PD K (.int (far p.1.1.1 p.1.2.1 p.1.2.2)))
theorem li_cut (g : List Int) (i j : Nat) : ((li g).drop i).take j = li ((g.drop i).take j) := by
  simp [li, List.map_drop, List.map_take]
theorem ok_House_seconds (T : Txt K mg) : FnOk P w K mg base CX0 4 T.f_House_seconds T.d_House_seconds ["self", "one", "other"] (spSeconds K T.C_House) := by
  refine fn_F T.F_House_seconds sc_House_seconds (fun _ => rfl) fun ⟨⟨⟨g, b⟩, i, j⟩, hi, hj⟩ Z0 Z Q X qX hQ => ?_
  obtain ⟨cdv, A, outer, s, E, rfl, hr⟩ := qX
  have hi' : 0 ≤ i ∧ i ≤ g.length := hi
  have hj' : 0 ≤ j ∧ j ≤ g.length := hj
  have h0 : 0 ≤ min i j := by omega
  have h1 : 0 ≤ max i j := by omega
  refine xs_expr (xe_callD (ok_check_floors T) ⟨((g, b), [i, j]), ?_⟩ hr T.g_check_floors T.F_check_floors.kp T.b_check_floors (xa_cons (xe_var 0) (xa_1 (xe_tup (ds := [.int i, .int j]) (xa_cons (xe_var 1) (xa_1 (xe_var 2))) (by simp))))) ?_
  · intro x hx
    have e : x = i ∨ x = j := by simpa using hx
    rcases e with rfl | rfl
    · exact hi
    · exact hj
  · refine xs_ret (xe_sumT T.z_sum (YE.to (xe_slT2 (xe_fld (xe_var 0) rfl T.c_House T.a_House_gaps) (xe_min2 T.z_min (xe_var 1) (xe_var 2)) (xe_max2 T.z_max (xe_var 1) (xe_var 2)) h0 h1) (by rw [li_cut]))) fun v H0 H s k hv => hQ v H0 H s k hv
abbrev spHouse (K : PySem.W.Frag) (C : Addr) : Sp := SpI C (α := { p : List Int × List Int // HouseOk p.1 p.2 }) (fun p => [PD K (.tuple (li p.1.1)), PD K (.tuple (li p.1.2))]) (fun p => flds K p.1.1 p.1.2)
theorem ok_House_init (T : Txt K mg) : FnOk P w K mg base CX0 2 T.f_House_init T.d_House_init ["self", "gaps", "bells"] (spHouse K T.C_House) := by
  refine fn_I T.F_House_init sc_House_init (fun _ => rfl) fun ⟨⟨g, bs⟩, hh⟩ o dx Z0 Z Q X qX hZ hQ => ?_
  obtain ⟨cdv, A, outer, s, E, rfl, hr⟩ := qX
  have h9 : g.length ≤ 9 := hh.gaps.nine
  refine xs_asg 3 (YE.to (P' := PD K (.tuple (li (rgI 0 (g.length + 1))))) (xe_tupRg T.z_tuple T.z_range (xe_add (xe_lenT T.z_len (xe_var 1)) xe_int) (by simp [li]; omega)) (by
    have e : ((li g).length : Int) + 1 = ((g.length + 1 : Nat) : Int) := by simp [li]
    rw [e]
    rfl)) ?_ sc_House_init.nd
  refine xs_expr (xe_callD (ok_check_gaps T) ⟨g, hh.gaps⟩ (hr.mono (by decide)) T.g_check_gaps T.F_check_gaps.kp T.b_check_gaps (xa_1 (xe_var 1))) ?_
  refine xs_expr (xe_callD (ok_check_bells T) ⟨(bs, rgI 0 (g.length + 1)), hh.bells⟩ (hr.mono (by decide)) T.g_check_bells T.F_check_bells.kp T.b_check_bells (xa_cons (xe_var 2) (xa_1 (xe_var 3)))) ?_
  refine xs_fld (xe_var 0) (xe_tupT T.z_tuple (xe_var 1)) T.c_House T.a_House_gaps (by simp) rfl (fun _ _ _ _ => hZ) ?_
  refine xs_fld (xe_var 0) (xe_tupT T.z_tuple (xe_var 2)) T.c_House T.a_House_bells (by simp) rfl (fun _ _ _ _ => hZ) ?_
  refine xs_fld (xe_var 0) (xe_var 3) T.c_House T.a_House_floors (by simp) rfl (fun _ _ _ _ => hZ) ?_
  exact xs_nil fun σ H0 H l s b k => hQ _ _ s k
end
end K42
namespace K42
open PySem L2 Lh
inductive Row where
  | go (s : Int) | bell (r : Bool) | door | look (l : List Int) | gap
def Row.ds : Row → List PyData
  | .go s => [.str "go", .int s]
  | .bell r => [.str "bell", .bool r]
  | .door => [.str "door"]
  | .look l => [.str "look", .tuple (li l)]
  | .gap => [.str "gap"]
def Row.kind : Row → Str
  | .go _ => "go"
  | .bell _ => "bell"
  | .door => "door"
  | .look _ => "look"
  | .gap => "gap"
def Row.Ok (g : List Int) : Row → Prop
  | .go s => 1 ≤ s ∧ s ≤ 81
  | .look l => (∀ x ∈ l, 0 ≤ x ∧ x ≤ g.length) ∧ l.length ≤ 1000
  | _ => True
theorem Row.k0 (r : Row) : atI r.ds 0 = some (.str r.kind) := by cases r <;> rfl
theorem Row.is_go {r : Row} (h : r.kind = "go") : ∃ s, r = .go s := by
  cases r with
  | go s => exact ⟨s, rfl⟩
  | bell _ => exact absurd h (show ¬ (("bell" : Str) = "go") by decide +kernel)
  | door  => exact absurd h (show ¬ (("door" : Str) = "go") by decide +kernel)
  | look _ => exact absurd h (show ¬ (("look" : Str) = "go") by decide +kernel)
  | gap  => exact absurd h (show ¬ (("gap" : Str) = "go") by decide +kernel)
theorem Row.is_look {r : Row} (h : r.kind = "look") : ∃ l, r = .look l := by
  cases r with
  | go _ => exact absurd h (show ¬ (("go" : Str) = "look") by decide +kernel)
  | bell _ => exact absurd h (show ¬ (("bell" : Str) = "look") by decide +kernel)
  | door  => exact absurd h (show ¬ (("door" : Str) = "look") by decide +kernel)
  | look l => exact ⟨l, rfl⟩
  | gap  => exact absurd h (show ¬ (("gap" : Str) = "look") by decide +kernel)
theorem Row.is_bell {r : Row} (h : r.kind = "bell") : ∃ b, r = .bell b := by
  cases r with
  | go _ => exact absurd h (show ¬ (("go" : Str) = "bell") by decide +kernel)
  | bell b => exact ⟨b, rfl⟩
  | door  => exact absurd h (show ¬ (("door" : Str) = "bell") by decide +kernel)
  | look _ => exact absurd h (show ¬ (("look" : Str) = "bell") by decide +kernel)
  | gap  => exact absurd h (show ¬ (("gap" : Str) = "bell") by decide +kernel)
theorem Row.is_gap {r : Row} (h : r.kind = "gap") : r = .gap := by
  cases r with
  | go _ => exact absurd h (show ¬ (("go" : Str) = "gap") by decide +kernel)
  | bell _ => exact absurd h (show ¬ (("bell" : Str) = "gap") by decide +kernel)
  | door  => exact absurd h (show ¬ (("door" : Str) = "gap") by decide +kernel)
  | look _ => exact absurd h (show ¬ (("look" : Str) = "gap") by decide +kernel)
  | gap  => exact rfl
/-- the floors to which a row leads -/
def nextF (g b : List Int) : Row → Int → List Int
  | .go s, f => (rgI 0 (g.length + 1)).filter fun o => decide (far g f o = s)
  | .gap, _ => rgI 0 (g.length + 1)
  | .bell r, f => if decide (f ∈ b) = r then [f] else []
  | .look l, f => if f ∈ l then [f] else []
  | .door, f => [f]
theorem fl_in {g : List Int} {n : Int} (h : n ∈ rgI 0 (g.length + 1)) : 0 ≤ n ∧ n ≤ g.length := by
  have := mem_rgI.mp h
  omega
abbrev spIsRow (K : PySem.W.Frag) (C : Addr) : Sp := SpP (α := { p : (List Int × List Int) × Row // p.2.Ok p.1.1 ∧ p.1.1.length ≤ 9 }) (fun p => [PHo K C p.1.1.1 p.1.1.2, PD K (.tuple p.1.2.ds)]) (fun _ => PD K (.bool true))
section
variable {K : PySem.W.Frag} {mg : Str → Option Value} {base : Heap} {P : Program} {w : World}
theorem ok_is_row_of (T : Txt K mg) : FnOk P w K mg base CX0 3 T.f_is_row_of T.d_is_row_of ["house", "row"] (spIsRow K T.C_House) := by
  refine fn_F T.F_is_row_of sc_is_row_of (fun _ => rfl) fun ⟨⟨⟨g, b⟩, r⟩, hr0, hg9⟩ Z0 Z Q X qX hQ => ?_
  obtain ⟨cdv, A, outer, s, E, rfl, hr⟩ := qX
  obtain ⟨t1, v1⟩ := T.v_LONGEST_GO
  have hok : r.Ok g := hr0
  refine xs_if (xt_eqS (K := K) (xe_ixT (xe_var 1) xe_int r.k0) xe_str) (fun hb => ?_) fun _ => xs_then ?_
  · obtain ⟨s, rfl⟩ := Row.is_go (of_decide_eq_true hb.symm)
    refine xs_ret (YE.dat (xe_lele (K := K) xe_int (xe_ixT (xe_var 1) xe_int rfl) (xe_gint v1)) ?_) fun v H0 H s k hv => hQ v H0 H s k hv
    have h : 1 ≤ s ∧ s ≤ 81 := hok
    simp [h.1, h.2]
  refine xs_if (xt_eqS (K := K) (xe_ixT (xe_var 1) xe_int r.k0) xe_str) (fun hb => ?_) fun _ => xs_then ?_
  · obtain ⟨l, rfl⟩ := Row.is_look (of_decide_eq_true hb.symm)
    have h : (∀ x ∈ l, 0 ≤ x ∧ x ≤ g.length) ∧ l.length ≤ 1000 := hok
    refine xs_ret (YE.dat (xe_allL (bs := l.map fun n => decide (n ∈ rgI 0 (g.length + 1))) T.z_all (YE.dat (xe_mapI 2 (fun n => .bool (decide (n ∈ rgI 0 (g.length + 1)))) (xi_tup (xe_ixT (xe_var 1) xe_int rfl)) (fun n hn s0 H0 C cl fp => xe_inT (xe_var 2) (xe_prop (ok_House_floors T) (g, b) (xe_var 0) rfl T.c_House T.m_House_floors (hr.mono (by decide)) T.b_House_floors))
      sc_is_row_of.nd (blkOk_by (own := [("floor", 2)]) (N := n_is_row_of) (sc := defScope s_is_row_of) (by decide +kernel)) (by omega) cov0 (fun _ _ _ _ _ => pg_name (i := 2) sc_is_row_of.nd rfl (Or.inl rfl))) ?_)) ?_) fun v H0 H s k hv => hQ v H0 H s k hv
    · rw [List.map_map]
      rfl
    · have e : (l.map fun n => decide (n ∈ rgI 0 (g.length + 1))).all id = true := by
        rw [List.all_map, List.all_eq_true]
        intro x hx
        have := h.1 x hx
        exact decide_eq_true (mem_rgI.mpr (by omega))
      rw [e]
  exact xs_ret (xe_bl (K := K)) fun v H0 H s k hv => hQ v H0 H s k hv
abbrev logD (rows : List Row) : PyData := .list (rows.map fun r => .tuple r.ds)
abbrev spCheckLog (K : PySem.W.Frag) (C : Addr) : Sp := SpP (α := { p : (List Int × List Int) × List Row // (∀ r ∈ p.2, r.Ok p.1.1) ∧ p.1.1.length ≤ 9 }) (fun p => [PHo K C p.1.1.1 p.1.1.2, PD K (logD p.1.2)]) (fun _ => PD K .none)
theorem row_at {rows : List Row} {t : Nat} {d : PyData} (h : (rows.map fun r => PyData.tuple r.ds)[t]? = some d) : ∃ r, rows[t]? = some r ∧ d = .tuple r.ds := by
  rw [List.getElem?_map] at h
  cases e : rows[t]? with
  | none =>
    rw [e] at h
    cases h
  | some n =>
    rw [e] at h
    exact ⟨n, rfl, (Option.some.inj h).symm⟩
theorem ok_check_log (T : Txt K mg) : FnOk P w K mg base CX0 4 T.f_check_log T.d_check_log ["house", "log"] (spCheckLog K T.C_House) := by
  refine fn_F T.F_check_log sc_check_log (fun _ => rfl) fun ⟨⟨⟨g, b⟩, rows⟩, hok, h9⟩ Z0 Z Q X qX hQ => ?_
  obtain ⟨cdv, A, outer, s, E, rfl, hr⟩ := qX
  refine xs_forP 2 3 (xi_enum T.z_enumerate (xe_var 1)) (fun _ Γ1 Rs1 => Rs1 = [] ∧ ∃ x y, Γ1 = [some (PHo K T.C_House g b), some (PD K (logD rows)), x, y]) ⟨rfl, none, none, rfl⟩ ?_ ?_ sc_check_log.nd
  · rintro t Qt Γ1 Rs1 hq ⟨rfl, x, y, rfl⟩
    obtain ⟨d, hd, rfl⟩ := enum_at hq
    obtain ⟨r, hn, rfl⟩ := row_at hd
    refine ⟨_, _, rfl, fun Hs => ?_⟩
    refine xs_skip (YT.eq (xt_notB (xt_bool (xe_callD (ok_is_row_of T) ⟨((g, b), r), hok r (List.mem_of_getElem? hn), h9⟩ hr T.g_is_row_of T.F_is_row_of.kp T.b_is_row_of (xa_cons (xe_var 0) (xa_1 (xe_var 3)))))) rfl) (xs_turn (fun σ H h => h) ⟨rfl, _, _, rfl⟩)
  · rintro Γ1 Rs1 ⟨rfl, x, y, rfl⟩
    exact xs_nil fun σ H0 H l s b k => hQ _ _ _ s k rfl
abbrev spCheckHearing (K : PySem.W.Frag) (C : Addr) : Sp := SpP (α := { p : (List Int × List Int) × List Int × List Row // (∀ r ∈ p.2.2, r.Ok p.1.1) ∧ p.1.1.length ≤ 9 ∧ ∀ x ∈ p.2.1, 0 ≤ x ∧ x ≤ p.1.1.length }) (fun p => [PHo K C p.1.1.1 p.1.1.2, PD K (.tuple (li p.1.2.1)), PD K (logD p.1.2.2)]) (fun _ => PD K .none)
theorem ok_check_hearing (T : Txt K mg) : FnOk P w K mg base CX0 5 T.f_check_hearing T.d_check_hearing ["house", "start", "log"] (spCheckHearing K T.C_House) := by
  refine fn_F T.F_check_hearing sc_check_hearing (fun _ => rfl) fun ⟨⟨⟨g, b⟩, st, rows⟩, hok, h9, hst⟩ Z0 Z Q X qX hQ => ?_
  obtain ⟨cdv, A, outer, s, E, rfl, hr⟩ := qX
  refine xs_expr (xe_callD (ok_check_floors T) ⟨((g, b), st), hst⟩ (hr.mono (by decide)) T.g_check_floors T.F_check_floors.kp T.b_check_floors (xa_cons (xe_var 0) (xa_1 (xe_var 1)))) ?_
  refine xs_expr (xe_callD (ok_check_log T) ⟨((g, b), rows), hok, h9⟩ hr T.g_check_log T.F_check_log.kp T.b_check_log (xa_cons (xe_var 0) (xa_1 (xe_var 2)))) ?_
  exact xs_nil fun σ H0 H l s b k => hQ _ _ _ s k rfl
abbrev spNext (K : PySem.W.Frag) (C : Addr) : Sp := SpP (α := { p : (List Int × List Int) × Row × Int // (0 ≤ p.2.2 ∧ p.2.2 ≤ p.1.1.length) ∧ p.1.1.length ≤ 9 }) (fun p => [PHo K C p.1.1.1 p.1.1.2, PD K (.tuple p.1.2.1.ds), PD K (.int p.1.2.2)]) (fun p => PD K (.list (li (nextF p.1.1.1 p.1.1.2 p.1.2.1 p.1.2.2))))
theorem ok_next_floors (T : Txt K mg) : FnOk P w K mg base CX0 5 T.f_next_floors T.d_next_floors ["house", "row", "floor"] (spNext K T.C_House) := by
  refine fn_F T.F_next_floors sc_next_floors (fun _ => rfl) fun ⟨⟨⟨g, b⟩, r, f⟩, hf, h9⟩ Z0 Z Q X qX hQ => ?_
  obtain ⟨cdv, A, outer, s, E, rfl, hr⟩ := qX
  have hf' : 0 ≤ f ∧ f ≤ g.length := hf
  have h9' : g.length ≤ 9 := h9
  refine xs_asg 3 (xe_ixT (xe_var 1) xe_int r.k0) ?_ sc_next_floors.nd
  refine xs_if (xt_eqS (K := K) (xe_var 3) xe_str) (fun hb => ?_) fun hA => xs_then ?_
  · obtain ⟨s, rfl⟩ := Row.is_go (of_decide_eq_true hb.symm)
    refine xs_ret (xe_filtI 4 (fun n => .int n) (fun o => decide (far g f o = s)) (xi_tup (xe_prop (ok_House_floors T) (g, b) (xe_var 0) rfl T.c_House T.m_House_floors (hr.mono (by decide)) T.b_House_floors))
      (fun n hn s0 H0 C cl fp => by
        refine xt_eqI (K := K) (i := far g f n) (j := s) ?_ ?_
        · exact xe_meth (ok_House_seconds T) ⟨((g, b), f, n), hf', fl_in hn⟩ (xe_var 0) (xa_cons (xe_var 2) (xa_1 (xe_var 4))) rfl rfl T.c_House T.m_House_seconds hr T.b_House_seconds
        · exact xe_ixT (xe_var 1) xe_int rfl)
      (fun n hn _ s0 H0 C cl fp => xe_var 4) sc_next_floors.nd (blkOk_by (own := [("other", 4)]) (N := n_next_floors) (sc := defScope s_next_floors) (by decide +kernel)) (by simp only [rgI_len]; omega) cov0 (fun _ _ _ _ _ => pg_name (i := 4) sc_next_floors.nd rfl (Or.inl rfl))) fun v H0 H s k hv => hQ v H0 H s k hv
  refine xs_if (xt_eqS (K := K) (xe_var 3) xe_str) (fun hb => ?_) fun hB => xs_then ?_
  · obtain rfl := Row.is_gap (of_decide_eq_true hb.symm)
    exact xs_ret (xe_listT T.z_list (xe_prop (ok_House_floors T) (g, b) (xe_var 0) rfl T.c_House T.m_House_floors (hr.mono (by decide)) T.b_House_floors)) fun v H0 H s k hv => hQ v H0 H s k hv
  refine xs_if (B := Is (match r with | .bell u => !decide (decide (f ∈ b) = u) | _ => false)) ?_ (fun hb => ?_) fun hb1 => xs_then ?_
  · refine YT.eq (xt_andB (v := (match r with | .bell u => !decide (decide (f ∈ b) = u) | _ => false)) (xt_eqS (K := K) (xe_var 3) xe_str) fun hb => ?_) ?_
    · obtain ⟨u, rfl⟩ := Row.is_bell (of_decide_eq_true hb)
      exact xt_neB (K := K) (xe_inT (xe_var 2) (xe_prop (ok_House_bells T) (g, b) (xe_var 0) rfl T.c_House T.m_House_bells (hr.mono (by decide)) T.b_House_bells)) (xe_ixT (xe_var 1) xe_int rfl)
    · cases r <;> simp [Row.kind]
  · cases r with
    | bell u =>
      have e : (!decide (decide (f ∈ b) = u)) = true := hb.symm
      refine xs_ret (YE.dat (xe_lst (ds := []) xa_nil (by simp)) ?_) fun v H0 H s k hv => hQ v H0 H s k hv
      have e2 : ¬ (decide (f ∈ b) = u) := by simpa using e
      show PyData.list [] = .list (li (if decide (f ∈ b) = u then [f] else []))
      rw [if_neg e2]
      rfl
    | go _ => exact Bool.noConfusion (show true = false from hb)
    | look _ => exact Bool.noConfusion (show true = false from hb)
    | door => exact Bool.noConfusion (show true = false from hb)
    | gap => exact Bool.noConfusion (show true = false from hb)
  refine xs_if (B := Is (match r with | .look l => !decide (f ∈ l) | _ => false)) ?_ (fun hb => ?_) fun hb2 => xs_then ?_
  · refine YT.eq (xt_andB (v := (match r with | .look l => !decide (f ∈ l) | _ => false)) (xt_eqS (K := K) (xe_var 3) xe_str) fun hb => ?_) ?_
    · obtain ⟨l, rfl⟩ := Row.is_look (of_decide_eq_true hb)
      exact xt_niT (xe_var 2) (xe_ixT (xe_var 1) xe_int rfl)
    · cases r <;> simp [Row.kind]
  · cases r with
    | look l =>
      have e : (!decide (f ∈ l)) = true := hb.symm
      refine xs_ret (YE.dat (xe_lst (ds := []) xa_nil (by simp)) ?_) fun v H0 H s k hv => hQ v H0 H s k hv
      have e2 : ¬ f ∈ l := by simpa using e
      show PyData.list [] = .list (li (if f ∈ l then [f] else []))
      rw [if_neg e2]
      rfl
    | go _ => exact Bool.noConfusion (show true = false from hb)
    | bell _ => exact Bool.noConfusion (show true = false from hb)
    | door => exact Bool.noConfusion (show true = false from hb)
    | gap => exact Bool.noConfusion (show true = false from hb)
  refine xs_ret (YE.dat (xe_lst (ds := [.int f]) (xa_1 (xe_var 2)) (by simp)) ?_) fun v H0 H s k hv => hQ v H0 H s k hv
  show PyData.list (li [f]) = .list (li (nextF g b r f))
  cases r with
  | go _ => exact absurd hA (by
      show ¬ (false = decide (("go" : Str) = "go"))
      decide +kernel)
  | gap => exact absurd hB (by
      show ¬ (false = decide (("gap" : Str) = "gap"))
      decide +kernel)
  | door => rfl
  | bell u =>
    have e : false = (!decide (decide (f ∈ b) = u)) := hb1
    have e2 : decide (f ∈ b) = u := by simpa using e
    show _ = PyData.list (li (if decide (f ∈ b) = u then [f] else []))
    rw [if_pos e2]
  | look l =>
    have e : false = (!decide (f ∈ l)) := hb2
    have e2 : f ∈ l := by simpa using e
    show _ = PyData.list (li (if f ∈ l then [f] else []))
    rw [if_pos e2]
end
end K42
namespace Lh
open PySem L2
open Evl (Ex ex_l ex_t ex_rd fresh_back)
section
variable {M : Addr → Prop} {Γ Γ' : Ct} {Rs : List Res} {X : Cx} {Z0 Z Hl : Hp} {D : Ends} {K : PySem.W.Frag} {rest : List Stmt} {a b c o e : Expr} {pos p : Pos} {i j k : Int}
theorem enc_at {τ : Type} {enc : τ → PyData} {xs : List τ} {t : Nat} {d : PyData} (h : (xs.map enc)[t]? = some d) : ∃ x, xs[t]? = some x ∧ d = enc x := by
  rw [List.getElem?_map] at h
  cases e : xs[t]? with
  | none =>
    rw [e] at h
    cases h
  | some n =>
    rw [e] at h
    exact ⟨n, rfl, (Option.some.inj h).symm⟩
theorem xe_mapG {τ : Type} (enc : τ → PyData) (xs : List τ) (j : Nat) {x : Str} {elt iter : Expr} {scope : Scope} {pos xp : Pos} (f : τ → PyData) (hi : XI M Γ Rs X (.Name x xp) iter ((xs.map enc).map (PD X.K))) (ht : ∀ d, d ∈ xs → Blk X scope fun Y => XE M (blkG Γ j (PD X.K (enc d))) Rs Y elt (PD X.K (f d)))
    (hN : X.N.Nodup) (ok : BlkOk X.N X.env.scope scope [(x, j)]) (hz : xs.length ≤ 100000) (cv : Cov M Rs) (hg : BlkG X scope x xp j) (hc : X.calm = true := by rfl) (hs : ∀ x, foldedSetIterable iter X.env x = pure x := by intro _; rfl) :
    XE M Γ Rs X (.ListComp elt [⟨.Name x xp, iter, [], 0⟩] scope pos) (PD X.K (.list (xs.map f))) :=
  (xe_lc (K := X.K) j hi (fun i es => es = (xs.take i).map f) rfl (fun i Q hq => by
    obtain ⟨d', hd', e⟩ := map_at hq
    obtain ⟨d, hd, e2⟩ := enc_at hd'
    subst e e2
    intro s0 H0 C cl fp
    refine YE.imp (ht d (List.mem_of_getElem? hd) s0 H0 C cl fp) fun v H h => ⟨f d, fun es _ he => ?_, h⟩
    dsimp only at he ⊢
    rw [he, List.take_add_one, hd]
    simp) hN ok (by rw [List.length_map, List.length_map]; exact hz) cv hg hc hs).imp fun v H ⟨es, ⟨h1, _⟩, h2⟩ => by
    rw [List.length_map, List.length_map, List.take_length] at h1
    subst h1
    exact h2
theorem xe_filtG {τ : Type} (enc : τ → PyData) (xs : List τ) (j : Nat) {x : Str} {elt iter c : Expr} {scope : Scope} {pos xp : Pos} (f : τ → PyData) (t : τ → Bool) (hi : XI M Γ Rs X (.Name x xp) iter ((xs.map enc).map (PD X.K))) (hc' : ∀ d, d ∈ xs → Blk X scope fun Y => XT M (blkG Γ j (PD X.K (enc d))) Rs Y c (Is (t d)))
    (ht : ∀ d, d ∈ xs → t d = true → Blk X scope fun Y => XE M (blkG Γ j (PD X.K (enc d))) Rs Y elt (PD X.K (f d)))
    (hN : X.N.Nodup) (ok : BlkOk X.N X.env.scope scope [(x, j)]) (hz : xs.length ≤ 100000) (cv : Cov M Rs) (hg : BlkG X scope x xp j) (hc : X.calm = true := by rfl) (hs : ∀ x, foldedSetIterable iter X.env x = pure x := by intro _; rfl) :
    XE M Γ Rs X (.ListComp elt [⟨.Name x xp, iter, [c], 0⟩] scope pos) (PD X.K (.list ((xs.filter t).map f))) :=
  (xe_lcIf (K := X.K) j hi (fun i es => es = ((xs.take i).filter t).map f) rfl (fun i Q hq => by
    obtain ⟨d', hd', e⟩ := map_at hq
    obtain ⟨d, hd, e2⟩ := enc_at hd'
    subst e e2
    have hm := List.mem_of_getElem? hd
    refine ⟨Is (t d), hc' d hm, fun hb s0 H0 C cl fp => ?_, fun hb es he => ?_⟩
    · refine YE.imp (ht d hm hb.symm s0 H0 C cl fp) fun v H h => ⟨f d, fun es _ he => ?_, h⟩
      dsimp only at he ⊢
      rw [he, List.take_add_one, hd]
      simp [← hb]
    · dsimp only at he ⊢
      rw [he, List.take_add_one, hd]
      simp [← hb]) hN ok (by rw [List.length_map, List.length_map]; exact hz) cv hg hc hs).imp fun v H ⟨es, ⟨h1, _⟩, h2⟩ => by
    rw [List.length_map, List.length_map, List.take_length] at h1
    subst h1
    exact h2
/-- y = [f x for x in xs], a statement -/
theorem xs_mapG {τ : Type} (enc : τ → PyData) (xs : List τ) (i j : Nat) {x y : Str} {elt iter : Expr} {scope : Scope} {pos spos xp py : Pos} (f : τ → PyData) (hi : XI M Γ Rs X (.Name x xp) iter ((xs.map enc).map (PD X.K))) (ht : ∀ d, d ∈ xs → Blk X scope fun Y => XE M (blkG Γ j (PD X.K (enc d))) Rs Y elt (PD X.K (f d)))
    (k : XS M (Γ.set i (some (PD X.K (.list (xs.map f))))) Rs X Z0 Z Hl D rest) (hN : X.N.Nodup) (ok : BlkOk X.N X.env.scope scope [(x, j)]) (hz : xs.length ≤ 100000) (cv : Cov M Rs) (hg : BlkG X scope x xp j)
    (hsw : swapsWith (.ListComp elt [⟨.Name x xp, iter, [], 0⟩] scope pos) (some (.Name y py)) spos.line X.env = pure true) (hy : X.N[i]? = some y := by rfl) (hyl : X.env.scope.names.lookup y = some .local := by rfl) (hc : X.calm = true := by rfl) (hs : ∀ x, foldedSetIterable iter X.env x = pure x := by intro _; rfl) :
    XS M Γ Rs X Z0 Z Hl D (.Assign [.Name y py] (.ListComp elt [⟨.Name x xp, iter, [], 0⟩] scope pos) spos :: rest) :=
  xs_lc (K := X.K) i j hi (fun i es => es = (xs.take i).map f) rfl (fun i Q hq => by
    obtain ⟨d', hd', e⟩ := map_at hq
    obtain ⟨d, hd, e2⟩ := enc_at hd'
    subst e e2
    intro s0 H0 C cl fp
    refine YE.imp (ht d (List.mem_of_getElem? hd) s0 H0 C cl fp) fun v H h => ⟨f d, fun es _ he => ?_, h⟩
    dsimp only at he ⊢
    rw [he, List.take_add_one, hd]
    simp) (fun ds ⟨h1, _⟩ => by
    rw [List.length_map, List.length_map, List.take_length] at h1
    subst h1
    exact k) hN ok (by rw [List.length_map, List.length_map]; exact hz) cv hg hsw hy hyl hc hs
theorem xs_filtG {τ : Type} (enc : τ → PyData) (xs : List τ) (i j : Nat) {x y : Str} {elt iter c : Expr} {scope : Scope} {pos spos xp py : Pos} (f : τ → PyData) (t : τ → Bool) (hi : XI M Γ Rs X (.Name x xp) iter ((xs.map enc).map (PD X.K))) (hc' : ∀ d, d ∈ xs → Blk X scope fun Y => XT M (blkG Γ j (PD X.K (enc d))) Rs Y c (Is (t d)))
    (ht : ∀ d, d ∈ xs → t d = true → Blk X scope fun Y => XE M (blkG Γ j (PD X.K (enc d))) Rs Y elt (PD X.K (f d))) (k : XS M (Γ.set i (some (PD X.K (.list ((xs.filter t).map f))))) Rs X Z0 Z Hl D rest) (hN : X.N.Nodup) (ok : BlkOk X.N X.env.scope scope [(x, j)]) (hz : xs.length ≤ 100000) (cv : Cov M Rs) (hg : BlkG X scope x xp j)
    (hsw : swapsWith (.ListComp elt [⟨.Name x xp, iter, [c], 0⟩] scope pos) (some (.Name y py)) spos.line X.env = pure true) (hy : X.N[i]? = some y := by rfl) (hyl : X.env.scope.names.lookup y = some .local := by rfl) (hc : X.calm = true := by rfl) (hs : ∀ x, foldedSetIterable iter X.env x = pure x := by intro _; rfl) :
    XS M Γ Rs X Z0 Z Hl D (.Assign [.Name y py] (.ListComp elt [⟨.Name x xp, iter, [c], 0⟩] scope pos) spos :: rest) :=
  xs_lcIf (K := X.K) i j hi (fun i es => es = ((xs.take i).filter t).map f) rfl (fun i Q hq => by
    obtain ⟨d', hd', e⟩ := map_at hq
    obtain ⟨d, hd, e2⟩ := enc_at hd'
    subst e e2
    have hm := List.mem_of_getElem? hd
    refine ⟨Is (t d), hc' d hm, fun hb s0 H0 C cl fp => ?_, fun hb es he => ?_⟩
    · refine YE.imp (ht d hm hb.symm s0 H0 C cl fp) fun v H h => ⟨f d, fun es _ he => ?_, h⟩
      dsimp only at he ⊢
      rw [he, List.take_add_one, hd]
      simp [← hb]
    · dsimp only at he ⊢
      rw [he, List.take_add_one, hd]
      simp [← hb]) (fun ds ⟨h1, _⟩ => by
    rw [List.length_map, List.length_map, List.take_length] at h1
    subst h1
    exact k) hN ok (by rw [List.length_map, List.length_map]; exact hz) cv hg hsw hy hyl hc hs

/-! ### a list at hand is read -/
theorem xe_ixM {q : Addr} {Ps : List Pd} {P : Pd} (ha : XE M Γ (Res.lst Z q Ps :: Rs) X a (PV (.ref q))) (hb : XE M Γ (Res.lst Z q Ps :: Rs) X b (PD X.K (.int i))) (h : atI Ps i = some P) (hs : PlainIx b := by exact fun _ _ => rfl) : XE M Γ (Res.lst Z q Ps :: Rs) X (.Subscript a b pos) P :=
  YE.wp (pe_ix ix_list pe_wp pe_wp hs) (ye_op ha hb fun x y H0 H hx hy e r => by
    obtain ⟨_, _, xs, hq, hd⟩ := r.2 _ List.mem_cons_self
    unfold atI at h
    cases e1 : ixN Ps.length i with
    | none =>
      rw [e1] at h
      cases h
    | some t =>
      rw [e1] at h
      obtain ⟨v, h1, h2⟩ := hd.2 t P h
      refine Yld.val (z := v) e h2 fun Q k => ⟨q, xs, i, v, hx, hy, SqL.of hq, ?_, k⟩
      unfold atI
      rw [hd.1, e1]
      exact h1)
theorem xe_lenM {q : Addr} {Ps : List Pd} (hm : X.mg "len" = none) (ha : XE M Γ (Res.lst Z q Ps :: Rs) X a (PV (.ref q))) (hg : Gl X "len" := by rfl) (he : starEach [a] X.env = (false, eval a X.env) :: starEach [] X.env := by rfl) : XE M Γ (Res.lst Z q Ps :: Rs) X (.Call (.Name "len" p) [a] [] pos) (PD X.K (.int (Ps.length : Int))) :=
  xe_callB call_len_seq hm PySem.boot_len (xa_1 ha he) (fun xs H0 H hx e r => by
    obtain ⟨x, e1, h1⟩ := da1 hx
    obtain ⟨_, _, ys, hq, hd⟩ := r.2 _ List.mem_cons_self
    have h1' : x = .ref q := h1
    subst e1 h1'
    exact Yld.val (z := .int (ys.length : Int)) e (by rw [hd.1]; rfl) fun Q k => ⟨q, ys, rfl, .inl (SqL.of hq), k⟩) hg (by decide) (by decide) he rfl
/-- a list or a tuple -/
def PSeq (K : PySem.W.Frag) (ds : List PyData) : Pd := ⟨fun v H => Dd K H (.list ds) v ∨ Dd K H (.tuple ds) v, fun e h => h.imp (Dd.ex e _ _) (Dd.ex e _ _)⟩
theorem xe_ixS {ds : List PyData} {d : PyData} (ha : XE M Γ Rs X a (PSeq X.K ds)) (hb : XE M Γ Rs X b (PD X.K (.int i))) (h : atI ds i = some d) (hs : PlainIx b := by exact fun _ _ => rfl) : XE M Γ Rs X (.Subscript a b pos) (PD X.K d) :=
  YE.wp (pe_ix ix_seq pe_wp pe_wp hs) (ye_op ha hb fun x y H0 H hx hy e _ => by
    rcases hx with hx | hx
    · exact fun Q q => .inl (yl_ixL h hx hy e Q q)
    · exact fun Q q => .inr (.inl (yl_ixT h hx hy e Q q)))

/-! ### more statements -/
/-- x, y = e -/
theorem xs_unp (i j : Nat) {x y : Str} {e : Expr} {P Q : Pd} {px py pt : Pos} {kt : Nat} {pos : Pos} (he : XE M Γ Rs X e (PT2 X.K P Q)) (h : XS M ((Γ.set i (some P)).set j (some Q)) Rs X Z0 Z Hl D rest) (hN : X.N.Nodup) (hc : X.calm = true := by rfl) (hx : X.N[i]? = some x := by rfl) (hy : X.N[j]? = some y := by rfl)
    (hl : Loc X.env.scope x := by first | exact Or.inl rfl | exact Or.inr rfl) (hl2 : Loc X.env.scope y := by first | exact Or.inl rfl | exact Or.inr rfl)
    (hf : X.fn x = true ∨ X.env.scope.names.lookup x = some .local := by first | exact .inl rfl | exact .inr rfl) (hf2 : X.fn y = true ∨ X.env.scope.names.lookup y = some .local := by first | exact .inl rfl | exact .inr rfl)
    (hs : swapsWithSole [.Tuple [.Name x px, .Name y py] kt pt] e pos.line X.env = pure false := by rfl) (hw : swappedStores [.Tuple [.Name x px, .Name y py] kt pt] e X.env = pure none := by rfl)
    (h1 : (assignEach [.Tuple [.Name x px, .Name y py] kt pt] X.env).map (·.2) = [assign (.Tuple [.Name x px, .Name y py] kt pt) X.env] := by rfl) : XS M Γ Rs X Z0 Z Hl D (.Assign [.Tuple [.Name x px, .Name y py] kt pt] e pos :: rest) :=
  xs_cons (ps_asg pe_wp (pg_tup hc (pgs_cons (pg_name hN hx hl hf) (pgs_cons (pg_name hN hy hl2 hf2) pgs_nil))) hs hw h1) fun σ H0 H l s b r => he σ H0 H l s.le r _ fun v H1 G1 s1 k1 hv =>
    gv_pair v σ H1 G1 (l.ex s1.ex) s1.le hv _ fun σ' l' => h σ' H1 G1 l' (s.trans s1) (b.trans s1.ex) k1
theorem pt2_of {d1 d2 : PyData} {v : V} {H : Hp} (h : (PD K (.tuple [d1, d2])).p v H) : (PT2 K (PD K d1) (PD K d2)).p v H := by
  obtain ⟨a, xs, e, h1, x, r, e1, h2, y, r', e2, h3, e3⟩ := h
  have e3' : r' = [] := e3
  subst e1 e2 e3'
  exact ⟨a, x, y, e, h1, h2, h3⟩
theorem xe_pt2 {d1 d2 : PyData} (h : XE M Γ Rs X a (PD X.K (.tuple [d1, d2]))) : XE M Γ Rs X a (PT2 X.K (PD X.K d1) (PD X.K d2)) := h.imp fun v H p => pt2_of p
/-- x += e, x -= e, ints -/
theorem xs_augI (n : Nat) {x : Str} {e : Expr} {op : Operator} {f : Int → Int → Int} {pos pos' : Pos} (ho : PIp X op (rI0 fun i j => .int (f i j))) (hx : Γ[n]? = some (some (PD X.K (.int i)))) (he : XE M Γ Rs X e (PD X.K (.int j))) (h : XS M (Γ.set n (some (PD X.K (.int (f i j))))) Rs X Z0 Z Hl D rest) (hN : X.N.Nodup)
    (hi : X.N[n]? = some x := by rfl) (hl : Loc X.env.scope x := by first | exact Or.inl rfl | exact Or.inr rfl) (hf : X.fn x = true ∨ X.env.scope.names.lookup x = some .local := by first | exact .inl rfl | exact .inr rfl) : XS M Γ Rs X Z0 Z Hl D (.AugAssign (.Name x pos') op e pos :: rest) :=
  xs_cons (ps_aug hN hi hl pe_wp ho hf) fun σ H0 H l s b r => by
    obtain ⟨v, h1, h2⟩ := l.2 n _ hx
    have h2' : v = .int i := h2
    subst h2'
    refine ⟨_, h1, he σ H0 H l s.le r _ fun y H1 G1 s1 k1 hy => ?_⟩
    have hy' : y = .int j := hy
    subst hy'
    exact ⟨i, j, rfl, rfl, h _ H1 G1 ((l.ex s1.ex).set rfl) (s.trans s1) (b.trans s1.ex) k1⟩
theorem xs_addI (n : Nat) {x : Str} {e : Expr} {pos pos' : Pos} (hx : Γ[n]? = some (some (PD X.K (.int i)))) (he : XE M Γ Rs X e (PD X.K (.int j))) (h : XS M (Γ.set n (some (PD X.K (.int (i + j))))) Rs X Z0 Z Hl D rest) (hN : X.N.Nodup)
    (hi : X.N[n]? = some x := by rfl) (hl : Loc X.env.scope x := by first | exact Or.inl rfl | exact Or.inr rfl) (hf : X.fn x = true ∨ X.env.scope.names.lookup x = some .local := by first | exact .inl rfl | exact .inr rfl) : XS M Γ Rs X Z0 Z Hl D (.AugAssign (.Name x pos') .Add e pos :: rest) := xs_augI n (f := fun i j => i + j) iop_add hx he h hN hi hl hf
theorem xs_subI (n : Nat) {x : Str} {e : Expr} {pos pos' : Pos} (hx : Γ[n]? = some (some (PD X.K (.int i)))) (he : XE M Γ Rs X e (PD X.K (.int j))) (h : XS M (Γ.set n (some (PD X.K (.int (i - j))))) Rs X Z0 Z Hl D rest) (hN : X.N.Nodup)
    (hi : X.N[n]? = some x := by rfl) (hl : Loc X.env.scope x := by first | exact Or.inl rfl | exact Or.inr rfl) (hf : X.fn x = true ∨ X.env.scope.names.lookup x = some .local := by first | exact .inl rfl | exact .inr rfl) : XS M Γ Rs X Z0 Z Hl D (.AugAssign (.Name x pos') .Sub e pos :: rest) := xs_augI n (f := fun i j => i - j) iop_sub hx he h hN hi hl hf
end
end Lh
namespace Lh
open PySem L2
open Evl (Ex ex_l ex_t ex_rd fresh_back)
section
variable {M : Addr → Prop} {Γ Γ' : Ct} {Rs : List Res} {X : Cx} {Z0 Z Hl : Hp} {D : Ends} {K : PySem.W.Frag} {rest : List Stmt} {a b c o e : Expr} {pos p : Pos} {i j k : Int}
theorem xs_frzK (i : Nat) {q : Addr} {ds : List PyData} {Ps : List Pd} (eP : Ps = ds.map (PD X.K)) (hi : Γ[i]? = some (some (PV (.ref q)))) (h : XS M (Γ.set i (some (PD X.K (.list ds)))) Rs X Z0 Z Hl D rest) : XS M Γ (Res.lst Z q Ps :: Rs) X Z0 Z Hl D rest := by
  subst eP
  exact xs_frz i hi h
end
end Lh
namespace K42
open PySem L2 Lh
abbrev eL (es : List Int) : PyData := .list (li es)
abbrev eLL (l : List (List Int)) : PyData := .list (l.map eL)
abbrev eLLL (l : List (List (List Int))) : PyData := .list (l.map eLL)
def gtI (v : List Int) (i : Int) : Int := v.getD i.toNat 0
theorem atI_ints {v : List Int} {i : Int} (h0 : 0 ≤ i) (h1 : i < v.length) : atI (li v) i = some (.int (gtI v i)) := by
  have hlt : i.toNat < v.length := by omega
  have e : i = (i.toNat : Int) := by omega
  have q : (li v)[i.toNat]? = some (.int (gtI v i)) := by simp [li, gtI, hlt]
  have r := atI_nat q
  rw [← e] at r
  exact r
def sumAt (v fl : List Int) : Int := (fl.map fun f => gtI v f).sum
def linksM (g b : List Int) (rows : List Row) : List (List (List Int)) := rows.map fun r => (rgI 0 (g.length + 1)).map fun f => nextF g b r f
def stepM (l : List (List Int)) (beh : List Int) : List Int := l.map fun es => sumAt beh es
def numsM (n : Nat) : List (List (List Int)) → List (List Int)
  | [] => [List.replicate n 1]
  | l :: ls => stepM l ((numsM n ls).headD []) :: numsM n ls
theorem numsM_cons (n : Nat) (ls : List (List (List Int))) : ∃ r, numsM n ls = (numsM n ls).headD [] :: r := by
  cases ls with
  | nil => exact ⟨[], rfl⟩
  | cons l ls => exact ⟨_, rfl⟩
theorem numsM_len (n : Nat) : ∀ ls, (numsM n ls).length = ls.length + 1
  | [] => rfl
  | l :: ls => by
    show (numsM n ls).length + 1 = _
    rw [numsM_len n ls]
    rfl
structure LinksOk (n : Nat) (ls : List (List (List Int))) : Prop where
  size : ls.length ≤ 1000
  wide : ∀ l ∈ ls, l.length = n
  ends : ∀ l ∈ ls, ∀ es ∈ l, es.length ≤ n ∧ ∀ e ∈ es, 0 ≤ e ∧ e < (n : Int)
theorem numsM_wide {n : Nat} : ∀ {ls : List (List (List Int))}, (∀ l ∈ ls, l.length = n) → ∀ v ∈ numsM n ls, v.length = n
  | [], _, v, hv => by
    have e : v = List.replicate n 1 := by simpa [numsM] using hv
    rw [e, List.length_replicate]
  | l :: ls, h, v, hv => by
    rcases List.mem_cons.mp hv with e | hv
    · rw [e]
      show (l.map _).length = n
      rw [List.length_map]
      exact h l List.mem_cons_self
    · exact numsM_wide (fun l hl => h l (List.mem_cons_of_mem _ hl)) v hv
theorem head_wide {n : Nat} {ls : List (List (List Int))} (h : ∀ l ∈ ls, l.length = n) : ((numsM n ls).headD []).length = n := by
  obtain ⟨r, e⟩ := numsM_cons n ls
  exact numsM_wide h _ (by rw [e]; exact List.mem_cons_self)
theorem rep_one {α : Type} (a : α) : ∀ n : Nat, (List.replicate n [a]).flatten = List.replicate n a
  | 0 => rfl
  | n + 1 => by
    rw [List.replicate_succ, List.flatten_cons, rep_one a n]
    rfl
theorem nextF_in {g b : List Int} {r : Row} {f e : Int} (hf : 0 ≤ f ∧ f ≤ g.length) (h : e ∈ nextF g b r f) : 0 ≤ e ∧ e ≤ g.length := by
  cases r with
  | go s =>
    have := (List.mem_filter.mp h).1
    exact fl_in this
  | gap => exact fl_in h
  | door =>
    have e2 : e = f := by simpa [nextF] using h
    subst e2
    exact hf
  | bell u =>
    have h' : e ∈ (if decide (f ∈ b) = u then [f] else []) := h
    split at h'
    · have e2 : e = f := by simpa using h'
      subst e2
      exact hf
    · cases h'
  | look l =>
    have h' : e ∈ (if f ∈ l then [f] else []) := h
    split at h'
    · have e2 : e = f := by simpa using h'
      subst e2
      exact hf
    · cases h'
theorem nextF_len {g b : List Int} {r : Row} {f : Int} : (nextF g b r f).length ≤ g.length + 1 := by
  cases r with
  | go s => exact Nat.le_trans (List.length_filter_le _ _) (by rw [rgI_len]; exact Nat.le_refl _)
  | gap => exact Nat.le_of_eq rgI_len
  | door => simp [nextF]
  | bell u =>
    show (if decide (f ∈ b) = u then [f] else []).length ≤ _
    split <;> simp
  | look l =>
    show (if f ∈ l then [f] else []).length ≤ _
    split <;> simp
theorem linksM_ok {g b : List Int} {rows : List Row} (h : rows.length ≤ 1000) : LinksOk (g.length + 1) (linksM g b rows) where
  size := by
    unfold linksM
    rw [List.length_map]
    exact h
  wide := fun l hl => by
    obtain ⟨r, _, rfl⟩ := List.mem_map.mp hl
    rw [List.length_map, rgI_len]
  ends := fun l hl es he => by
    obtain ⟨r, _, rfl⟩ := List.mem_map.mp hl
    obtain ⟨f, hf, rfl⟩ := List.mem_map.mp he
    refine ⟨nextF_len, fun e h => ?_⟩
    have := nextF_in (fl_in hf) h
    omega
section
variable {K : PySem.W.Frag} {mg : Str → Option Value} {base : Heap} {P : Program} {w : World}
abbrev spLinks (K : PySem.W.Frag) (C : Addr) : Sp := SpP (α := { p : (List Int × List Int) × List Row // p.1.1.length ≤ 9 ∧ p.2.length ≤ 1000 }) (fun p => [PHo K C p.1.1.1 p.1.1.2, PD K (logD p.1.2)]) (fun p => PD K (eLLL (linksM p.1.1.1 p.1.1.2 p.1.2)))
theorem ok_links_of (T : Txt K mg) : FnOk P w K mg base CX0 6 T.f_links_of T.d_links_of ["house", "log"] (spLinks K T.C_House) := by
  refine fn_F T.F_links_of sc_links_of (fun _ => rfl) fun ⟨⟨⟨g, b⟩, rows⟩, h9, hlen⟩ Z0 Z Q X qX hQ => ?_
  obtain ⟨cdv, A, outer, s, E, rfl, hr⟩ := qX
  have h9' : g.length ≤ 9 := h9
  have hlen' : rows.length ≤ 1000 := hlen
  refine xs_ret (YE.dat (xe_mapG (fun r : Row => PyData.tuple r.ds) rows 3 (fun r => eLL ((rgI 0 (g.length + 1)).map fun f => nextF g b r f)) (xi_list (xe_var 1)) (fun r hr' s0 H0 C cl fp => by
      refine YE.dat (xe_mapI 2 (fun f => eL (nextF g b r f)) (xi_tup (xe_prop (ok_House_floors T) (g, b) (xe_var 0) rfl T.c_House T.m_House_floors (hr.mono (by decide)) T.b_House_floors)) (fun n hn s1 H1 C1 cl1 fp1 => by
          exact xe_callD (ok_next_floors T) ⟨((g, b), r, n), fl_in hn, h9⟩ hr T.g_next_floors T.F_next_floors.kp T.b_next_floors (xa_cons (xe_var 0) (xa_cons (xe_var 3) (xa_1 (xe_var 2))))) sc_links_of.nd
        (blkOk_by rfl) (by simp only [rgI_len]; omega) cov0 (fun _ _ _ _ _ => pg_name (i := 2) sc_links_of.nd rfl (Or.inl rfl))) ?_
      show PyData.list _ = PyData.list _
      rw [List.map_map]
      rfl) sc_links_of.nd (blkOk_by rfl) (by omega) cov0 (fun _ _ _ _ _ => pg_name (i := 3) sc_links_of.nd rfl (Or.inr rfl))) ?_) fun v H0 H s k hv => hQ v H0 H s k hv
  show PyData.list _ = PyData.list _
  rw [show linksM g b rows = rows.map fun r => (rgI 0 (g.length + 1)).map fun f => nextF g b r f from rfl, List.map_map]
  rfl
abbrev spNums (K : PySem.W.Frag) (C : Addr) : Sp := SpP (α := { p : (List Int × List Int) × List (List (List Int)) // p.1.1.length ≤ 9 ∧ LinksOk (p.1.1.length + 1) p.2 }) (fun p => [PHo K C p.1.1.1 p.1.1.2, PD K (eLLL p.1.2)]) (fun p => PD K (eLL (numsM (p.1.1.1.length + 1) p.1.2)))
theorem ok_numbers_ahead (T : Txt K mg) : FnOk P w K mg base CX0 3 T.f_numbers_ahead T.d_numbers_ahead ["house", "links"] (spNums K T.C_House) := by
  refine fn_F T.F_numbers_ahead sc_numbers_ahead (fun _ => rfl) fun ⟨⟨⟨g, b⟩, ls⟩, h9, hok⟩ Z0 Z Q X qX hQ => ?_
  obtain ⟨cdv, A, outer, s, E, rfl, hr⟩ := qX
  have h9' : g.length ≤ 9 := h9
  have hok' : LinksOk (g.length + 1) ls := hok
  have hsz := hok'.size
  refine xs_newL 2 (ds := [eL (List.replicate (g.length + 1) 1)]) (xa_1 (YE.dat (xe_repL (k := ((g.length : Int) + 1)) (xe_lst (ds := [.int 1]) (xa_1 xe_int) (by simp)) (xe_lenO (ok_House_len T) (g, b) T.z_len (xe_var 0) rfl rfl (by omega) T.m_House_len.at_ T.m_House_len.fn (hr.mono (by decide)) T.b_House_len) (by omega) (by simp; omega)) ?_)) (by simp) (fun q => ?_) cov0 sc_numbers_ahead.nd
  · have e : ((g.length : Int) + 1).toNat = g.length + 1 := by omega
    rw [e, rep_one]
    simp [li]
  refine xs_forN 3 (xi_rev T.z_reversed (xe_var 1)) (fun t Γ1 Rs1 => (∃ x1 x2, Γ1 = [some (PHo K T.C_House g b), some (PD K (eLLL ls)), some (PV (.ref q)), x1, x2, none, none]) ∧ Rs1 = [Res.lst Z q (((numsM (g.length + 1) (ls.drop (ls.length - t))).reverse.map eL).map (PD K))]) ⟨⟨none, none, rfl⟩, ?_⟩ ?_ ?_ sc_numbers_ahead.nd
  · rw [Nat.sub_zero, List.drop_length]
    rfl
  · rintro t Qt Γ1 Rs1 hq ⟨⟨x1, x2, rfl⟩, rfl⟩ Hs
    obtain ⟨d, hd, rfl⟩ := map_at hq
    have hlt : t < ls.length := by
      have := (List.getElem?_eq_some_iff.mp hd).1
      simpa using this
    have hpos : ls.length - 1 - t < ls.length := by omega
    have hd2 : d = eLL (ls[ls.length - 1 - t]) := by
      rw [← List.map_reverse] at hd
      obtain ⟨l, hl, rfl⟩ := enc_at hd
      rw [List.getElem?_reverse hlt, List.getElem?_eq_getElem hpos] at hl
      rw [Option.some.inj hl]
    subst hd2
    have hmem : ls[ls.length - 1 - t] ∈ ls := List.getElem_mem _
    generalize hl : ls[ls.length - 1 - t] = l at hmem
    have hdrop : ls.drop (ls.length - (t + 1)) = l :: ls.drop (ls.length - t) := by
      have e1 : ls.length - (t + 1) = ls.length - 1 - t := by omega
      have e2 : ls.length - t = ls.length - 1 - t + 1 := by omega
      rw [e1, e2, List.drop_eq_getElem_cons hpos, hl]
    generalize hsuf : ls.drop (ls.length - t) = suf at hdrop
    have hsufw : ∀ l ∈ suf, l.length = g.length + 1 := fun l hl => hok'.wide l (List.mem_of_mem_drop (hsuf ▸ hl))
    obtain ⟨r, hr2⟩ := numsM_cons (g.length + 1) suf
    have hw := head_wide hsufw
    generalize hbeh : (numsM (g.length + 1) suf).headD [] = beh at hr2 hw
    have hends := hok'.ends l hmem
    have hwid := hok'.wide l hmem
    refine xs_asg 4 (xe_ixM (q := q) (P := PD K (eL beh)) (xe_var 2) (xe_neg xe_int) ?_) ?_ sc_numbers_ahead.nd
    · rw [hr2, List.reverse_cons, List.map_append, List.map_append]
      exact atI_last _ _
    refine xs_app (q := q) (P := PD K (eL (stepM l beh))) (xe_var 2) (YE.dat (xe_mapG eL l 6 (fun es => .int (sumAt beh es)) (xi_list (xe_var 3)) (fun es hes s0 H0 C cl fp => by
        refine xe_sumL T.z_sum (YE.dat (xe_mapI 5 (fun e => .int (gtI beh e)) (xi_list (xe_var 6)) (fun e he s1 H1 C1 cl1 fp1 => by
            refine xe_ixL (xe_var 4) (xe_var 5) (atI_ints ?_ ?_)
            · exact ((hends es hes).2 e he).1
            · have := ((hends es hes).2 e he).2
              omega) sc_numbers_ahead.nd (blkOk_by rfl) (by have := (hends es hes).1; omega) cov0 (fun _ _ _ _ _ => pg_name (i := 5) sc_numbers_ahead.nd rfl (Or.inl rfl))) ?_)
        unfold li
        rw [List.map_map]
        rfl) sc_numbers_ahead.nd (blkOk_by rfl) (by omega) cov0 (fun _ _ _ _ _ => pg_name (i := 6) sc_numbers_ahead.nd rfl (Or.inl rfl))) ?_) ?_ ?_ (pe_bm PySem.F.plainAttrs_list PySem.F.slot_list_append PySem.F.type_list_append mt_append pe_wp (pa_cons pe_wp pa_nil))
    · show PyData.list _ = PyData.list _
      unfold stepM li
      rw [List.map_map]
      rfl
    · rw [List.length_map, List.length_map, List.length_reverse, numsM_len]
      have : suf.length ≤ 1000 := by
        rw [← hsuf, List.length_drop]
        omega
      omega
    · refine xs_turn (fun σ H h => h) ⟨⟨_, _, rfl⟩, ?_⟩
      have e : numsM (g.length + 1) (l :: suf) = stepM l beh :: numsM (g.length + 1) suf := by
        show stepM l ((numsM (g.length + 1) suf).headD []) :: _ = _
        rw [hbeh]
      rw [hdrop, e, List.reverse_cons, List.map_append, List.map_append]
      rfl
  · rintro Γ1 Rs1 ⟨⟨x1, x2, rfl⟩, rfl⟩
    refine xs_frzK 2 rfl rfl ?_
    refine xs_ret (YE.dat (xe_revL (xe_var 2)) ?_) fun v H0 H s k hv => hQ v H0 H s k hv
    rw [← List.map_reverse, List.reverse_reverse]
    simp
end
end K42
namespace Lh
open PySem L2
open Evl (Ex ex_l ex_t ex_rd fresh_back)
/-- the box of what is still to be drawn: a list of a list of ints and an int -/
def Res.boxC (b l : Addr) (ns : List Int) (z : Int) : Res where
  ad := [b, l]
  p := fun H0 H => H0 b = none ∧ H0 l = none ∧ H b = some (.lst [.ref l, .int z]) ∧ H l = some (.lst (ns.map V.int))
  st := fun {H0 H H0' H'} e n q ⟨_, _, h2, h3⟩ => ⟨n b (by simp), n l (by simp), by rw [q b (by simp)]; exact h2, by rw [q l (by simp)]; exact h3⟩
  tr := fun {H0 H} ⟨h0, h1, h2, h3⟩ a ha => by
    obtain e | ha := List.mem_cons.mp ha
    · subst e
      exact ⟨⟨_, h2⟩, h0⟩
    · have e : a = l := by simpa using ha
      subst e
      exact ⟨⟨_, h3⟩, h1⟩
def Res.box (b l : Addr) : Res where
  ad := [b, l]
  p := fun H0 H => ∃ ns z, (Res.boxC b l ns z).p H0 H
  st := fun {H0 H H0' H'} e n q ⟨ns, z, h⟩ => ⟨ns, z, (Res.boxC b l ns z).st e n q h⟩
  tr := fun {H0 H} ⟨ns, z, h⟩ a ha => (Res.boxC b l ns z).tr h a ha
def MB (b l : Addr) : Addr → Prop := fun a => a = b ∨ a = l
section
variable {M M' : Addr → Prop} {Γ Γ' : Ct} {Rs : List Res} {X : Cx} {Z0 Z Hl : Hp} {D : Ends} {K : PySem.W.Frag} {rest : List Stmt} {a o e : Expr} {pos p : Pos} {i j k : Int} {b l : Addr} {ns ns' : List Int} {z z' : Int}
theorem cov_box : Cov (MB b l) (Res.box b l :: Rs) := fun H0 H k a ha => by
  obtain ⟨ns, z, _, _, h2, h3⟩ := k.2 _ List.mem_cons_self
  rcases ha with e | e
  · subst e
    exact ⟨_, h2⟩
  · subst e
    exact ⟨_, h3⟩
theorem xs_weak (i : ∀ a, M a → M' a) (h : XS M' Γ Rs X Z0 Z Hl D rest) : XS M Γ Rs X Z0 Z Hl D rest := fun σ H0 H l s b k => h σ H0 H l (s.imp i) b k
theorem box_ne {H0 H : Hp} (k : Rok (Res.boxC b l ns z :: Rs) H0 H) : b ≠ l := fun e => by
  have nd := k.1
  rw [List.flatMap_cons, List.nodup_append] at nd
  have := nd.1
  simp [Res.boxC, e] at this
theorem box_wr {H0 H H' : Hp} (k : Rok (Res.boxC b l ns z :: Rs) H0 H) (s : Step M Z0 Z H0 H) (hb : H' b = some (.lst [.ref l, .int z'])) (hl : H' l = some (.lst (ns'.map V.int))) (ho : ∀ a, a ≠ b → a ≠ l → H' a = H a) (mb : M b ∨ Z b = none) (ml : M l ∨ Z l = none) :
    Rok (Res.boxC b l ns' z' :: Rs) H0 H' ∧ Step M Z0 Z H0 H' := by
  obtain ⟨h0, h1, h2, h3⟩ := k.2 _ List.mem_cons_self
  have nd := k.1
  rw [List.flatMap_cons, List.nodup_append] at nd
  have ne : ∀ r ∈ Rs, ∀ a ∈ r.ad, ∀ c ∈ [b, l], a ≠ c := fun r hr a ha c hc e => nd.2.2 c hc a (List.mem_flatMap.mpr ⟨r, hr, ha⟩) e.symm
  refine ⟨⟨k.1, fun r hr => ?_⟩, ⟨fun a u hm ha => ?_, fun a u ha => ?_, s.ex, fun a u ha => ?_, s.nw⟩⟩
  · obtain e | hr := List.mem_cons.mp hr
    · subst e
      exact ⟨h0, h1, hb, hl⟩
    · have hr' := k.2 r (List.mem_cons_of_mem _ hr)
      exact r.st (Ex.refl _) (fun a ha => (r.tr hr' a ha).2) (fun a ha => ho a (ne r hr a ha b (by simp)) (ne r hr a ha l (by simp))) hr'
  · by_cases e : a = b
    · subst e
      rcases mb with m | m
      · exact absurd m hm
      · rw [m] at ha
        cases ha
    · by_cases e2 : a = l
      · subst e2
        rcases ml with m | m
        · exact absurd m hm
        · rw [m] at ha
          cases ha
      · rw [ho a e e2]
        exact s.un a u hm ha
  · by_cases e : a = b
    · subst e
      exact ⟨_, hb⟩
    · by_cases e2 : a = l
      · subst e2
        exact ⟨_, hl⟩
      · rw [ho a e e2]
        exact s.th a u ha
  · have n1 : a ≠ b := fun e => by
      subst e
      rw [h0] at ha
      cases ha
    have n2 : a ≠ l := fun e => by
      subst e
      rw [h1] at ha
      cases ha
    rw [ho a n1 n2]
    exact s.le a u ha
/-! ### the box is read -/
theorem xe_bx0 (ho : XE M Γ (Res.boxC b l ns z :: Rs) X o (PV (.ref b))) {kc : Nat} {pc : Pos} : XE M Γ (Res.boxC b l ns z :: Rs) X (.Subscript o (.Constant (.int 0) kc pc) pos) (PV (.ref l)) :=
  YE.wp (pe_ix ix_list pe_wp pe_wp (fun _ _ => rfl)) (ye_op ho (xe_int (K := X.K)) fun x y H0 H hx hy e r => by
    obtain ⟨_, _, h2, h3⟩ := r.2 _ List.mem_cons_self
    refine Yld.val (z := .ref l) e rfl fun Q k => ⟨b, _, 0, _, hx, hy, SqL.of h2, rfl, k⟩)
theorem xe_bx1 (ho : XE M Γ (Res.boxC b l ns z :: Rs) X o (PV (.ref b))) {kc : Nat} {pc : Pos} : XE M Γ (Res.boxC b l ns z :: Rs) X (.Subscript o (.Constant (.int 1) kc pc) pos) (PD K (.int z)) :=
  YE.wp (pe_ix ix_list pe_wp pe_wp (fun _ _ => rfl)) (ye_op ho (xe_int (K := X.K)) fun x y H0 H hx hy e r => by
    obtain ⟨_, _, h2, h3⟩ := r.2 _ List.mem_cons_self
    refine Yld.val (z := .int z) e rfl fun Q k => ⟨b, _, 1, _, hx, hy, SqL.of h2, rfl, k⟩)
theorem xe_bxi {n : Int} (ho : XE M Γ (Res.boxC b l (n :: ns) z :: Rs) X o (PV (.ref l))) {kc : Nat} {pc : Pos} : XE M Γ (Res.boxC b l (n :: ns) z :: Rs) X (.Subscript o (.Constant (.int 0) kc pc) pos) (PD K (.int n)) :=
  YE.wp (pe_ix ix_list pe_wp pe_wp (fun _ _ => rfl)) (ye_op ho (xe_int (K := X.K)) fun x y H0 H hx hy e r => by
    obtain ⟨_, _, h2, h3⟩ := r.2 _ List.mem_cons_self
    refine Yld.val (z := .int n) e rfl fun Q k => ⟨l, _, 0, _, hx, hy, SqL.of h3, ?_, k⟩
    have : ((n :: ns).map V.int)[0]? = some (V.int n) := rfl
    exact atI_nat this)
theorem eqv_nil : ∀ ns : List Int, PyData.eqv (.list (li ns)) (.list []) = decide (ns = [])
  | [] => rfl
  | n :: ns => rfl
theorem shaped_li (ns : List Int) : SeqAt.shaped (.list (li ns)) = true := PySem.W.shaped_ints ns
theorem xt_bxe {n : Nat} (hr : Room n X.A) (ho : XE M Γ (Res.boxC b l ns z :: Rs) X o (PV (.ref l))) {pl : Pos} : XT M Γ (Res.boxC b l ns z :: Rs) X (.Compare o [.Eq] [.List [] pl] pos) (Is (decide (ns = []))) :=
  xt_cmp (K := X.K) (op_eqD (room_u hr)) ho (xe_lst (ds := []) xa_nil (by simp)) (fun x y H0 H hx hy e r => by
    obtain ⟨_, _, h2, h3⟩ := r.2 _ List.mem_cons_self
    have d1 : Dd X.K H (.list (li ns)) x := ⟨l, _, hx, h3, DdAll.of_ints ns⟩
    refine (Yld.val (z := .bl (decide (ns = []))) (C := PD X.K (.bool (decide (ns = [])))) e rfl fun Q q => ⟨_, _, Dd.dp _ x d1, Dd.dp _ y (Dd.ex e _ _ hy), shaped_li ns, rfl, ?_⟩).pb
    rw [eqv_nil]
    exact q) (nomark _)
/-! ### the box is written -/
theorem xs_bx1 {kc : Nat} {pc p2 : Pos} (he : XE M Γ (Res.boxC b l ns z :: Rs) X e (PD X.K (.int z'))) (ho : XE M Γ (Res.boxC b l ns z :: Rs) X o (PV (.ref b))) (mb : M b ∨ Z b = none) (ml : M l ∨ Z l = none) (h : XS M Γ (Res.boxC b l ns z' :: Rs) X Z0 Z Hl D rest)
    (hs : swapsWithSole [.Subscript o (.Constant (.int 1) kc pc) p2] e pos.line X.env = pure false := by rfl) (hw : swappedStores [.Subscript o (.Constant (.int 1) kc pc) p2] e X.env = pure none := by rfl)
    (h1 : (assignEach [.Subscript o (.Constant (.int 1) kc pc) p2] X.env).map (·.2) = [assign (.Subscript o (.Constant (.int 1) kc pc) p2) X.env] := by rfl) : XS M Γ (Res.boxC b l ns z :: Rs) X Z0 Z Hl D (.Assign [.Subscript o (.Constant (.int 1) kc pc) p2] e pos :: rest) :=
  xs_cons (ps_asg pe_wp (pg_sub pe_wp pe_wp set_list) hs hw h1) fun σ H0 H l' s b' r => he σ H0 H l' s.le r _ fun v H1 G1 s1 k1 hv => ho σ H1 G1 (l'.ex s1.ex) s1.le k1 _ fun v2 H2 G2 s2 k2 hv2 => (xe_int (K := X.K)) σ H2 G2 (l'.ex (s1.ex.trans s2.ex)) s2.le k2 _ fun v3 H3 G3 s3 k3 hv3 => by
    have t := ((s.trans s1).trans s2).trans s3
    have hne := box_ne k3
    obtain ⟨_, _, h2, h3⟩ := k3.2 _ List.mem_cons_self
    have hv' : v = .int z' := hv
    have hv2' : v2 = .ref b := hv2
    have hv3' : v3 = .int 1 := hv3
    subst hv' hv2' hv3'
    refine ⟨b, _, 1, 1, rfl, rfl, h2, rfl, ?_⟩
    obtain ⟨k4, s4⟩ := box_wr (H' := upd G3 b (.lst ([V.ref l, .int z].set 1 (.int z')))) k3 t upd_same (by rw [upd_ne hne.symm]; exact h3) (fun a n1 n2 => upd_ne n1) mb ml
    exact h _ H3 _ (l'.ex ((s1.ex.trans s2.ex).trans s3.ex)) s4 (b'.trans ((s1.ex.trans s2.ex).trans s3.ex)) k4
theorem xs_bx0 {n n' : Int} {kc : Nat} {pc p2 : Pos} (he : XE M Γ (Res.boxC b l (n :: ns) z :: Rs) X e (PD X.K (.int n'))) (ho : XE M Γ (Res.boxC b l (n :: ns) z :: Rs) X o (PV (.ref l))) (mb : M b ∨ Z b = none) (ml : M l ∨ Z l = none) (h : XS M Γ (Res.boxC b l (n' :: ns) z :: Rs) X Z0 Z Hl D rest)
    (hs : swapsWithSole [.Subscript o (.Constant (.int 0) kc pc) p2] e pos.line X.env = pure false := by rfl) (hw : swappedStores [.Subscript o (.Constant (.int 0) kc pc) p2] e X.env = pure none := by rfl)
    (h1 : (assignEach [.Subscript o (.Constant (.int 0) kc pc) p2] X.env).map (·.2) = [assign (.Subscript o (.Constant (.int 0) kc pc) p2) X.env] := by rfl) : XS M Γ (Res.boxC b l (n :: ns) z :: Rs) X Z0 Z Hl D (.Assign [.Subscript o (.Constant (.int 0) kc pc) p2] e pos :: rest) :=
  xs_cons (ps_asg pe_wp (pg_sub pe_wp pe_wp set_list) hs hw h1) fun σ H0 H l' s b' r => he σ H0 H l' s.le r _ fun v H1 G1 s1 k1 hv => ho σ H1 G1 (l'.ex s1.ex) s1.le k1 _ fun v2 H2 G2 s2 k2 hv2 => (xe_int (K := X.K)) σ H2 G2 (l'.ex (s1.ex.trans s2.ex)) s2.le k2 _ fun v3 H3 G3 s3 k3 hv3 => by
    have t := ((s.trans s1).trans s2).trans s3
    have hne := box_ne k3
    obtain ⟨_, _, h2, h3⟩ := k3.2 _ List.mem_cons_self
    have hv' : v = .int n' := hv
    have hv2' : v2 = .ref l := hv2
    have hv3' : v3 = .int 0 := hv3
    subst hv' hv2' hv3'
    refine ⟨l, _, 0, 0, rfl, rfl, h3, ?_, ?_⟩
    · unfold ixN
      rw [if_pos (by decide), if_pos (by simp)]
      rfl
    obtain ⟨k4, s4⟩ := box_wr (H' := upd G3 l (.lst ((((n :: ns).map V.int)).set 0 (.int n')))) (ns' := n' :: ns) k3 t (by rw [upd_ne hne]; exact h2) upd_same (fun a n1 n2 => upd_ne n2) mb ml
    exact h _ H3 _ (l'.ex ((s1.ex.trans s2.ex).trans s3.ex)) s4 (b'.trans ((s1.ex.trans s2.ex).trans s3.ex)) k4
/-- o.pop(0) -/
theorem xs_bxpop {n : Int} {kc : Nat} {pc apos cpos : Pos} (ho : XE M Γ (Res.boxC b l (n :: ns) z :: Rs) X o (PV (.ref l))) (mb : M b ∨ Z b = none) (ml : M l ∨ Z l = none) (h : XS M Γ (Res.boxC b l ns z :: Rs) X Z0 Z Hl D rest)
    (hpe : PE X (.Call (.Attribute o "pop" apos) [.Constant (.int 0) kc pc] [] cpos) (tBM X.K "list" rPopAt (wpE X o) (tCons (wpE X (.Constant (.int 0) kc pc)) tNil))) (hs : swapsWith (.Call (.Attribute o "pop" apos) [.Constant (.int 0) kc pc] [] cpos) none pos.line X.env = pure false := by rfl) :
    XS M Γ (Res.boxC b l (n :: ns) z :: Rs) X Z0 Z Hl D (.Expr (.Call (.Attribute o "pop" apos) [.Constant (.int 0) kc pc] [] cpos) pos :: rest) :=
  xs_cons (ps_expr hpe hs) fun σ H0 H l' s b' r => ho σ H0 H l' s.le r _ fun v H1 G1 s1 k1 hv => by
    have hv' : v = .ref l := hv
    subst hv'
    obtain ⟨_, _, _, h3⟩ := k1.2 _ List.mem_cons_self
    refine ⟨.inl ⟨rfl, _, SqL.of h3⟩, ?_⟩
    have h0 : XE M Γ (Res.boxC b l (n :: ns) z :: Rs) X (.Constant (.int 0) kc pc) (PD X.K (.int 0)) := xe_int
    refine h0 σ H1 G1 (l'.ex s1.ex) s1.le k1 _ fun y H2 G2 s2 k2 hy => ?_
    have hy' : y = .int 0 := hy
    subst hy'
    have t := (s.trans s1).trans s2
    have hne := box_ne k2
    obtain ⟨_, _, h2, h3⟩ := k2.2 _ List.mem_cons_self
    refine ⟨l, _, 0, 0, .int n, rfl, rfl, h3, by decide, by decide, ?_, rfl, ?_⟩
    · exact seqIndex_of (by decide) (by simp)
    obtain ⟨k4, s4⟩ := box_wr (H' := upd G2 l (.lst (((n :: ns).map V.int).eraseIdx 0))) (ns' := ns) k2 t (by rw [upd_ne hne]; exact h2) upd_same (fun a n1 n2 => upd_ne n2) mb ml
    exact h _ H2 _ (l'.ex (s1.ex.trans s2.ex)) s4 (b'.trans (s1.ex.trans s2.ex)) k4
/-- the box is opened, and closed -/
theorem xs_open (h : ∀ ns z, XS M Γ (Res.boxC b l ns z :: Rs) X Z0 Z Hl D rest) : XS M Γ (Res.box b l :: Rs) X Z0 Z Hl D rest := fun σ H0 H l' s b' k => by
  obtain ⟨ns, z, q⟩ := k.2 _ List.mem_cons_self
  exact h ns z σ H0 H l' s b' ⟨k.1, fun r hr => by
    obtain e | hr := List.mem_cons.mp hr
    · subst e
      exact q
    · exact k.2 r (List.mem_cons_of_mem _ hr)⟩
theorem Rok.close {H0 H : Hp} (k : Rok (Res.boxC b l ns z :: Rs) H0 H) : Rok (Res.box b l :: Rs) H0 H := ⟨k.1, fun r hr => by
  obtain e | hr := List.mem_cons.mp hr
  · subst e
    exact ⟨ns, z, k.2 _ List.mem_cons_self⟩
  · exact k.2 r (List.mem_cons_of_mem _ hr)⟩
open PySem.Spec PyProof.Rows in
theorem op_mulB : OpR X (binaryOp .Mult) (rI (fun _ j => Builtin.Int.intBits j ≤ 64) fun i j => .int (i * j)) := opI fun _ _ _ _ _ _ _ hc q => mul_int q (IntMulOk.of_right hc)
theorem xe_mulB {c d : Expr} (ha : XE M Γ Rs X c (PD K (.int i))) (hb : XE M Γ Rs X d (PD K (.int j))) (h : Builtin.Int.intBits j ≤ 64) : XE M Γ Rs X (.BinOp c .Mult d pos) (PD K (.int (i * j))) := xe_bin op_mulB ha hb fun x y H0 H hx hy e _ => yl_I h (fun _ => rfl) hx hy e
end
end Lh
namespace Lh
open PySem L2
open Evl (Ex ex_l ex_t ex_rd fresh_back)
/-- the script -/
def PSc (K : PySem.W.Frag) (ns : List Int) : Pd := ⟨fun v H => ∃ a, v = .ref a ∧ SqL K H a (ns.map V.int), fun e ⟨a, h1, h2⟩ => ⟨a, h1, ex_l e h2⟩⟩
/-- a promise that tells what the heap is behind it -/
def SpG {α : Type} (pre : α → List Pd) (post : α → V → Hp → Hp → Prop) : Sp := fun vs H Q _ => ∃ (x : α) (H0 : Hp), Ex H0 H ∧ DAll (pre x) vs H0 ∧ ∀ v H', post x v H H' → Q v H'
/-- a new box, all else as it was -/
def NewBox (v : V) (H H' : Hp) : Prop := ∃ (b l : Addr) (ns : List Int) (z : Int), v = .ref b ∧ b ≠ l ∧ H b = none ∧ H l = none ∧ Ex H H' ∧ H' b = some (.lst [.ref l, .int z]) ∧ H' l = some (.lst (ns.map V.int))
section
variable {K : PySem.W.Frag} {mg : Str → Option Value} {base : Heap} {P : Program} {w : World}
theorem fn_G {α : Type} {pre : α → List Pd} {post : α → V → Hp → Hp → Prop} {x qual : Str} {st : Stmt} {f : Addr} {fd : FuncData} {N ps : List Str} {k : Nat} (F : Fun K x qual st f fd) (S : FnScope N ps (defScope st)) (len : ∀ y, (pre y).length = ps.length)
    (hb : ∀ (y : α) (Z0 Z : Hp) (Q : VK) (X : Cx) (qX : ∃ (cdv : Value) (A : Around) (outer : List Env) (s : Shared) (E : XK), X = (cxOf CX0 P w K mg base N qual (defScope st) f cdv A outer s Z E).nox ∧ Room k X.A), (∀ v H', post y v Z H' → Q v H') →
      XS M0 (ctOf N (pre y)) [] X Z0 Z Z0 { nx := fun _ H' => Q .non H', rt := Q } (defBody st)) : FnOk P w K mg base CX0 (k + 1) f fd ps (SpG pre post) := by
  refine F.ok S (fun vs H Q E h => ?_) (fun cdv A outer s H vs Q E hr h => ?_)
  · obtain ⟨y, H0, _, h, _⟩ := h
    rw [h.1, len]
  · obtain ⟨y, H0, e, h, q⟩ := h
    exact ⟨_, pss_wp, hb y H0 H Q _ ⟨cdv, A, outer, s, E, rfl, hr⟩ q _ H0 H (sl_start h) (Step.rfl e) (Ex.refl _) Rok.nil⟩
end
section
variable {M M' : Addr → Prop} {Γ Γ' : Ct} {Rs : List Res} {X : Cx} {Z0 Z Hl : Hp} {D : Ends} {K : PySem.W.Frag} {rest : List Stmt} {a o e : Expr} {pos p : Pos} {i j k : Int} {b l : Addr} {ns ns' : List Int} {z z' : Int}
theorem xi_sc {tg e : Expr} (h : XE M Γ Rs X e (PSc X.K ns)) : XI M Γ Rs X tg e ((li ns).map (PD X.K)) := fun σ H0 H l ex k R r => PI.wp (pi_list pe_wp) (h σ H0 H l ex k _ fun v H1 G1 s1 k1 ⟨a, e1, h1⟩ =>
  ⟨a, e1, ⟨_, ex_l s1.le h1⟩, r _ H1 G1 s1 k1 (wk_list h1 (DdAll.of_ints ns))⟩)
theorem xe_lenSc (hm : X.mg "len" = none) (ha : XE M Γ Rs X a (PSc X.K ns)) (hg : Gl X "len" := by rfl) (he : starEach [a] X.env = (false, eval a X.env) :: starEach [] X.env := by rfl) : XE M Γ Rs X (.Call (.Name "len" p) [a] [] pos) (PD X.K (.int (ns.length : Int))) :=
  xe_callB call_len_seq hm PySem.boot_len (xa_1 ha he) (fun xs H0 H hx e r => by
    obtain ⟨x, e1, q, e2, h1⟩ := da1 hx
    subst e1 e2
    exact Yld.val (z := .int ((ns.map V.int).length : Int)) e (by rw [List.length_map]; rfl) fun Q k => ⟨q, _, rfl, .inl (ex_l e h1), k⟩) hg (by decide) (by decide) he rfl
/-- return [list(script), e] -/
theorem xs_retBox {f : Expr} {p1 p2 p3 : Pos} (hm : X.mg "list" = none) (ha : XE M0 Γ [] X a (PSc X.K ns)) (he : XE M0 Γ [] X f (PD X.K (.int z))) (h : ∀ v H, NewBox v Z H → D.rt v H) (hg : Gl X "list" := by rfl) (hs : starEach [a] X.env = (false, eval a X.env) :: starEach [] X.env := by rfl)
    (hs2 : starEach [.Call (.Name "list" p1) [a] [] p2, f] X.env = (false, eval (.Call (.Name "list" p1) [a] [] p2) X.env) :: starEach [f] X.env := by rfl) (hs3 : starEach [f] X.env = (false, eval f X.env) :: starEach [] X.env := by rfl) : XS M0 Γ [] X Z0 Z Hl D (.Return (some (.List [.Call (.Name "list" p1) [a] [] p2, f] p3)) pos :: rest) :=
  xs_cons (ps_ret (pe_lst (pa_cons (pe_callTy call_list_of hg hm (by decide +kernel) (pa_cons pe_wp pa_nil hs) (by decide) (by decide) hs rfl) (pa_cons pe_wp pa_nil hs3) hs2))) fun σ H0 H l s b k => by
    refine ha σ H0 H l s.le k _ fun v H1 G1 s1 k1 hv => ?_
    obtain ⟨q, e1, h1⟩ := hv
    subst e1
    refine ⟨q, _, rfl, .inl (ex_l s1.le h1), fun c hc => ?_⟩
    have t1 := s.trans s1
    have t2 := t1.trans (Step.new (M := M0) (o := HO.lst (ns.map V.int)) t1.le hc)
    refine he σ _ _ (l.ex (s1.ex.trans (Ex.new (fresh_back t1.le hc)))) t2.le (k1.step0 (Step.new t1.le hc)) _ fun v2 H2 G2 s2 k2 hv2 => ?_
    have hv2' : v2 = .int z := hv2
    subst hv2'
    refine ⟨by simp; decide, fun d hd => h _ _ ⟨d, c, ns, z, rfl, ?_, ?_, ?_, ?_, upd_same, ?_⟩⟩
    · intro e
      subst e
      obtain ⟨u, hu⟩ := s2.th d _ upd_same
      rw [hd] at hu
      cases hu
    · cases hz : Z d with
      | none => rfl
      | some u =>
        obtain ⟨u', hu⟩ := (t2.trans s2).th d u hz
        rw [hd] at hu
        cases hu
    · cases hz : Z c with
      | none => rfl
      | some u =>
        obtain ⟨u', hu⟩ := t1.th c u hz
        rw [hc] at hu
        cases hu
    · intro x u hx
      have := (t2.trans s2).un x u (fun z => z) hx
      rw [upd_ne (ne_of_none this hd)]
      exact this
    · have := s2.un c _ (fun z => z) upd_same
      rw [upd_ne (ne_of_none this hd)]
      exact this
/-- box = begun(script) -/
theorem xs_begun {P' : Program} {w' : World} {K' : PySem.W.Frag} {mg' : Str → Option Value} {base' : Heap} (n : Nat) {x fn : Str} {f : Addr} {fd : FuncData} {ps : List Str} {kk : Nat} {pf p2 p3 : Pos} (F : FnOk P' w' K' mg' base' CX0 kk f fd ps (SpG (α := List Int) (fun ns => [PSc K' ns]) (fun _ => NewBox))) (hr : Room kk X.A) (hm : mg' fn = some (.ref f)) (hk : PySem.W.keepIn K' (.ref f) = true)
    (hb : Binds K' fd ps []) (ha : XE M0 Γ [] X a (PSc K' ns)) (h : ∀ b l, b ≠ l → Z b = none → Z l = none → XS M0 (Γ.set n (some (PV (.ref b)))) [Res.box b l] X Z0 Z Hl D rest) (hN : X.N.Nodup) (hi : X.N[n]? = some x := by rfl) (hx : Loc X.env.scope x := by first | exact Or.inl rfl | exact Or.inr rfl)
    (hg : Gl X fn := by rfl) (hdb : (fn == ("__debug__" : Str)) = false := by decide) (he : starEach [a] X.env = (false, eval a X.env) :: starEach [] X.env := by rfl) (hs : swapsWith (.Call (.Name fn pf) [a] [] p2) (some (.Name x p3)) pos.line X.env = pure false := by rfl) (hf : X.fn x = true ∨ X.env.scope.names.lookup x = some .local := by first | exact .inl rfl | exact .inr rfl)
    (eP : X.prog = P' := by rfl) (ew : X.w = w' := by rfl) (eK : X.K = K' := by rfl) (em : X.mg = mg' := by rfl) (eb : X.base = base' := by rfl) : XS M0 Γ [] X Z0 Z Hl D (.Assign [.Name x p3] (.Call (.Name fn pf) [a] [] p2) pos :: rest) := by
  subst eP ew eK em eb
  refine xs_cons (ps_set hN hi hx (pe_call F hr hg hm hk hb (dvs := []) .nil pass0 (pa_cons pe_wp pa_nil he) hdb he rfl) hs hf) fun σ H0 H l s b k => ha σ H0 H l s.le k _ fun v H1 G1 s1 k1 hv => ?_
  refine ⟨ns, H1, s1.le, ?_, fun u G2 nb => ?_⟩
  · exact DAll.cons hv DAll.nil
  · obtain ⟨q, c, ns2, z2, e1, hne, hq, hc, ex2, g1, g2⟩ := nb
    subst e1
    have t := s.trans s1
    have fr : ∀ a, G1 a = none → Z a = none := fun a ha => by
      cases hz : Z a with
      | none => rfl
      | some u =>
        obtain ⟨u', hu⟩ := t.th a u hz
        rw [ha] at hu
        cases hu
    refine h q c hne (fr q hq) (fr c hc) _ H1 G2 ((l.ex s1.ex).set rfl) ⟨fun a u hm ha => ex2 a u (t.un a u hm ha), fun a u ha => ?_, t.ex, fun a u ha => ex2 a u (t.le a u ha), t.nw⟩ (b.trans s1.ex) ⟨?_, fun r hr => ?_⟩
    · obtain ⟨u', hu⟩ := t.th a u ha
      exact ⟨u', ex2 a u' hu⟩
    · simp [Res.box, hne]
    · have e : r = Res.box q c := by simpa using hr
      subst e
      exact ⟨ns2, z2, fresh_back t.le hq, fresh_back t.le hc, g1, g2⟩
end
end Lh
namespace Lh
open PySem L2
open Evl (Ex ex_l ex_t ex_rd fresh_back)
/-! ### over one of many -/
def XIE (M : Addr → Prop) (Γ : Ct) (Rs : List Res) (X : Cx) (tg iter : Expr) (AN : Int → Prop) (Qf : Int → List Pd) : Prop :=
  ∀ (σ : L2.St) (H0 H : Hp), Sl Γ σ H0 → Ex H0 H → Rok Rs H0 H → ∀ R : It → Hp → Prop, (∀ J H0' H', Step M H0 H H0' H' → Rok Rs H0' H' → (∃ n, AN n ∧ Wk J (Qf n) H0') → R J H') → wpI X tg iter σ H R
section
variable {M : Addr → Prop} {Γ Γ' : Ct} {Rs : List Res} {X : Cx} {Z0 Z Hl : Hp} {D : Ends} {K : PySem.W.Frag} {rest : List Stmt}
theorem xi_rangeE {AN : Int → Prop} {tg a : Expr} {p pos : Pos} (hm : X.mg "range" = none) (h : XE M Γ Rs X a (PEx AN fun n => PD K (.int n))) (hn : ∀ n, AN n → -(2 ^ 62) ≤ n ∧ n < 2 ^ 62) (hg : Gl X "range" := by rfl) (hs : starEach [a] X.env = [(false, eval a X.env)] := by rfl) :
    XIE M Γ Rs X tg (.Call (.Name "range" p) [a] [] pos) AN (fun n => (li (rgI 0 n.toNat)).map (PD K)) := fun σ H0 H l ex k R r => PI.wp (pi_range1 hg hm pa_wp hs) ((xa_1 (by exact h) (by exact hs)) σ H0 H l ex k _ fun vs H1 G1 s1 k1 a1 => by
  obtain ⟨v, w, e1, h1, h2⟩ := a1.inv
  have e2 := h2.nil_inv
  subst e1 e2
  obtain ⟨n, h3, h4⟩ := h1
  have e3 : v = .int n := h4
  subst e3
  exact ⟨n, rfl, (hn n h3).1, (hn n h3).2, r _ H1 G1 s1 k1 ⟨n, h3, wk_range⟩⟩)
theorem xs_forE {tg iter : Expr} {body : List Stmt} {AN : Int → Prop} {Qf : Int → List Pd} {pos : Pos} (hp : PassesOwn (model X.prog X.w) X.A X.env X.xe) (hi : XIE M Γ Rs X tg iter AN Qf) (J : Nat → Ct → List Res → Prop) (h0 : J 0 Γ Rs)
    (hg : ∃ g, PG X tg g ∧ ∀ n, AN n → ∀ (i : Nat) (Q : Pd) (Γ1 : Ct) (Rs1 : List Res), (Qf n)[i]? = some Q → J i Γ1 Rs1 → ∃ Γ2, (∀ (v : V) (σ : L2.St) (H0 H : Hp), Sl Γ1 σ H0 → Ex H0 H → Q.p v H0 → ∀ R : L2.St → Hp → Prop, (∀ σ', Sl Γ2 σ' H0 → R σ' H) → g v σ H R) ∧
      ∀ Hs, XS M Γ2 Rs1 X Z0 Z Hs { D with nx := KJ M Z0 Z Hs J (i + 1), ct := KJ M Z0 Z Hs J (i + 1), bk := wpB X rest D } body)
    (hd : ∀ n, AN n → ∀ Γ1 Rs1, J (Qf n).length Γ1 Rs1 → XS M Γ1 Rs1 X Z0 Z Hl D rest) (hc : X.calm = true := by rfl) (hs : ∀ x, foldedSetIterable iter X.env x = pure x := by intro _; rfl) : XS M Γ Rs X Z0 Z Hl D (.For tg iter body [] pos :: rest) := by
  obtain ⟨g, hg, hb⟩ := hg
  refine xs_cons (ps_for hp hc pi_wp hg pss_wp hs) fun σ H0 H l s b k => hi σ H0 H l s.le k _ fun I H1 G1 s1 k1 ⟨n, hn, wk⟩ => ?_
  have hb := hb n hn
  have hd := hd n hn
  refine ⟨fun i m σ' G => m = (Qf n).length - i ∧ i ≤ (Qf n).length ∧ KJ M Z0 Z H1 J i σ' G, ⟨_, rfl, Nat.zero_le _, Γ, Rs, H1, h0, Ex.refl _, l.ex s1.ex, s.trans s1, k1⟩, ?_⟩
  rintro i m σ' G ⟨rfl, hi', Γ1, Rs1, H2, j, e2, l2, s2, k2⟩
  have w := wk H2 G e2 s2.le i
  by_cases hlt : i < (Qf n).length
  · obtain ⟨go, yl⟩ := w.1 _ (List.getElem?_eq_getElem hlt)
    refine .inr ⟨go, KJ M Z0 Z H1 J (i + 1), fun σ3 G3 h3 => ⟨(Qf n).length - (i + 1), by omega, rfl, hlt, h3⟩, fun x G3 y => ?_⟩
    obtain ⟨H3, s3, hx⟩ := yl x G3 y
    obtain ⟨Γ2, hv, hbody⟩ := hb i _ Γ1 Rs1 (List.getElem?_eq_getElem hlt) j
    refine hv x σ' H3 G3 (l2.ex s3.ex) s3.le hx _ fun σ4 l4 => ?_
    have hb2 := hbody H1 σ4 H3 G3 l4 (s2.trans s3.of0) (e2.trans s3.ex) (k2.step0 s3)
    exact hb2
  · have e : i = (Qf n).length := by omega
    subst e
    exact .inl ⟨w.2 rfl, hd Γ1 Rs1 j σ' H2 G l2 s2 ((b.trans s1.ex).trans e2) k2⟩
theorem xs_forNE (i : Nat) {x : Str} {iter : Expr} {body : List Stmt} {AN : Int → Prop} {Qf : Int → List Pd} {pos xp : Pos} (hi : XIE M Γ Rs X (.Name x xp) iter AN Qf) (J : Nat → Ct → List Res → Prop) (h0 : J 0 Γ Rs)
    (hb : ∀ n, AN n → ∀ (t : Nat) (Q : Pd) (Γ1 : Ct) (Rs1 : List Res), (Qf n)[t]? = some Q → J t Γ1 Rs1 → ∀ Hs, XS M (Γ1.set i (some Q)) Rs1 X Z0 Z Hs { D with nx := KJ M Z0 Z Hs J (t + 1), ct := KJ M Z0 Z Hs J (t + 1), bk := wpB X rest D } body)
    (hd : ∀ n, AN n → ∀ Γ1 Rs1, J (Qf n).length Γ1 Rs1 → XS M Γ1 Rs1 X Z0 Z Hl D rest) (hN : X.N.Nodup) (hp : PassesOwn (model X.prog X.w) X.A X.env X.xe := by exact PassesOwn.never) (hx : X.N[i]? = some x := by rfl) (hl : Loc X.env.scope x := by first | exact Or.inl rfl | exact Or.inr rfl)
    (hf : X.fn x = true ∨ X.env.scope.names.lookup x = some .local := by first | exact .inl rfl | exact .inr rfl) (hc : X.calm = true := by rfl) (hs : ∀ x, foldedSetIterable iter X.env x = pure x := by intro _; rfl) : XS M Γ Rs X Z0 Z Hl D (.For (.Name x xp) iter body [] pos :: rest) :=
  xs_forE hp hi J h0 ⟨gName i, pg_name hN hx hl hf, fun n hn t Q Γ1 Rs1 hq j => ⟨_, gv_name, hb n hn t Q Γ1 Rs1 hq j⟩⟩ hd hc hs
theorem ye_lcE {tg iter : Expr} {j : Nat} {tt : TT} {te : TE} {AN : Int → Prop} {Qf : Int → List Pd} (hi : XIE M Γ Rs X tg iter AN Qf) (cv : Cov M Rs) (hz : ∀ n, AN n → (Qf n).length ≤ 100000) (R : Nat → List PyData → Prop) (r0 : R 0 [])
    (ht : ∀ n, AN n → ∀ (i : Nat) (Q : Pd), (Qf n)[i]? = some Q → ∃ B, YT M ((wipeC Γ [j]).set j (some Q)) Rs tt B ∧ (B true → YE M ((wipeC Γ [j]).set j (some Q)) Rs te (PEx (fun d => ∀ ds, ds.length ≤ i → R i ds → R (i + 1) (ds ++ [d])) (PD K))) ∧ (B false → ∀ ds, R i ds → R (i + 1) ds)) :
    YE M Γ Rs (tLc (wpI X tg iter) (gName j) tt te [j]) (PEx (fun ds => ∃ n, AN n ∧ R (Qf n).length ds ∧ ds.length ≤ (Qf n).length) fun ds => PD K (.list ds)) := fun σ H0 H l ex k Q q => hi σ H0 H l ex k _ fun J A0 G1 s1 k1 ⟨n, hn, wk⟩ D hD => by
  have hz := hz n hn
  have ht := ht n hn
  have nr : ∀ r ∈ Rs, ∀ a ∈ r.ad, a ≠ D := fun r hr a ha e => by
    obtain ⟨⟨o, h1⟩, _⟩ := r.tr (k1.2 r hr) a ha
    rw [e, hD] at h1
    cases h1
  have nM : ¬ M D := fun z => by
    obtain ⟨o, h⟩ := cv A0 G1 k1 D z
    rw [hD] at h
    cases h
  refine ⟨fun i m G => m = (Qf n).length - i ∧ i ≤ (Qf n).length ∧ ∃ A acc ds, R i ds ∧ ds.length ≤ i ∧ Step M A0 G1 A G ∧ A D = none ∧ Rok Rs A G ∧ G D = some (.lst acc) ∧ DdAll K A ds acc, ⟨_, rfl, Nat.zero_le _, A0, [], [], r0, Nat.le_refl _, ?_, fresh_back s1.le hD, k1.wr nr, upd_same, rfl⟩, ?_⟩
  · exact ⟨fun a o _ h => by rw [upd_ne (ne_of_none h hD)]; exact h, fun a o h => ⟨o, by rw [upd_ne (ne_of_none h hD)]; exact h⟩, Ex.refl _, fun a o h => by rw [upd_ne (ne_of_none (s1.le a o h) hD)]; exact s1.le a o h, fun a o h => .inl h⟩
  · rintro i m G ⟨rfl, hi', A, acc, ds, hR, hlen, s2, aD, k2, gD, hdd⟩
    have w := wk A G s2.ex s2.le i
    by_cases hlt : i < (Qf n).length
    · have hq := List.getElem?_eq_getElem hlt
      obtain ⟨go, yl⟩ := w.1 _ hq
      obtain ⟨B, hB, hY, hN⟩ := ht i _ hq
      refine .inr ⟨go, fun G' => i + 1 ≤ (Qf n).length ∧ ∃ A acc ds, R (i + 1) ds ∧ ds.length ≤ i + 1 ∧ Step M A0 G1 A G' ∧ A D = none ∧ Rok Rs A G' ∧ G' D = some (.lst acc) ∧ DdAll K A ds acc, fun G' h => ⟨(Qf n).length - (i + 1), by omega, rfl, h⟩, fun x G2 y => ?_⟩
      obtain ⟨A2, s3, hx⟩ := yl x G2 y
      refine ⟨by simp [L2.wipe, List.set_set], ?_⟩
      have s12 := s2.trans s3.of0
      have nw : ∀ {A' G' : Hp}, Step M A G A' G' → A' D = none := fun {A' G'} s => by
        cases e : A' D with
        | none => rfl
        | some o =>
          rcases s.nw D o e with z | z
          · rw [aD] at z
            cases z
          · rw [gD] at z
            cases z
      have lΓ : Sl ((wipeC Γ [j]).set j (some (Qf n)[i])) ((L2.wipe σ [j]).set j (some x)) A2 := (((l.ex s1.ex).ex (s2.ex.trans s3.ex)).wipe [j]).set hx
      refine hB _ A2 G2 lΓ s3.le (k2.step0 s3) _ fun b A3 G3 s4 k4 hb => ?_
      cases b with
      | true =>
        refine hY hb _ A3 G3 (lΓ.ex s4.ex) s4.le k4 _ fun v A4 G4 s5 k5 ⟨d, hd, hv⟩ => ?_
        have s35 : Step M A G A4 G4 := (s3.of0.trans s4).trans s5
        have g4 : G4 D = some (.lst acc) := s35.un D _ nM gD
        refine ⟨acc, g4, ?_, hlt, A4, acc ++ [v], ds ++ [d], hd ds hlen hR, by simp; omega, ?_, nw s35, k5.wr nr, upd_same, DdAll.app (DdAll.ex s35.ex _ _ hdd) (DdAll.one hv)⟩
        · rw [hdd.len]
          have : (100000 : Nat) < sizeLine := by decide
          omega
        · have t := s2.trans s35
          refine ⟨fun a o hm h => ?_, fun a o h => ?_, t.ex, fun a o h => ?_, t.nw⟩
          · rw [upd_ne (ne_of_none h hD)]
            exact t.un a o hm h
          · obtain ⟨o', h'⟩ := t.th a o h
            exact ⟨o', by rw [upd_ne (ne_of_none h hD)]; exact h'⟩
          · have na : a ≠ D := fun e => by
              rw [e, nw s35] at h
              cases h
            rw [upd_ne na]
            exact t.le a o h
      | false =>
        have s34 : Step M A G A3 G3 := s3.of0.trans s4
        exact ⟨hlt, A3, acc, ds, hN hb ds hR, by omega, s2.trans s34, nw s34, k4, s34.un D _ nM gD, DdAll.ex s34.ex _ _ hdd⟩
    · have e : i = (Qf n).length := by omega
      subst e
      refine .inl ⟨w.2 rfl, q (.ref D) (upd A D (.lst acc)) G ?_ (k2.updA aD nr) ⟨ds, ⟨n, hn, hR, hlen⟩, D, acc, rfl, upd_same, DdAll.ex (Ex.new aD) _ _ hdd⟩⟩
      have t := s1.trans s2
      refine ⟨t.un, t.th, t.ex.trans (Ex.new aD), fun a o h => ?_, fun a o h => ?_⟩
      · by_cases ha : a = D
        · subst ha
          rw [upd_same] at h
          rw [gD]
          exact h
        · rw [upd_ne ha] at h
          exact t.le a o h
      · by_cases ha : a = D
        · subst ha
          refine .inr ?_
          cases e : H a with
          | none => rfl
          | some u =>
            obtain ⟨u', h'⟩ := s1.th a u e
            rw [hD] at h'
            cases h'
        · rw [upd_ne ha] at h
          exact t.nw a o h
theorem xe_lcE (j : Nat) {x : Str} {elt iter : Expr} {scope : Scope} {pos xp : Pos} {AN : Int → Prop} {Qf : Int → List Pd} (hi : XIE M Γ Rs X (.Name x xp) iter AN Qf) (R : Nat → List PyData → Prop) (r0 : R 0 []) (ht : ∀ n, AN n → LcAll M Γ Rs X K scope j elt (Qf n) R) (hN : X.N.Nodup)
    (ok : BlkOk X.N X.env.scope scope [(x, j)]) (hz : ∀ n, AN n → (Qf n).length ≤ 100000) (cv : Cov M Rs) (hg : BlkG X scope x xp j) (hc : X.calm = true := by rfl) (hs : ∀ x, foldedSetIterable iter X.env x = pure x := by intro _; rfl) :
    XE M Γ Rs X (.ListComp elt [⟨.Name x xp, iter, [], 0⟩] scope pos) (PEx (fun ds => ∃ n, AN n ∧ R (Qf n).length ds ∧ ds.length ≤ (Qf n).length) fun ds => PD K (.list ds)) := YE.wp (pe_lc (own := [(x, j)]) hc hN pi_wp ok hg (fun s H C cl fp => pts_nil) blk_ok hs) (ye_lcE hi cv hz R r0 fun n hn i Q hq => ⟨Is true, yt_yes, fun _ => ye_blk (ht n hn i Q hq), fun z => Bool.noConfusion z⟩)
end
section
variable {M : Addr → Prop} {Γ : Ct} {Rs : List Res} {X : Cx} {K : PySem.W.Frag} {a b : Expr} {pos p : Pos} {i j lo hi : Int}
/-! ### an int of many -/
theorem xe_addIn (ha : XE M Γ Rs X a (PD K (.int i))) (hb : XE M Γ Rs X b (PIn K lo hi)) : XE M Γ Rs X (.BinOp a .Add b pos) (PIn K (i + lo) (i + hi)) := xe_bin op_add ha hb fun x y H0 H hx ⟨n, hn, hy⟩ e _ => fun Q q =>
  (yl_I0 (g := fun i j => .int (i + j)) (d := .int (i + n)) (fun _ => rfl) hx hy e) Q fun v H0' H' s p => q v H0' H' s ⟨i + n, ⟨by omega, by omega⟩, p⟩
theorem xt_eqIn (ha : XE M Γ Rs X a (PIn K lo hi)) (hb : XE M Γ Rs X b (PD K (.int j))) : XT M Γ Rs X (.Compare a [.Eq] [b] pos) (fun _ => True) := xt_cmp (K := K) op_eq ha hb (fun x y H0 H ⟨n, hn, hx⟩ hy e _ => fun Q q => (yl_eqI hx hy e) Q fun v H0' H' s p => q v H0' H' s ⟨_, True.intro, p⟩) (nomark _)
theorem xe_eqIn (ha : XE M Γ Rs X a (PIn K lo hi)) (hb : XE M Γ Rs X b (PD K (.int j))) : XE M Γ Rs X (.Compare a [.Eq] [b] pos) (PB K fun _ => True) := xe_cmp op_eq ha hb (fun x y H0 H ⟨n, hn, hx⟩ hy e _ => fun Q q => (yl_eqI hx hy e) Q fun v H0' H' s p => q v H0' H' s ⟨_, True.intro, p⟩) (nomark _)
end
end Lh
namespace Lh
open PySem L2
open Evl (Ex ex_l ex_t ex_rd fresh_back)
/-- a list, a tuple of things -/
def PLs (Ps : List Pd) : Pd := ⟨fun v H => ∃ a xs, v = .ref a ∧ H a = some (.lst xs) ∧ DAll Ps xs H, fun e ⟨a, xs, h1, h2, h3⟩ => ⟨a, xs, h1, e _ _ h2, h3.ex e⟩⟩
def PTs (K : PySem.W.Frag) (Ps : List Pd) : Pd := ⟨fun v H => ∃ a xs, v = .ref a ∧ SqT K H a xs ∧ DAll Ps xs H, fun e ⟨a, xs, h1, h2, h3⟩ => ⟨a, xs, h1, ex_t e h2, h3.ex e⟩⟩
section
variable {M : Addr → Prop} {Γ Γ' : Ct} {Rs : List Res} {X : Cx} {Z0 Z Hl : Hp} {D : Ends} {K : PySem.W.Frag} {rest : List Stmt} {a b e : Expr} {es : List Expr} {pos p : Pos} {i j k : Int}
theorem PTs.two {K : PySem.W.Frag} {P Q : Pd} {v : V} {H : Hp} (h : (PTs K [P, Q]).p v H) : (PT2 K P Q).p v H := by
  obtain ⟨a, xs, e, h1, h2⟩ := h
  obtain ⟨x, r, e1, q1, h3⟩ := h2.inv
  obtain ⟨y, r', e2, q2, h4⟩ := h3.inv
  have e3 := h4.nil_inv
  subst e1 e2 e3
  exact ⟨a, x, y, e, h1, q1, q2⟩
theorem xe_tupP {Ps : List Pd} {x1} (h : XA M Γ Rs X es Ps) (hz : Ps.length ≤ 1000) : XE M Γ Rs X (.Tuple es x1 pos) (PTs K Ps) :=
  YE.wp (pe_tup pa_wp) fun σ H0 H l ex k Q q => h σ H0 H l ex k _ fun xs H1 G1 s1 k1 a1 => ⟨by have := a1.1; rw [this]; exact Nat.le_trans hz (by decide), fun p hp =>
    q _ (upd H1 p (.tup xs)) _ (s1.trans (Step.new s1.le hp)) (k1.step0 (Step.new s1.le hp)) ⟨p, xs, rfl, SqT.of upd_same, a1.ex (Ex.new (fresh_back s1.le hp))⟩⟩
theorem xe_lstP {Ps : List Pd} (h : XA M Γ Rs X es Ps) (hz : Ps.length ≤ 1000) : XE M Γ Rs X (.List es pos) (PLs Ps) :=
  YE.wp (pe_lst pa_wp) fun σ H0 H l ex k Q q => h σ H0 H l ex k _ fun xs H1 G1 s1 k1 a1 => ⟨by have := a1.1; rw [this]; exact Nat.le_trans hz (by decide), fun p hp =>
    q _ (upd H1 p (.lst xs)) _ (s1.trans (Step.new s1.le hp)) (k1.step0 (Step.new s1.le hp)) ⟨p, xs, rfl, upd_same, a1.ex (Ex.new (fresh_back s1.le hp))⟩⟩
/-- at a place that is one of many, in a list of things -/
theorem xe_ixP {Ps : List Pd} {A : Int → Prop} {C : Pd} (ha : XE M Γ Rs X a (PLs Ps)) (hb : XE M Γ Rs X b (PEx A fun k => PD K (.int k))) (h : ∀ k, A k → ∃ (t : Nat) (P : Pd), k = (t : Int) ∧ Ps[t]? = some P ∧ ∀ v H, P.p v H → C.p v H) (hs : PlainIx b := by exact fun _ _ => rfl) : XE M Γ Rs X (.Subscript a b pos) C :=
  YE.wp (pe_ix ix_list pe_wp pe_wp hs) (ye_op ha hb fun x y H0 H ⟨q, xs, e1, h1, h2⟩ ⟨k, hk, hy⟩ e _ => by
    obtain ⟨t, P, e2, hP, hc⟩ := h k hk
    obtain ⟨v, q1, q2⟩ := h2.2 t P hP
    subst e1 e2
    exact Yld.val (z := v) e (hc v H0 q2) fun Q k => ⟨q, xs, t, v, rfl, hy, SqL.of (e _ _ h1), atI_nat q1, k⟩)
/-- tuple(..) of a list of many -/
theorem xe_tupLE {α : Type} {A : α → Prop} {f : α → List PyData} (hm : X.mg "tuple" = none) (h : XE M Γ Rs X a (PEx A fun x => PD X.K (.list (f x)))) (hg : Gl X "tuple" := by rfl) (he : starEach [a] X.env = (false, eval a X.env) :: starEach [] X.env := by rfl) : XE M Γ Rs X (.Call (.Name "tuple" p) [a] [] pos) (PEx A fun x => PD X.K (.tuple (f x))) :=
  xe_callTy call_tuple_of hm (by decide +kernel) (xa_1 h he) (fun xs H0 H hx e _ => by
    obtain ⟨x, e1, y, hy, q, ys, e2, h1, h2⟩ := da1 hx
    subst e1 e2
    intro Q k
    have y0 : Yld H0 H (PD X.K (.tuple (f y))) (fun Q => ∃ p ys', [V.ref q] = [V.ref p] ∧ ((SqL X.K H p ys' ∧ ∀ l, H l = none → Q (.ref l) (upd H l (.tup ys'))) ∨ SqT X.K H p ys' ∧ Q (.ref p) H)) := Yld.newT e h2 fun Q k => ⟨q, ys, rfl, .inl ⟨SqL.of (e _ _ h1), k⟩⟩
    exact y0 Q fun v H0' H' s p => k v H0' H' s ⟨y, hy, p⟩) hg (by decide) (by decide) he rfl
/-- x, y = e, where e is one of many pairs -/
theorem xs_unpE (i j : Nat) {α : Type} {A : α → Prop} {P Q : α → Pd} {x y : Str} {e : Expr} {px py pt : Pos} {kt : Nat} {pos : Pos} (he : XE M Γ Rs X e (PEx A fun a => PT2 X.K (P a) (Q a))) (h : ∀ a, A a → XS M ((Γ.set i (some (P a))).set j (some (Q a))) Rs X Z0 Z Hl D rest) (hN : X.N.Nodup) (hc : X.calm = true := by rfl) (hx : X.N[i]? = some x := by rfl) (hy : X.N[j]? = some y := by rfl)
    (hl : Loc X.env.scope x := by first | exact Or.inl rfl | exact Or.inr rfl) (hl2 : Loc X.env.scope y := by first | exact Or.inl rfl | exact Or.inr rfl)
    (hf : X.fn x = true ∨ X.env.scope.names.lookup x = some .local := by first | exact .inl rfl | exact .inr rfl) (hf2 : X.fn y = true ∨ X.env.scope.names.lookup y = some .local := by first | exact .inl rfl | exact .inr rfl)
    (hs : swapsWithSole [.Tuple [.Name x px, .Name y py] kt pt] e pos.line X.env = pure false := by rfl) (hw : swappedStores [.Tuple [.Name x px, .Name y py] kt pt] e X.env = pure none := by rfl)
    (h1 : (assignEach [.Tuple [.Name x px, .Name y py] kt pt] X.env).map (·.2) = [assign (.Tuple [.Name x px, .Name y py] kt pt) X.env] := by rfl) : XS M Γ Rs X Z0 Z Hl D (.Assign [.Tuple [.Name x px, .Name y py] kt pt] e pos :: rest) :=
  xs_cons (ps_asg pe_wp (pg_tup hc (pgs_cons (pg_name hN hx hl hf) (pgs_cons (pg_name hN hy hl2 hf2) pgs_nil))) hs hw h1) fun σ H0 H l s b r => he σ H0 H l s.le r _ fun v H1 G1 s1 k1 ⟨a, ha, hv⟩ =>
    gv_pair v σ H1 G1 (l.ex s1.ex) s1.le hv _ fun σ' l' => h a ha σ' H1 G1 l' (s.trans s1) (b.trans s1.ex) k1
/-- what stands in a slot is one of many -/
theorem xs_slot (i : Nat) {α : Type} {A : α → Prop} {P : α → Pd} (hi : Γ[i]? = some (some (PEx A P))) (h : ∀ a, A a → XS M (Γ.set i (some (P a))) Rs X Z0 Z Hl D rest) : XS M Γ Rs X Z0 Z Hl D rest := fun σ H0 H l s b k => by
  obtain ⟨v, h1, a, ha, h2⟩ := l.2 i _ hi
  have e3 : σ.set i (some v) = σ := by
    have hlt := (List.getElem?_eq_some_iff.mp h1).1
    have := (List.getElem?_eq_some_iff.mp h1).2
    rw [← this]
    exact List.set_getElem_self hlt
  have l2 : Sl (Γ.set i (some (P a))) (σ.set i (some v)) H0 := l.set h2
  rw [e3] at l2
  exact h a ha σ H0 H l2 s b k
/-- x, y = e, [] : a list that will grow -/
theorem xs_parL (i j : Nat) {x y : Str} {a : Expr} {P : Pd} {px py pt pl : Pos} {kt k2 pt2} {pos : Pos} (ha : XE M Γ Rs X a P) (h : ∀ q, XS M ((Γ.set i (some P)).set j (some (PV (.ref q)))) (Res.lst Z q [] :: Rs) X Z0 Z Hl D rest) (hN : X.N.Nodup) (hc : X.calm = true := by rfl) (hi : X.N[i]? = some x := by rfl) (hj : X.N[j]? = some y := by rfl) (hij : i ≠ j := by decide)
    (hx : X.env.scope.names.lookup x = some .local := by rfl) (hy : X.env.scope.names.lookup y = some .local := by rfl) (hw : swappedStores [.Tuple [.Name x px, .Name y py] kt pt] (.Tuple [a, .List [] pl] k2 pt2) X.env = pure (some [x, y]) := by rfl)
    (hs : swapsWithSole [.Tuple [.Name x px, .Name y py] kt pt] (.Tuple [a, .List [] pl] k2 pt2) pos.line X.env = pure false := by rfl) (he : starEach [a, .List [] pl] X.env = (false, eval a X.env) :: starEach [.List [] pl] X.env := by rfl) (he2 : starEach [.List [] pl] X.env = (false, eval (.List [] pl) X.env) :: starEach [] X.env := by rfl) : XS M Γ Rs X Z0 Z Hl D (.Assign [.Tuple [.Name x px, .Name y py] kt pt] (.Tuple [a, .List [] pl] k2 pt2) pos :: rest) :=
  xs_cons (ps_par hc hN hi hj hij hx hy (pa_cons pe_wp (pa_cons (pe_lst pa_nil) pa_nil he2) he) hw hs) fun σ H0 H l s b r => ha σ H0 H l s.le r _ fun v H1 G1 s1 k1 a1 => ⟨by decide, fun p hp => by
    have t := s.trans s1
    have ne : ∀ r ∈ Rs, ∀ a ∈ r.ad, a ≠ p := fun r hr a ha e => by
      obtain ⟨⟨o, h1⟩, _⟩ := r.tr (k1.2 r hr) a ha
      rw [e, hp] at h1
      cases h1
    have hZ : Z p = none := by
      cases e : Z p with
      | none => rfl
      | some o =>
        obtain ⟨o', h'⟩ := t.th p o e
        rw [hp] at h'
        cases h'
    refine ⟨v, .ref p, rfl, h p _ H1 _ (((l.ex s1.ex).set a1).set (P := PV (.ref p)) rfl) ⟨fun a o hm ha => ?_, fun a o ha => ?_, t.ex, fun a o ha => ?_, t.nw⟩ (b.trans s1.ex) ⟨?_, fun r hr => ?_⟩⟩
    · rw [upd_ne (ne_of_none ha hZ)]
      exact t.un a o hm ha
    · obtain ⟨o', h'⟩ := t.th a o ha
      exact ⟨o', by rw [upd_ne (ne_of_none h' hp)]; exact h'⟩
    · rw [upd_ne (ne_of_none (t.le a o ha) hp)]
      exact t.le a o ha
    · rw [List.flatMap_cons, List.nodup_append]
      refine ⟨by simp [Res.lst], k1.1, fun a ha c hc e => ?_⟩
      have e1 : a = p := by simpa [Res.lst] using ha
      obtain ⟨r, hr, hc⟩ := List.mem_flatMap.mp hc
      exact ne r hr c hc (e ▸ e1)
    · obtain e | hr := List.mem_cons.mp hr
      · subst e
        exact ⟨hZ, fresh_back s1.le hp, [], upd_same, DAll.nil⟩
      · exact (k1.wr ne).2 r hr⟩
open PySem.Spec PyProof.Rows in
theorem op_mulA : OpR X (binaryOp .Mult) (rI (fun i _ => Builtin.Int.intBits i ≤ 64) fun i j => .int (i * j)) := opI fun _ _ _ _ _ _ _ hc q => mul_int q (IntMulOk.of_left hc)
theorem xe_mulA {c d : Expr} (ha : XE M Γ Rs X c (PD K (.int i))) (hb : XE M Γ Rs X d (PD K (.int j))) (h : Builtin.Int.intBits i ≤ 64) : XE M Γ Rs X (.BinOp c .Mult d pos) (PD K (.int (i * j))) := xe_bin op_mulA ha hb fun x y H0 H hx hy e _ => yl_I h (fun _ => rfl) hx hy e
end
end Lh
namespace Lh
open PySem L2
open Evl (Ex ex_l ex_t ex_rd fresh_back)
/-- what class a datum is of -/
def tyS : PyData → String
  | .none => "NoneType"
  | .bool _ => "bool"
  | .int _ => "int"
  | .str _ => "str"
  | .list _ => "list"
  | .tuple _ => "tuple"
  | .dict _ => "dict"
theorem ty_of {K : PySem.W.Frag} {H : Hp} : ∀ {d : PyData} {v : V}, Dd K H d v → TyX K H v (.type (tyS d))
  | .none, v, h => by
    have e : v = .non := h
    subst e
    exact .base .non
  | .bool b, v, h => by
    have e : v = .bl b := h
    subst e
    exact .base (.bl b)
  | .int i, v, h => by
    have e : v = .int i := h
    subst e
    exact .base (.int i)
  | .str s, v, h => by
    have e : v = .str s := h
    subst e
    exact .base (.str s)
  | .list ds, v, ⟨a, xs, e, h1, _⟩ => by
    subst e
    exact .base (.lst h1)
  | .tuple ds, v, ⟨a, xs, e, h1, _⟩ => by
    subst e
    rcases h1 with (h | ⟨o, h⟩) | ⟨o, its, n, hk, hc, _⟩
    · exact .base (.tup h)
    · exact .fTuple h
    · exact .kTuple hk hc
section
variable {M : Addr → Prop} {Γ Γ' : Ct} {Rs : List Res} {X : Cx} {Z0 Z Hl : Hp} {D : Ends} {K : PySem.W.Frag} {rest : List Stmt} {a b e : Expr} {es : List Expr} {pos p : Pos} {i j k : Int}
/-- isinstance(a, T) -/
theorem xe_isi {d : PyData} {T : Str} {TS : String} {u : Bool} {pt : Pos} (hm : X.mg "isinstance" = none) (hm2 : X.mg T = none) (hk : PySem.W.kitOne X.K (.type (tyS d)) (.type TS) = some u) (h : XE M Γ Rs X a (PD X.K d)) (hT : bootBuiltins T = some (.type TS)) (hb : bootBuiltins "isinstance" = some (.builtin "isinstance") := by decide +kernel) (hg : Gl X "isinstance" := by rfl) (hg2 : Gl X T := by rfl)
    (hn : T ≠ "__name__" := by decide) (hd : (T == ("__debug__" : Str)) = false := by decide) (he : starEach [a, .Name T pt] X.env = (false, eval a X.env) :: starEach [.Name T pt] X.env := by rfl) (he2 : starEach [.Name T pt] X.env = (false, eval (.Name T pt) X.env) :: starEach [] X.env := by rfl) (hpl : (backTo pos (starEach [.Name T pt] X.env)).any (·.1) = false := by rfl) :
    XE M Γ Rs X (.Call (.Name "isinstance" p) [a, .Name T pt] [] pos) (PD X.K (.bool u)) :=
  xe_callB call_isi hm hb (xa_cons h (xa_1 (xe_bltn (v := .ty TS) hm2 hT rfl hg2 hn hd) he2) he) (fun xs H0 H hx e _ => by
    obtain ⟨x, r, e1, h1, h3⟩ := hx.inv
    obtain ⟨y, r', e2, h2, h4⟩ := h3.inv
    have e3 := h4.nil_inv
    have h2' : y = .ty TS := h2
    subst e1 e2 e3 h2'
    exact Yld.val (z := .bl u) e rfl fun Q k => ⟨x, .ty TS, _, _, u, rfl, .ty TS, ty_of (Dd.ex e _ _ h1), hk, k⟩) hg (by decide) (by decide) he hpl
/-- a is None -/
theorem xt_isN {d : PyData} (h : XE M Γ Rs X a (PD X.K d)) (hd : tyS d ≠ "NoneType") {kc : Nat} {pc : Pos} : XT M Γ Rs X (.Compare a [.Is] [.Constant .none kc pc] pos) (Is false) :=
  xt_cmp (K := X.K) op_isN h (xe_non (K := X.K)) (fun x y H0 H hx hy e _ => by
    have hy' : y = .non := hy
    refine (Yld.val (z := .bl (decide (x = .non))) (C := PD X.K (.bool false)) e ?_ fun Q q => ⟨hy', q⟩).pb
    have : x ≠ .non := fun e => by
      subst e
      cases d with
      | none => exact hd rfl
      | bool _ => cases (show V.non = .bl _ from hx)
      | int _ => cases (show V.non = .int _ from hx)
      | str _ => cases (show V.non = .str _ from hx)
      | list _ =>
        obtain ⟨_, _, e, _⟩ := hx
        cases e
      | tuple _ =>
        obtain ⟨_, _, e, _⟩ := hx
        cases e
      | dict _ => exact hx.elim
    rw [decide_eq_false this]
    rfl) (nomark _)
end
end Lh
namespace Lh
open PySem L2
open Evl (Ex ex_l ex_t ex_rd fresh_back)
/-- the first place where two rows of ints differ: the first one's is greater -/
def LexGt (p q : List Int) : Prop := ∃ j, j < p.length ∧ j < q.length ∧ (∀ i, i < j → p.getD i 0 = q.getD i 0) ∧ q.getD j 0 < p.getD j 0
theorem lex_hit {e r : Nat → Bool} {z : Bool} {j : Nat} (he : e j = false) (hr : r j = true) : ∀ (k i : Nat), i ≤ j → j < i + k → (∀ m, i ≤ m → m < j → e m = true) → Ob.lexAt e r z i k = true
  | 0, i, h1, h2, _ => by omega
  | k + 1, i, h1, h2, h3 => by
    rw [Ob.lexAt_succ]
    by_cases c : i = j
    · subst c
      rw [he, hr]
      rfl
    · rw [h3 i (Nat.le_refl _) (by omega), if_pos rfl]
      exact lex_hit he hr k (i + 1) (by omega) (by omega) fun m m1 m2 => h3 m (by omega) m2
open PySem.Spec PyProof.Rows in
def rGtT (K : PySem.W.Frag) : R2 := fun u w H Q => ∃ (c d : Addr) (p q : List Int), u = .ref c ∧ w = .ref d ∧ SqT K H c (p.map V.int) ∧ SqT K H d (q.map V.int) ∧ LexGt p q ∧ Q (.bl true) H
open PySem.Spec PyProof.Rows in
theorem int_in {vs : List Value} {p : List Int} (hi : IntsAre vs p) (m : Nat) (hm : m < vs.toArray.size) : ∃ t, vs.toArray[m] = Value.int (p.getD m 0) t := IntsAre.int_at hi _ _ (by simp at hm; simp [hm])
open PySem.Spec PyProof.Rows in
theorem op_gtT {X : Cx} (hu : X.A.units < cLine) : OpR X (compareOp .Gt) (rGtT X.K) := by
  intro pins s σ H u w v v' Q I ru rw' hh
  obtain ⟨c, d, p, q, rfl, rfl, hc, hd, ⟨j, j1, j2, j3, j4⟩, hq⟩ := hh
  cases ru
  cases rw'
  obtain ⟨vs, r1, g1, _⟩ := I.tuple hc
  obtain ⟨ws, r2, g2, _⟩ := I.tuple hd
  have n1 : IntsAre vs p := Vals.ints r1
  have n2 : IntsAre ws q := Vals.ints r2
  have s1 : vs.toArray.size = p.length := by
    rw [List.size_toArray, n1.length]
  have s2 : ws.toArray.size = q.length := by
    rw [List.size_toArray, n2.length]
  have G := Ob.RcOp.tuples_gt (A := X.A) (s := s) (e := fun m => decide (p.getD m 0 = q.getD m 0)) (r := fun m => decide (q.getD m 0 < p.getD m 0)) g1 g2 hu
    (fun m m1 m2 => by
      obtain ⟨t1, h1⟩ := int_in n1 m m1
      obtain ⟨t2, h2⟩ := int_in n2 m m2
      rw [h1, h2, show decide (p.getD m 0 = q.getD m 0) = (p.getD m 0 == q.getD m 0) from by
        rw [Bool.eq_iff_iff]
        simp]
      exact SeqAt.EqAt.int_int _ _ _ _)
    (fun m m1 m2 _ => by
      obtain ⟨t1, h1⟩ := int_in n1 m m1
      obtain ⟨t2, h2⟩ := int_in n2 m m2
      rw [h1, h2]
      exact Ob.RcOp.gt_int _ _ _ _)
  rw [s1, s2] at G
  have hit := lex_hit (e := fun m => decide (p.getD m 0 = q.getD m 0)) (r := fun m => decide (q.getD m 0 < p.getD m 0)) (z := decide (p.length > q.length)) (j := j) (decide_eq_false (by omega)) (decide_eq_true j4) (min p.length q.length) 0 (Nat.zero_le _) (by omega) fun m _ hm => decide_eq_true (j3 m hm)
  rw [hit] at G
  exact G X.prog X.w X.xe (EP X pins σ Q) ⟨.bl true, H, I, rfl, hq⟩
section
variable {M : Addr → Prop} {Γ : Ct} {Rs : List Res} {X : Cx} {K : PySem.W.Frag} {a b : Expr} {pos : Pos}
theorem xe_gtT {p q : List Int} {n : Nat} (hr : Room n X.A) (ha : XE M Γ Rs X a (PD X.K (.tuple (li p)))) (hb : XE M Γ Rs X b (PD X.K (.tuple (li q)))) (h : LexGt p q) : XE M Γ Rs X (.Compare a [.Gt] [b] pos) (PD X.K (.bool true)) :=
  xe_cmp (op_gtT (by have := hr.un; omega)) ha hb (fun x y H0 H ⟨c, xs, e1, h1, h2⟩ ⟨d, ys, e2, h3, h4⟩ e _ => by
    have e3 := h2.ints
    have e4 := h4.ints
    subst e1 e2 e3 e4
    exact Yld.val (z := .bl true) e rfl fun Q k => ⟨c, d, p, q, rfl, rfl, ex_t e h1, ex_t e h3, h, k⟩) (nomark _)
end
end Lh
namespace Lh
open PySem L2
open Evl (Ex ex_l ex_t ex_rd fresh_back)
theorem wipe_pair {σ : L2.St} {i j : Nat} (hij : i ≠ j) {a b : Option V} : L2.wipe (((L2.wipe σ [i, j]).set i a).set j b) [i, j] = L2.wipe σ [i, j] := by
  show (((((σ.set j none).set i none).set i a).set j b).set j none).set i none = (σ.set j none).set i none
  rw [List.set_set, List.set_set, List.set_comm _ _ hij.symm, List.set_set, List.set_comm _ _ hij, List.set_set]
section
variable {M : Addr → Prop} {Γ Γ' : Ct} {Rs : List Res} {X : Cx} {Z0 Z Hl : Hp} {D : Ends} {K : PySem.W.Frag} {rest : List Stmt}
theorem ye_lcP {tg iter : Expr} {i0 j : Nat} (hij : i0 ≠ j) {tt : TT} {te : TE} {Qs : List Pd} (hi : XI M Γ Rs X tg iter Qs) (cv : Cov M Rs) (hz : Qs.length ≤ 100000) (R : Nat → List PyData → Prop) (r0 : R 0 [])
    (ht : ∀ (i : Nat) (Q : Pd), Qs[i]? = some Q → ∃ P1 P2, Q = PT2 X.K P1 P2 ∧ ∃ B, YT M (((wipeC Γ [i0, j]).set i0 (some P1)).set j (some P2)) Rs tt B ∧ (B true → YE M (((wipeC Γ [i0, j]).set i0 (some P1)).set j (some P2)) Rs te (PEx (fun d => ∀ ds, ds.length ≤ i → R i ds → R (i + 1) (ds ++ [d])) (PD K))) ∧ (B false → ∀ ds, R i ds → R (i + 1) ds)) :
    YE M Γ Rs (tLc (wpI X tg iter) (gTup X.K 2 (gCons (gName i0) (gCons (gName j) gNil))) tt te [i0, j]) (PEx (fun ds => R Qs.length ds ∧ ds.length ≤ Qs.length) fun ds => PD K (.list ds)) := fun σ H0 H l ex k Q q => hi σ H0 H l ex k _ fun J A0 G1 s1 k1 wk D hD => by
  have nr : ∀ r ∈ Rs, ∀ a ∈ r.ad, a ≠ D := fun r hr a ha e => by
    obtain ⟨⟨o, h1⟩, _⟩ := r.tr (k1.2 r hr) a ha
    rw [e, hD] at h1
    cases h1
  have nM : ¬ M D := fun z => by
    obtain ⟨o, h⟩ := cv A0 G1 k1 D z
    rw [hD] at h
    cases h
  refine ⟨fun i m G => m = Qs.length - i ∧ i ≤ Qs.length ∧ ∃ A acc ds, R i ds ∧ ds.length ≤ i ∧ Step M A0 G1 A G ∧ A D = none ∧ Rok Rs A G ∧ G D = some (.lst acc) ∧ DdAll K A ds acc, ⟨_, rfl, Nat.zero_le _, A0, [], [], r0, Nat.le_refl _, ?_, fresh_back s1.le hD, k1.wr nr, upd_same, rfl⟩, ?_⟩
  · exact ⟨fun a o _ h => by rw [upd_ne (ne_of_none h hD)]; exact h, fun a o h => ⟨o, by rw [upd_ne (ne_of_none h hD)]; exact h⟩, Ex.refl _, fun a o h => by rw [upd_ne (ne_of_none (s1.le a o h) hD)]; exact s1.le a o h, fun a o h => .inl h⟩
  · rintro i m G ⟨rfl, hi', A, acc, ds, hR, hlen, s2, aD, k2, gD, hdd⟩
    have w := wk A G s2.ex s2.le i
    by_cases hlt : i < Qs.length
    · have hq := List.getElem?_eq_getElem hlt
      obtain ⟨go, yl⟩ := w.1 _ hq
      obtain ⟨P1, P2, eQ, B, hB, hY, hN⟩ := ht i _ hq
      refine .inr ⟨go, fun G' => i + 1 ≤ Qs.length ∧ ∃ A acc ds, R (i + 1) ds ∧ ds.length ≤ i + 1 ∧ Step M A0 G1 A G' ∧ A D = none ∧ Rok Rs A G' ∧ G' D = some (.lst acc) ∧ DdAll K A ds acc, fun G' h => ⟨Qs.length - (i + 1), by omega, rfl, h⟩, fun x G2 y => ?_⟩
      obtain ⟨A2, s3, hx⟩ := yl x G2 y
      rw [eQ] at hx
      obtain ⟨pa, u1, u2, ex1, hsq, hu1, hu2⟩ := hx
      subst ex1
      refine ⟨pa, [u1, u2], rfl, ex_t s3.le hsq, rfl, u1, [u2], rfl, u2, [], rfl, rfl, wipe_pair hij, ?_⟩
      have s12 := s2.trans s3.of0
      have nw : ∀ {A' G' : Hp}, Step M A G A' G' → A' D = none := fun {A' G'} s => by
        cases e : A' D with
        | none => rfl
        | some o =>
          rcases s.nw D o e with z | z
          · rw [aD] at z
            cases z
          · rw [gD] at z
            cases z
      have lΓ : Sl (((wipeC Γ [i0, j]).set i0 (some P1)).set j (some P2)) (((L2.wipe σ [i0, j]).set i0 (some u1)).set j (some u2)) A2 := ((((l.ex s1.ex).ex (s2.ex.trans s3.ex)).wipe [i0, j]).set hu1).set hu2
      refine hB _ A2 G2 lΓ s3.le (k2.step0 s3) _ fun b A3 G3 s4 k4 hb => ?_
      cases b with
      | true =>
        refine hY hb _ A3 G3 (lΓ.ex s4.ex) s4.le k4 _ fun v A4 G4 s5 k5 ⟨d, hd, hv⟩ => ?_
        have s35 : Step M A G A4 G4 := (s3.of0.trans s4).trans s5
        have g4 : G4 D = some (.lst acc) := s35.un D _ nM gD
        refine ⟨acc, g4, ?_, hlt, A4, acc ++ [v], ds ++ [d], hd ds hlen hR, by simp; omega, ?_, nw s35, k5.wr nr, upd_same, DdAll.app (DdAll.ex s35.ex _ _ hdd) (DdAll.one hv)⟩
        · rw [hdd.len]
          have : (100000 : Nat) < sizeLine := by decide
          omega
        · have t := s2.trans s35
          refine ⟨fun a o hm h => ?_, fun a o h => ?_, t.ex, fun a o h => ?_, t.nw⟩
          · rw [upd_ne (ne_of_none h hD)]
            exact t.un a o hm h
          · obtain ⟨o', h'⟩ := t.th a o h
            exact ⟨o', by rw [upd_ne (ne_of_none h hD)]; exact h'⟩
          · have na : a ≠ D := fun e => by
              rw [e, nw s35] at h
              cases h
            rw [upd_ne na]
            exact t.le a o h
      | false =>
        have s34 : Step M A G A3 G3 := s3.of0.trans s4
        exact ⟨hlt, A3, acc, ds, hN hb ds hR, by omega, s2.trans s34, nw s34, k4, s34.un D _ nM gD, DdAll.ex s34.ex _ _ hdd⟩
    · have e : i = Qs.length := by omega
      subst e
      refine .inl ⟨w.2 rfl, q (.ref D) (upd A D (.lst acc)) G ?_ (k2.updA aD nr) ⟨ds, ⟨hR, hlen⟩, D, acc, rfl, upd_same, DdAll.ex (Ex.new aD) _ _ hdd⟩⟩
      have t := s1.trans s2
      refine ⟨t.un, t.th, t.ex.trans (Ex.new aD), fun a o h => ?_, fun a o h => ?_⟩
      · by_cases ha : a = D
        · subst ha
          rw [upd_same] at h
          rw [gD]
          exact h
        · rw [upd_ne ha] at h
          exact t.le a o h
      · by_cases ha : a = D
        · subst ha
          refine .inr ?_
          cases e : H a with
          | none => rfl
          | some u =>
            obtain ⟨u', h'⟩ := s1.th a u e
            rw [hD] at h'
            cases h'
        · rw [upd_ne ha] at h
          exact t.nw a o h
abbrev blkP (Γ : Ct) (i j : Nat) (P Q : Pd) : Ct := ((wipeC Γ [i, j]).set i (some P)).set j (some Q)
/-- [elt for x, y in iter], each elt as f tells -/
theorem xe_lcP (i0 j : Nat) (hij : i0 ≠ j) {x y : Str} {elt iter : Expr} {scope : Scope} {pos xp yp tp : Pos} {kt : Nat} {Qs : List Pd} (hi : XI M Γ Rs X (.Tuple [.Name x xp, .Name y yp] kt tp) iter Qs) (R : Nat → List PyData → Prop) (r0 : R 0 [])
    (ht : ∀ (i : Nat) (Q : Pd), Qs[i]? = some Q → ∃ P1 P2, Q = PT2 X.K P1 P2 ∧ Blk X scope fun Y => XE M (blkP Γ i0 j P1 P2) Rs Y elt (PEx (fun d => ∀ ds, ds.length ≤ i → R i ds → R (i + 1) (ds ++ [d])) (PD K))) (hN : X.N.Nodup)
    (ok : BlkOk X.N X.env.scope scope [(x, i0), (y, j)]) (hz : Qs.length ≤ 100000) (cv : Cov M Rs) (hg : ∀ (s : Shared) (H : Hp) (C : Addr) (cl : List (Str × Addr)) (fp : List Addr), PG (X.blk s H scope (compEnvC scope cl C X.env) fp) (.Tuple [.Name x xp, .Name y yp] kt tp) (gTup X.K 2 (gCons (gName i0) (gCons (gName j) gNil))))
    (hc : X.calm = true := by rfl) (hs : ∀ x, foldedSetIterable iter X.env x = pure x := by intro _; rfl) : XE M Γ Rs X (.ListComp elt [⟨.Tuple [.Name x xp, .Name y yp] kt tp, iter, [], 0⟩] scope pos) (LcP K Qs R) :=
  YE.wp (pe_lc (own := [(x, i0), (y, j)]) hc hN pi_wp ok hg (fun s H C cl fp => pts_nil) blk_ok hs) (ye_lcP hij hi cv hz R r0 fun i Q hq => by
    obtain ⟨P1, P2, e, h⟩ := ht i Q hq
    exact ⟨P1, P2, e, Is true, yt_yes, fun _ => ye_blk h, fun z => Bool.noConfusion z⟩)
end
end Lh
/-! Sets made by a comprehension of two clauses, without tests. -/
namespace Lh
open PySem L2 PySem.Spec PyProof.Rows
/-- `{b for t0 in i0 for t1 in i1}` -/
abbrev sx (b t0 i0 t1 i1 : Expr) (sco : Scope) (p : Pos) : Expr := .SetComp b [⟨t0, i0, [], 0⟩, ⟨t1, i1, [], 0⟩] sco p
theorem sx_turn0 (b t0 i0 t1 i1 : Expr) (sco : Scope) (p : Pos) (it D : Value) (env : Env) : compTurn (sx b t0 i0 t1 i1 sco p) 0 it D env = (do
    standAt i0.pos
    match ← pyNext it with
    | none => pure (.done .next)
    | some u =>
      letOwnedTupleGo t0 it u
      assign t0 env u
      let y ← eval i1 env
      standAt i1.pos
      let y ← foldedSetIterable i1 env y
      let _ ← runOwn (.compStart (sx b t0 i0 t1 i1 sco p) 1 (← holding [y] (pyIter y)) D env) env
      again (.compLoop (sx b t0 i0 t1 i1 sco p) 0 it D env)) := by rfl
theorem sx_turn1 (b t0 i0 t1 i1 : Expr) (sco : Scope) (p : Pos) (it D : Value) (env : Env) : compTurn (sx b t0 i0 t1 i1 sco p) 1 it D env = (do
    standAt i1.pos
    match ← pyNext it with
    | none => pure (.done .next)
    | some u =>
      letOwnedTupleGo t1 it u
      assign t1 env u
      (do let y ← eval b env; standAt b.pos; let _ ← call (.builtin "set.add") [D, y])
      again (.compLoop (sx b t0 i0 t1 i1 sco p) 1 it D env)) := by rfl
section
variable {prog : Program} {w : World} {A : Around} {R : Result → Shared → Prop} {s : Shared} {b t0 i0 t1 i1 : Expr} {sco : Scope} {p : Pos} {it D : Value} {env : Env}
/-- an error of a turn is noted and goes on -/
abbrev noted (prog : Program) (w : World) (A : Around) (env : Env) (R : Result → Shared → Prop) : Value → Shared → Prop := notedBy (model prog w) A env fun e s' => R (.error e) s'
theorem sx_loop0 (hf : ∀ y, foldedSetIterable i1 env y = pure y) (J : Nat → Shared → Prop)
    (step : ∀ m z, J m z → wpAny (model prog w) A (pyNext it) (fun r z1 => match r with
      | none => R (.ok .next) z1
      | some u => wpAny (model prog w) A (letOwnedTupleGo t0 it u) (fun _ z2 => wpAny (model prog w) A (assign t0 env u) (fun _ z3 =>
          wpAny (model prog w) A (eval i1 env) (fun y z4 => wpAny (model prog w) A (pyIter y) (fun it1 z5 =>
            codeAny (model prog w) A (.compStart (sx b t0 i0 t1 i1 sco p) 1 it1 D env) (fun r z6 => match r with
              | .ok _ => ∃ l, l < m ∧ J l z6
              | .error _ => False) z5) (noted prog w A env R) z4) (noted prog w A env R) z3) (noted prog w A env R) z2) (noted prog w A env R) z1) (noted prog w A env R) z)
    (m : Nat) (h : J m s) : codeAny (model prog w) A (.compLoop (sx b t0 i0 t1 i1 sco p) 0 it D env) R s := by
  refine codeAny_loop rfl J (fun m z hJ => ?_) m h
  show wpAny _ A ((compTurn (sx b t0 i0 t1 i1 sco p) 0 it D env).onRaise (fun x => do noteFrame x env; theTreesLotGoes x)) _ _ z
  refine wpAny_noted ?_
  rw [sx_turn0]
  refine wpAny_bind (wpAny_standAt (wpAny_bind (wpAny_mono (step m z hJ) (fun r z1 q1 => ?_) fun _ _ q => q)))
  cases r with
  | none => exact wpAny_pure q1
  | some u =>
    refine wpAny_bind (wpAny_mono q1 (fun _ z2 q2 => wpAny_bind (wpAny_mono q2 (fun _ z3 q3 => wpAny_bind (wpAny_mono q3 (fun y z4 q4 => ?_) fun _ _ q => q)) fun _ _ q => q)) fun _ _ q => q)
    refine wpAny_bind (wpAny_standAt (wpAny_bind (wpAny_of_eq (hf y) (wpAny_bind (wpAny_holding (wpAny_mono q4 (fun it1 z5 q5 => ?_) fun _ _ q => q))))))
    (refine wpAny_bind (wpAny_runOwn ?_); rw [Around.mark_none])
    refine codeAny_mono q5 fun r z6 q6 => ?_
    cases r with
    | error e => exact q6.elim
    | ok f =>
      first
        | exact wpAny_pure (And.intro rfl q6)
        | exact wpAny_bind (wpAny_pure (wpAny_pure (And.intro rfl q6)))
theorem sx_loop1 (J : Nat → Shared → Prop)
    (step : ∀ m z, J m z → wpAny (model prog w) A (pyNext it) (fun r z1 => match r with
      | none => R (.ok .next) z1
      | some u => wpAny (model prog w) A (letOwnedTupleGo t1 it u) (fun _ z2 => wpAny (model prog w) A (assign t1 env u) (fun _ z3 =>
          wpAny (model prog w) A (eval b env) (fun y z4 => wpAny (model prog w) A (call (.builtin "set.add") [D, y]) (fun _ z5 => ∃ l, l < m ∧ J l z5) (noted prog w A env R) z4)
            (noted prog w A env R) z3) (noted prog w A env R) z2) (noted prog w A env R) z1) (noted prog w A env R) z)
    (m : Nat) (h : J m s) : codeAny (model prog w) A (.compLoop (sx b t0 i0 t1 i1 sco p) 1 it D env) R s := by
  refine codeAny_loop rfl J (fun m z hJ => ?_) m h
  show wpAny _ A ((compTurn (sx b t0 i0 t1 i1 sco p) 1 it D env).onRaise (fun x => do noteFrame x env; theTreesLotGoes x)) _ _ z
  refine wpAny_noted ?_
  rw [sx_turn1]
  refine wpAny_bind (wpAny_standAt (wpAny_bind (wpAny_mono (step m z hJ) (fun r z1 q1 => ?_) fun _ _ q => q)))
  cases r with
  | none => exact wpAny_pure q1
  | some u =>
    refine wpAny_bind (wpAny_mono q1 (fun _ z2 q2 => wpAny_bind (wpAny_mono q2 (fun _ z3 q3 => wpAny_bind (wpAny_bind (wpAny_mono q3 (fun y z4 q4 => ?_) fun _ _ q => q))) fun _ _ q => q)) fun _ _ q => q)
    exact wpAny_bind (wpAny_standAt (wpAny_bind (wpAny_mono q4 (fun _ z5 q5 => wpAny_pure (wpAny_pure (And.intro rfl q5))) fun _ _ q => q)))
theorem sx_start1 (k0 : codeAny (model prog w) A (.compLoop (sx b t0 i0 t1 i1 sco p) 1 it D env) R s)
    (h : wpAny (model prog w) A (pyIter it) (fun it' z => codeAny (model prog w) A (.compLoop (sx b t0 i0 t1 i1 sco p) 1 it' D env) R z) (noted prog w A env R) s) :
    codeAny (model prog w) A (.compStart (sx b t0 i0 t1 i1 sco p) 1 it D env) R s := by
  refine codeAny_of_tree ?_
  show wpAny _ _ ((compStart (sx b t0 i0 t1 i1 sco p) 1 it D env).onRaise (fun x => do noteFrame x env; standAt theWindowsPlace)) _ _ s
  refine wpAny_notedAt ?_
  unfold compStart
  change wpAny _ _ (ask >>= _) _ _ s
  (refine wpAny_bind (wpAny_askSetting ?_); refine wpAny_ite ?_)
  split
  · first
      | exact wpAny_pure (And.intro rfl k0)
      | exact wpAny_bind (wpAny_pure (wpAny_pure (And.intro rfl k0)))
  · first
      | exact wpAny_bind (wpAny_rule (wpAny_bind (wpAny_standAt (wpAny_bind (wpAny_mono h (fun _ _ q => wpAny_pure (And.intro rfl q)) fun _ _ q => q)))))
      | (refine wpAny_bind (wpAny_rule ?_); show wpAny _ _ (standAt i1.pos >>= _) _ _ s; exact wpAny_bind (wpAny_standAt (wpAny_bind (wpAny_mono h (fun _ _ q => wpAny_pure (And.intro rfl q)) fun _ _ q => q))))
end
/-- a kind of set: what a new one is, and what adding makes of it -/
structure SK (P : Program) (w : World) where
  T : Type
  F : Addr → T → HO
  t0 : T
  nw : ∀ (H : Hp) (h : Heap), ObjOk P w H (h.push { cls := .type "set", dict := none, data := .set #[] 0 (.fresh 0 0 (!w.params.followText "set-order")) }) h.objs.size (F h.objs.size t0)
  ad : Hp → V → T → T → Prop
  add : ∀ (X : Cx), X.prog = P → X.w = w → ∀ (pins : List (Addr × Obj)) (σ : L2.St) (H : Hp) (s : Shared) (E : Value → Shared → Prop) (D : Addr) (t t' : T) (y : V) (v : Value) (Q : Value → Shared → Prop),
    Inv X pins σ H s → H D = some (F D t) → ad H y t t' → RelV y v → (∀ s', Inv X pins σ (upd H D (F D t')) s' → Q .none s') → wpAny (model P w) X.A (call (.builtin "set.add") [.ref D, v]) Q E s
/-- sets of ints, as the list of what was put in -/
def skI (P : Program) (w : World) : SK P w where
  T := List Int
  F := fun D ks => SetO w D (fun j => decide (j ∈ ks)) ks.length
  t0 := []
  nw := fun H h => setO_new ((setR_fresh w).congr fun k => by simp)
  ad := fun _ y ks ks' => ∃ k : Int, y = .int k ∧ ks.length + 1 < scanBound ∧ ks' = if k ∈ ks then ks else k :: ks
  add := by
    intro X eP ew pins σ H s E D ks ks' y v Q I hD ⟨k, ey, room, e'⟩ rv hQ
    subst eP ew ey
    obtain ⟨tk, rfl⟩ := rv
    refine setR_add (setO_get I hD) room fun h' sb new => ?_
    have new' : SetR X.w h' D (fun j => decide (j ∈ ks')) ks'.length := by
      have e1 : (if decide (k ∈ ks) = true then ks.length else ks.length + 1) = ks'.length := by
        rw [e']
        by_cases hk : k ∈ ks <;> simp [hk]
      rw [e1] at new
      refine new.congr fun j => ?_
      rw [e']
      by_cases hk : k ∈ ks
      · rw [if_pos hk]
        by_cases hj : j = k
        · subst hj
          simp [hk]
        · simp [hj]
      · rw [if_neg hk]
        by_cases hj : j = k <;> simp [hj]
    have there : ∃ u, h'.get? D = some u := by
      obtain ⟨u, _, _, _, hu, _⟩ := id new
      exact ⟨u, hu⟩
    exact hQ _ (I.write (e := D) (t' := s.toks + 1) (by rw [hD]; trivial) (.inl rfl) (fun c u hc hu => (sb.2 c hc).trans hu) there (setO_new new'))
section
variable {X : Cx}
/-- what the walk of the two clauses asks: W by the first one's turns, U by the second one's -/
def tS2 (S : SK X.prog X.w) (wi : TI) (g : TG) (wi1 : TI) (g1 : TG) (te : TE) (vs vs1 : List Nat) : TE := fun σ H Q =>
  wi σ H fun J H1 => ∀ D, H1 D = none → ∃ W : Nat → Nat → Hp → Prop, (∃ m, W 0 m (upd H1 D (S.F D S.t0))) ∧ ∀ i m G, W i m G →
    (J.stop i G ∧ Q (.ref D) G) ∨ (J.go i G ∧ ∀ x G', J.yld i G x G' → g x (L2.wipe σ vs) G' fun σ2 G2 => L2.wipe σ2 vs = L2.wipe σ vs ∧ wi1 σ2 G2 fun J1 G3 =>
      ∃ U : Nat → Nat → Hp → Prop, (∃ k, U 0 k G3) ∧ ∀ j k G, U j k G →
        (J1.stop j G ∧ ∃ m', m' < m ∧ W (i + 1) m' G) ∨ (J1.go j G ∧ ∀ y G', J1.yld j G y G' → g1 y (L2.wipe σ2 vs1) G' fun σ3 G4 => L2.wipe σ3 vs1 = L2.wipe σ2 vs1 ∧ te σ3 G4 fun z G5 =>
          ∃ t t', G5 D = some (S.F D t) ∧ S.ad G5 z t t' ∧ ∃ k', k' < k ∧ U (j + 1) k' (upd G5 D (S.F D t'))))
/-- for every block of the scope -/
abbrev OnBlk (X : Cx) (sco : Scope) (Y : Cx → Prop) : Prop := ∀ (z : Shared) (G : Hp) (C : Addr) (cl : List (PySem.Str × Addr)) (fp : List Addr), Y (X.blk z G sco (compEnvC sco cl C X.env) fp)
theorem pe_sx {S : SK X.prog X.w} {b t0 i0 t1 i1 : Expr} {sco : Scope} {own : List (PySem.Str × Nat)} {vs1 : List Nat} {p : Pos} {wi wi1 : TI} {g g1 : TG} {te : TE} (hc : X.calm = true) (hN : X.N.Nodup) (hi : PI X t0 i0 wi) (ok : BlkOk X.N X.env.scope sco own)
    (hv : ∀ i ∈ vs1, i ∈ own.map (·.2)) (hg : OnBlk X sco fun Y => PG Y t0 g) (hi1 : OnBlk X sco fun Y => PI Y t1 i1 wi1) (hg1 : OnBlk X sco fun Y => PG Y t1 g1) (he : OnBlk X sco fun Y => PE Y b te)
    (hs : ∀ y, foldedSetIterable i0 X.env y = pure y := by intro _; rfl) (hs1 : ∀ env y, foldedSetIterable i1 env y = pure y := by intro _ _; rfl) : PE X (sx b t0 i0 t1 i1 sco p) (tS2 S wi g wi1 g1 te (own.map (·.2)) vs1) := by
  refine ⟨fun pins z0 σ H Q I h => ?_⟩
  rw [PpSet.eval_SetComp]
  have free : ∀ y ∈ sco.names, y.2 = .free → ∃ c, X.env.cells.lookup y.1 = some c := fun y hy e => (ok.free y hy e).elim (fun k => I.ok.has _ (.inl k)) fun k => I.ok.has _ (.inr k)
  refine wpAny_comprehension_free (use := none) rfl hs (closure_ok free) ok.kind (fun y hy e => by rw [ok.uniq y hy, e]) (thn (hi.run pins z0 σ H _ I h) fun _ z1 hx => thn hx fun _ z2 h2 => ?_)
  obtain ⟨it, fp, tn, J, Y2, e, v2, T, st2, f2, q⟩ := h2
  subst e
  refine PpSet.newSet_ok (newEnv_comp ?_)
  generalize eD : z2.heap.objs.size = D
  obtain ⟨W, ⟨m0, w0⟩, turn⟩ := q D (v2.hok.fresh (Nat.le_of_eq eD))
  -- the set has come
  generalize hs3 : ({ z2 with heap := z2.heap.push { cls := .type "set", dict := none, data := .set #[] 0 (.fresh 0 0 (!X.w.params.followText "set-order")) } } : Shared) = z3
  have h3 : z3.heap = z2.heap.push { cls := .type "set", dict := none, data := .set #[] 0 (.fresh 0 0 (!X.w.params.followText "set-order")) } := by rw [← hs3]
  have v3 : Inv X pins σ (upd Y2 D (S.F D S.t0)) z3 := by
    rw [← hs3]
    have n := S.nw (upd Y2 D (S.F D S.t0)) z2.heap
    rw [eD] at n
    exact v2.laid (t' := z2.toks) (fun c o k => Heap.get?_push_of_some _ k) (Nat.le_of_eq eD) n
  have f3 : ∀ c ∈ fp, FpOk X pins (upd Y2 D (S.F D S.t0)) c ∧ c < z3.heap.objs.size := fun c hb => by
    obtain ⟨o, k, _⟩ := T.obj _ _ st2 c hb
    have lt := Heap.lt_size k
    refine ⟨⟨?_, (f2 c hb).2⟩, by rw [h3, Heap.size_push]; exact Nat.lt_succ_of_lt lt⟩
    rw [upd_ne (by rw [← eD]; exact Nat.ne_of_lt lt)]
    exact (f2 c hb).1
  have st3 : tn 0 z3.heap := T.keep _ _ _ st2 fun c _ o k => by rw [h3]; exact Heap.get?_push_of_some _ k
  have v4 := block_start v3 ok hN f3
  generalize hH3 : upd Y2 D (S.F D S.t0) = Y3 at v3 v4 w0 f3
  generalize hcl : cellsFrom (z3.heap.objs.size + 1) sco.names (cloFrom X.env.cells sco.names []) = cl at v4
  have pg := hg z3 Y3 z3.heap.objs.size cl fp
  have pi1 := hi1 z3 Y3 z3.heap.objs.size cl fp
  have pg1 := hg1 z3 Y3 z3.heap.objs.size cl fp
  have pe := he z3 Y3 z3.heap.objs.size cl fp
  show codeAny _ _ (.compStart (sx b t0 i0 t1 i1 sco p) 0 (.ref it) (.ref D) (compEnvC sco cl z3.heap.objs.size X.env)) (compPost (model X.prog X.w) X.A X.xe none _ (.ref D) z3.heap.objs.size) { z3 with heap := pushCells (z3.heap.push { cls := .type "dict", data := .dict #[] }) sco.names }
  generalize hce : compEnvC sco cl z3.heap.objs.size X.env = ce at v4 pg pi1 pg1 pe ⊢
  have eL0 : ce.locals = z3.heap.objs.size := by subst hce; rfl
  generalize hs4 : ({ z3 with heap := pushCells (z3.heap.push { cls := .type "dict", data := .dict #[] }) sco.names } : Shared) = z4 at v4 ⊢
  have st4 : tn 0 z4.heap := T.keep _ _ _ st3 fun c _ o k => by rw [← hs4]; exact pushCells_keeps _ _ _ _ (Heap.get?_push_of_some _ k)
  have stat : ∀ {σ' : L2.St} {H' : Hp} {z : Shared}, Inv (X.blk z3 Y3 sco ce fp) [] σ' H' z → (∀ c ∈ fp, H' c = none) → ∀ c ∈ fp, FpOk (X.blk z3 Y3 sco ce fp) [] H' c := fun {σ' H' z} I' hn c hb =>
    ⟨hn c hb, (I'.ok.exf c hb).1, I'.ok.exfs c hb, .inl hb, fun x d k => (I'.ok.exf c hb).2 x d k, fun a ha => absurd (show a ∈ ([] : List (Addr × Obj)) ++ [] from ha) (by simp)⟩
  -- between the turns of the first clause
  let At : Nat → Shared → Prop := fun n z => ∃ i G, Inv (X.blk z3 Y3 sco ce fp) [] (L2.wipe σ (own.map (·.2))) G z ∧ tn i z.heap ∧ (∀ c ∈ fp, G c = none) ∧ W i n G
  have loop : codeAny (model X.prog X.w) X.A (.compLoop (sx b t0 i0 t1 i1 sco p) 0 (.ref it) (.ref D) ce) (compPost (model X.prog X.w) X.A X.xe none (EP X pins σ Q) (.ref D) z3.heap.objs.size) z4 := by
    refine sx_loop0 (hs1 ce) At ?_ m0 ⟨0, Y3, v4, st4, fun c hb => (f3 c hb).1.1, w0⟩
    rintro n z5 ⟨i, Y5, v5, st5, n5, w5⟩
    rcases turn i n Y5 w5 with ⟨stop, qq⟩ | ⟨go, step⟩
    · refine thnF (T.done (X.blk z3 Y3 sco ce fp) rfl rfl rfl hc i [] z5 _ Y5 (fun _ _ => False) v5 (stat v5 n5) st5 stop) fun r z6 ⟨hr, v6⟩ => ?_
      subst hr
      -- the def goes on
      have v7 : Inv X pins σ Y5 z6 := v3.call' (ch := fp) v6.os v6.base v6.hok v6.bare fun c hb => ⟨(f3 c hb).1.2.2.2.1, (f3 c hb).1.2.1, (f3 c hb).1.2.2.2.2.1, (f3 c hb).1.2.2.2.2.2⟩
      have nC : Y5 z3.heap.objs.size = none := by
        rw [← eL0]
        exact v6.free
      obtain ⟨m, hn, _⟩ := v6.loc
      have hn' : z6.heap.Ns z3.heap.objs.size m := by
        rw [← eL0]
        exact hn
      obtain ⟨f0, f1, _, g3, f4, f5⟩ := v3.fpOk (Nat.le_refl _) nC
      exact ⟨m, hn', fun h'' sb => ⟨.ref D, Y5, v7.turned (t' := z6.toks) (fun c o hb k => (sb.2 c hb).trans k) f0 f1 g3 f4 f5, rfl, qq⟩⟩
    · refine thnF (T.item (X.blk z3 Y3 sco ce fp) rfl rfl rfl hc i [] z5 _ Y5 (fun _ _ => False) v5 (stat v5 n5) st5 go) fun r z6 ⟨u, hr, h6⟩ => ?_
      subst hr
      refine thnF h6 fun _ z7 ⟨x, Y7, v7, r7, y7, st7, n7⟩ => ?_
      have v7' := v7.pinned (stat v7 n7) (T.obj _ _ st7)
      refine thnF (pg.run _ z7 _ Y7 x u _ v7' r7 (step x Y7 y7)) fun _ z8 ⟨σ8, Y8, v8, hw8, q8⟩ => ?_
      refine thnF (pi1.run _ z8 σ8 Y8 _ v8 q8) fun _ z9 hx => thnF hx fun _ z10 h10 => ?_
      obtain ⟨it1, fp1, tn1, J1, Y10, e1, v10, T1, st10, f10, U, ⟨k0, u0⟩, turn1⟩ := h10
      subst e1
      have back : ∀ (j : Nat) v, (L2.wipe σ (own.map (·.2)))[j]? = some (some v) → (L2.wipe σ8 vs1)[j]? = some (some v) := fun j v k => by
        rw [← hw8] at k
        obtain ⟨k1, k2⟩ := wipe_some k
        rw [wipe_out fun z => k2 (hv j z)]
        exact k1
      have stat1 : ∀ {G : Hp}, (∀ c ∈ fp1, G c = none) → ∀ c ∈ fp1, FpOk (X.blk z3 Y3 sco ce fp) ([] ++ pinsAt fp z7.heap) G c := fun hn c hb => ⟨hn c hb, (f10 c hb).2⟩
      have loop1 : codeAny (model X.prog X.w) X.A (.compLoop (sx b t0 i0 t1 i1 sco p) 1 (.ref it1) (.ref D) ce)
          (fun r z => match r with
            | .ok _ => ∃ l, l < n ∧ At l z
            | .error _ => False) z10 := by
        refine sx_loop1 (fun k z => ∃ j G, Inv (X.blk z3 Y3 sco ce fp) ([] ++ pinsAt fp z7.heap) (L2.wipe σ8 vs1) G z ∧ tn1 j z.heap ∧ (∀ c ∈ fp1, G c = none) ∧ U j k G) ?_ k0
          ⟨0, Y10, v10.weak (wipe_length _ _) (fun j v k => (wipe_some k).1), st10, fun c hb => (f10 c hb).1, u0⟩
        rintro k z12 ⟨j, Y12, v12, st12, n12, w12⟩
        rcases turn1 j k Y12 w12 with ⟨stop1, m', hm, w'⟩ | ⟨go1, step1⟩
        · refine thnF (T1.done (X.blk z3 Y3 sco ce fp) rfl rfl rfl hc j _ z12 (L2.wipe σ8 vs1) Y12 (fun _ _ => False) v12 (stat1 n12) st12 stop1) fun r z13 ⟨hr, v13⟩ => ?_
          subst hr
          have pin : ∀ c ∈ fp, ∀ o, z7.heap.get? c = some o → z13.heap.get? c = some o ∧ Y12 c = none := fun c hb o k =>
            let z := v13.pin (c, o) (List.mem_append_right _ (List.mem_append_right _ (mem_pinsAt hb k)))
            ⟨z.1, z.2.1⟩
          refine ⟨m', hm, i + 1, Y12, (v13.unpinned (pins := [])).weak (by rw [wipe_length, wipe_length, ← wipe_length σ8 (own.map (·.2)), hw8, wipe_length]) back, T.keep _ _ _ st7 fun c hb o k => (pin c hb o k).1, fun c hb => ?_, w'⟩
          obtain ⟨o, k, _⟩ := T.obj _ _ st7 c hb
          exact (pin c hb o k).2
        · refine thnF (T1.item (X.blk z3 Y3 sco ce fp) rfl rfl rfl hc j _ z12 (L2.wipe σ8 vs1) Y12 (fun _ _ => False) v12 (stat1 n12) st12 go1) fun r z13 ⟨u1, hr, h13⟩ => ?_
          subst hr
          refine thnF h13 fun _ z14 ⟨x1, Y14, v14, r14, y14, st14, n14⟩ => ?_
          have v14' := v14.pinned (stat1 n14) (T1.obj _ _ st14)
          refine thnF (pg1.run _ z14 (L2.wipe σ8 vs1) Y14 x1 u1 _ v14' r14 (step1 x1 Y14 y14)) fun _ z15 ⟨σ15, Y15, v15, hw15, q15⟩ => ?_
          refine thnF (pe.run _ z15 σ15 Y15 _ v15 q15) fun v z16 ⟨y, Y16, v16, r16, t, t', d16, ad16, k', hk', u'⟩ => ?_
          refine S.add (X.blk z3 Y3 sco ce fp) rfl rfl _ σ15 Y16 z16 _ D t t' y v _ v16 d16 ad16 r16 fun z17 v17 => ?_
          have pin : ∀ c ∈ fp1, ∀ o, z14.heap.get? c = some o → z17.heap.get? c = some o ∧ (upd Y16 D (S.F D t')) c = none := fun c hb o k =>
            let z := v17.pin (c, o) (List.mem_append_right _ (List.mem_append_right _ (mem_pinsAt hb k)))
            ⟨z.1, z.2.1⟩
          refine ⟨k', hk', j + 1, _, v17.unpinned.weak (by rw [← hw15, wipe_length]) (fun j v k => by rw [← hw15] at k; exact (wipe_some k).1), T1.keep _ _ _ st14 fun c hb o k => (pin c hb o k).1, fun c hb => ?_, u'⟩
          obtain ⟨o, k, _⟩ := T1.obj _ _ st14 c hb
          exact (pin c hb o k).2
      exact sx_start1 loop1 (T1.self X.A 0 _ _ _ st10 loop1)
  exact PpSet.codeAny_compStart_set loop (T.self X.A 0 _ _ _ st4 loop)
end
end Lh
namespace Lh
open PySem L2
open Evl (Ex ex_l ex_t ex_rd fresh_back)
theorem asc_ext : ∀ {a b : List Int}, a.Pairwise (· < ·) → b.Pairwise (· < ·) → (∀ z, z ∈ a ↔ z ∈ b) → a = b
  | [], [], _, _, _ => rfl
  | [], y :: ys, _, _, h => absurd ((h y).2 List.mem_cons_self) (by simp)
  | x :: xs, [], _, _, h => absurd ((h x).1 List.mem_cons_self) (by simp)
  | x :: xs, y :: ys, ha, hb, h => by
    obtain ⟨a1, a2⟩ := List.pairwise_cons.mp ha
    obtain ⟨b1, b2⟩ := List.pairwise_cons.mp hb
    have e : x = y := by
      rcases List.mem_cons.mp ((h x).1 List.mem_cons_self) with k | k
      · exact k
      rcases List.mem_cons.mp ((h y).2 List.mem_cons_self) with q | q
      · exact q.symm
      have := b1 x k
      have := a1 y q
      omega
    subst e
    rw [asc_ext a2 b2 fun z => ⟨fun hz => ?_, fun hz => ?_⟩]
    · rcases List.mem_cons.mp ((h z).1 (List.mem_cons_of_mem _ hz)) with k | k
      · have := a1 z hz
        omega
      · exact k
    · rcases List.mem_cons.mp ((h z).2 (List.mem_cons_of_mem _ hz)) with k | k
      · have := b1 z hz
        omega
      · exact k
theorem nodup_le : ∀ {a b : List Int}, a.Nodup → (∀ z ∈ a, z ∈ b) → a.length ≤ b.length
  | [], b, _, _ => Nat.zero_le b.length
  | x :: xs, b, h, hs => by
    obtain ⟨hxs, h2⟩ := List.nodup_cons.mp h
    have hx := hs x List.mem_cons_self
    have := nodup_le (a := xs) (b := b.erase x) h2 fun z hz => (List.mem_erase_of_ne fun e => hxs (by rw [← e]; exact hz)).2 (hs z (List.mem_cons_of_mem _ hz))
    rw [List.length_erase_of_mem hx] at this
    have : 0 < b.length := List.length_pos_of_mem hx
    simp only [List.length_cons]
    omega
section
variable {M : Addr → Prop} {Γ Γ' : Ct} {Rs : List Res} {X : Cx} {Z0 Z Hl : Hp} {D : Ends} {K : PySem.W.Frag} {rest : List Stmt}
/-- the second clause's iterator, in each block -/
def wpIb (X : Cx) (sco : Scope) (tg iter : Expr) : TI := fun σ H R => ∀ (z : Shared) (G : Hp) (C : Addr) (cl : List (PySem.Str × Addr)) (fp : List Addr), wpI (X.blk z G sco (compEnvC sco cl C X.env) fp) tg iter σ H R
theorem onblk_pi {sco : Scope} {tg iter : Expr} : OnBlk X sco fun Y => PI Y tg iter (wpIb X sco tg iter) := fun z G C cl fp => ⟨fun pins s σ H R I h => h z G C cl fp pins s I⟩
theorem wipe_one {σ : L2.St} {i j : Nat} (hij : i ≠ j) {a : Option V} : L2.wipe ((L2.wipe σ [i, j]).set i a) [i, j] = L2.wipe σ [i, j] := by
  show ((((σ.set j none).set i none).set i a).set j none).set i none = (σ.set j none).set i none
  rw [List.set_set, List.set_comm _ _ hij, List.set_set, List.set_set]
abbrev blk1 (Γ : Ct) (i j : Nat) (Q : Pd) : Ct := (wipeC Γ [i, j]).set i (some Q)
/-- a thing has been laid that nothing here knows of -/
theorem Step.side {M : Addr → Prop} {A0 G1 A G : Hp} {D : Addr} {o : HO} (t : Step M A0 G1 A G) (hD : G1 D = none) (aD : A D = none) : Step M A0 G1 A (upd G D o) := by
  refine ⟨fun a u hm h => ?_, fun a u h => ?_, t.ex, fun a u h => ?_, t.nw⟩
  · rw [upd_ne (ne_of_none h hD)]
    exact t.un a u hm h
  · obtain ⟨u', h'⟩ := t.th a u h
    exact ⟨u', by rw [upd_ne (ne_of_none h hD)]; exact h'⟩
  · have na : a ≠ D := fun e => by
      rw [e, aD] at h
      cases h
    rw [upd_ne na]
    exact t.le a u h
theorem Step.none {M : Addr → Prop} {A G A' G' : Hp} {D : Addr} {o : HO} (s : Step M A G A' G') (aD : A D = none) (gD : G D = some o) : A' D = none := by
  cases e : A' D with
  | none => rfl
  | some o' =>
    rcases s.nw D o' e with z | z
    · rw [aD] at z
      cases z
    · rw [gD] at z
      cases z
/-- what has been put in so far -/
def InSet (ks : List Int) (R : List Int) (In : Int → Prop) : Prop := ks.Nodup ∧ (∀ z ∈ ks, z ∈ R) ∧ ∀ z, z ∈ ks ↔ In z
theorem InSet.put {ks R : List Int} {In In' : Int → Prop} {k : Int} (h : InSet ks R In) (hk : k ∈ R) (e : ∀ z, In' z ↔ In z ∨ z = k) : InSet (if k ∈ ks then ks else k :: ks) R In' := by
  obtain ⟨h1, h2, h3⟩ := h
  by_cases m : k ∈ ks
  · rw [if_pos m]
    refine ⟨h1, h2, fun z => ⟨fun hz => (e z).2 (.inl ((h3 z).1 hz)), fun hz => ?_⟩⟩
    rcases (e z).1 hz with q | q
    · exact (h3 z).2 q
    · rw [q]
      exact m
  · rw [if_neg m]
    refine ⟨List.nodup_cons.mpr ⟨m, h1⟩, fun z hz => ?_, fun z => ?_⟩
    · rcases List.mem_cons.mp hz with q | q
      · rw [q]
        exact hk
      · exact h2 z q
    · rw [List.mem_cons, e z, h3 z]
      exact Or.comm
theorem ye_sortSx {t0 i0 t1 i1 b : Expr} {sco : Scope} {i j : Nat} (hij : i ≠ j) {Qs : List Pd} (hi : XI M Γ Rs X t0 i0 Qs) (cv : Cov M Rs) (L : Nat → List Int) (R : List Int) (hR : R.Pairwise (· < ·)) (h64 : R.length < 64) (hm : ∀ z, z ∈ R ↔ ∃ n, n < Qs.length ∧ z ∈ L n)
    (h1 : ∀ (n : Nat) (Q : Pd), Qs[n]? = some Q → OnBlk X sco fun Y => XI M (blk1 Γ i j Q) Rs Y t1 i1 ((L n).map fun z => PD K (.int z)))
    (hb : ∀ (n : Nat) (Q : Pd), Qs[n]? = some Q → ∀ z ∈ L n, OnBlk X sco fun Y => XE M (blkG (blk1 Γ i j Q) j (PD K (.int z))) Rs Y b (PD K (.int z))) :
    YE M Γ Rs (tCB (rSortedSet X.w) (tCons (tS2 (skI X.prog X.w) (wpI X t0 i0) (gName i) (wpIb X sco t1 i1) (gName j) (wpEb X sco b) [i, j] [j]) tNil)) (PD K (.list (li R))) := fun σ H0 H l ex k Qf q => hi σ H0 H l ex k _ fun J A0 G1 s1 k1 wk D hD => by
  have nr : ∀ r ∈ Rs, ∀ a ∈ r.ad, a ≠ D := fun r hr a ha e => by
    obtain ⟨⟨o, h1⟩, _⟩ := r.tr (k1.2 r hr) a ha
    rw [e, hD] at h1
    cases h1
  have nM : ¬ M D := fun z => by
    obtain ⟨o, h⟩ := cv A0 G1 k1 D z
    rw [hD] at h
    cases h
  -- what stands in the set, and what the heap is
  let Cd : (Int → Prop) → Hp → Prop := fun In G => ∃ A ks, InSet ks R In ∧ Step M A0 G1 A G ∧ A D = none ∧ Rok Rs A G ∧ G D = some ((skI X.prog X.w).F D ks)
  refine ⟨fun n m G => m = Qs.length - n ∧ n ≤ Qs.length ∧ Cd (fun z => ∃ n', n' < n ∧ z ∈ L n') G, ⟨_, rfl, Nat.zero_le _, A0, [], ⟨List.nodup_nil, by simp, fun z => ⟨fun h => absurd h (by simp), fun ⟨n', h, _⟩ => absurd h (by omega)⟩⟩, (Step.rfl s1.le).side hD (fresh_back s1.le hD), fresh_back s1.le hD, k1.wr nr, upd_same⟩, ?_⟩
  rintro n m G ⟨rfl, hn, A, ks, hks, s2, aD, k2, gD⟩
  have w := wk A G s2.ex s2.le n
  by_cases hlt : n < Qs.length
  · have hq := List.getElem?_eq_getElem hlt
    obtain ⟨go, yl⟩ := w.1 _ hq
    refine .inr ⟨go, fun x G2 y => ?_⟩
    obtain ⟨A2, s3, hx⟩ := yl x G2 y
    have a2 := s3.none aD gD
    have g2 : G2 D = some ((skI X.prog X.w).F D ks) := s3.un D _ (fun z => z) gD
    refine ⟨wipe_one hij, ?_⟩
    have lΓ : Sl (blk1 Γ i j Qs[n]) ((L2.wipe σ [i, j]).set i (some x)) A2 := (((l.ex s1.ex).ex (s2.ex.trans s3.ex)).wipe [i, j]).set hx
    intro z0 G0 C cl fp
    refine h1 n _ hq z0 G0 C cl fp _ A2 G2 lΓ s3.le (k2.step0 s3) _ fun J1 A3 G3 s4 k4 wk1 => ?_
    have a3 := s4.none a2 g2
    have g3 : G3 D = some ((skI X.prog X.w).F D ks) := s4.un D _ nM g2
    have st3 : Step M A0 G1 A3 G3 := s2.trans (s3.of0.trans s4)
    refine ⟨fun c m G => m = (L n).length - c ∧ c ≤ (L n).length ∧ ∃ A ks, InSet ks R (fun z => (∃ n', n' < n ∧ z ∈ L n') ∨ z ∈ (L n).take c) ∧ Step M A0 G1 A G ∧ A D = none ∧ Rok Rs A G ∧ G D = some ((skI X.prog X.w).F D ks) ∧ Ex A3 A, ⟨_, rfl, Nat.zero_le _, A3, ks, ?_, st3, a3, k4, g3, Ex.refl _⟩, ?_⟩
    · exact ⟨hks.1, hks.2.1, fun z => by rw [hks.2.2 z]; simp⟩
    · rintro c m G4 ⟨rfl, hc, A4, ks4, hks4, s5, a4, k5, g4, ex4⟩
      have w1 := wk1 A4 G4 ex4 s5.le c
      by_cases hlt1 : c < (L n).length
      · have hz : (L n)[c]? = some (L n)[c] := List.getElem?_eq_getElem hlt1
        obtain ⟨go1, yl1⟩ := w1.1 (PD K (.int (L n)[c])) (by rw [List.getElem?_map, hz]; rfl)
        refine .inr ⟨go1, fun y1 G5 hy => ?_⟩
        obtain ⟨A5, s6, hx5⟩ := yl1 y1 G5 hy
        have a5 := s6.none a4 g4
        have g5 : G5 D = some ((skI X.prog X.w).F D ks4) := s6.un D _ (fun z => z) g4
        refine ⟨by
          show ((((L2.wipe σ [i, j]).set i (some x)).set j none).set j (some y1)).set j none = ((L2.wipe σ [i, j]).set i (some x)).set j none
          rw [List.set_set, List.set_set], ?_⟩
        have l5 : Sl (blkG (blk1 Γ i j Qs[n]) j (PD K (.int (L n)[c]))) ((L2.wipe ((L2.wipe σ [i, j]).set i (some x)) [j]).set j (some y1)) A5 := (((lΓ.ex s4.ex).ex (ex4.trans s6.ex)).wipe [j]).set hx5
        have hzm : (L n)[c] ∈ L n := List.getElem_mem hlt1
        intro z0 G0 C cl fp
        refine hb n _ hq _ hzm z0 G0 C cl fp _ A5 G5 l5 s6.le (k5.step0 s6) _ fun v A6 G6 s7 k7 hv => ?_
        obtain rfl : v = .int (L n)[c] := hv
        have a6 := s7.none a5 g5
        have g6 : G6 D = some ((skI X.prog X.w).F D ks4) := s7.un D _ nM g5
        have hzR : (L n)[c] ∈ R := (hm _).2 ⟨n, hlt, hzm⟩
        have hle : ks4.length ≤ R.length := nodup_le hks4.1 hks4.2.1
        have t6 : Step M A0 G1 A6 G6 := s5.trans (s6.of0.trans s7)
        refine ⟨ks4, _, g6, ⟨_, rfl, by unfold scanBound; omega, rfl⟩, (L n).length - (c + 1), by omega, rfl, hlt1, A6, _, hks4.put hzR fun z => ?_, t6.side hD a6, a6, k7.wr nr, upd_same, ex4.trans (s6.ex.trans s7.ex)⟩
        rw [List.take_add_one, hz, List.mem_append, ← or_assoc]
        simp
      · have e : c = (L n).length := by omega
        subst e
        refine .inl ⟨w1.2 (by simp), Qs.length - (n + 1), by omega, rfl, hlt, A4, ks4, ⟨hks4.1, hks4.2.1, fun z => ?_⟩, s5, a4, k5, g4⟩
        rw [hks4.2.2 z, List.take_length]
        constructor
        · rintro (⟨n', h, h'⟩ | h)
          · exact ⟨n', by omega, h'⟩
          · exact ⟨n, by omega, h⟩
        · rintro ⟨n', h, h'⟩
          by_cases en : n' = n
          · subst en
            exact .inr h'
          · exact .inl ⟨n', by omega, h'⟩
  · have e : n = Qs.length := by omega
    subst e
    have hle : ks.length ≤ R.length := nodup_le hks.1 hks.2.1
    refine .inl ⟨w.2 rfl, D, _, _, rfl, gD, by omega, fun ns p hp hn _ hfr => ?_⟩
    have en : ns = R := asc_ext hp hR fun z => by
      rw [hn z, hm z, decide_eq_true_eq, hks.2.2 z]
    subst en
    have t : Step M H0 H A G := s1.trans s2
    exact q (.ref p) (upd A p (.lst (ns.map V.int))) _ (t.trans (Step.new t.le hfr)) (k2.step0 (Step.new t.le hfr)) ⟨p, _, rfl, upd_same, DdAll.of_ints _⟩
/-- sorted({b for x in i0 for y in i1}), of ints -/
theorem xe_sortSx (i j : Nat) (hij : i ≠ j) {x y : Str} {i0 i1 b : Expr} {sco : Scope} {xp yp p pos sp : Pos} {Qs : List Pd} (hm : X.mg "sorted" = none) (hi : XI M Γ Rs X (.Name x xp) i0 Qs) (L : Nat → List Int) (R : List Int) (hR : R.Pairwise (· < ·)) (h64 : R.length < 64) (hmem : ∀ z, z ∈ R ↔ ∃ n, n < Qs.length ∧ z ∈ L n)
    (h1 : ∀ (n : Nat) (Q : Pd), Qs[n]? = some Q → OnBlk X sco fun Y => XI M (blk1 Γ i j Q) Rs Y (.Name y yp) i1 ((L n).map fun z => PD X.K (.int z)))
    (hb : ∀ (n : Nat) (Q : Pd), Qs[n]? = some Q → ∀ z ∈ L n, OnBlk X sco fun Y => XE M (blkG (blk1 Γ i j Q) j (PD X.K (.int z))) Rs Y b (PD X.K (.int z))) (hN : X.N.Nodup) (ok : BlkOk X.N X.env.scope sco [(x, i), (y, j)]) (cv : Cov M Rs) (hg : BlkG X sco x xp i) (hg1 : BlkG X sco y yp j)
    (hc : X.calm = true := by rfl) (hgl : Gl X "sorted" := by rfl) (hs : ∀ y, foldedSetIterable i0 X.env y = pure y := by intro _; rfl) (hs1 : ∀ env y, foldedSetIterable i1 env y = pure y := by intro _ _; rfl) :
    XE M Γ Rs X (.Call (.Name "sorted" p) [sx b (.Name x xp) i0 (.Name y yp) i1 sco sp] [] pos) (PD X.K (.list (li R))) :=
  YE.wp (pe_callB (cr_sortedSet hc) hgl hm (by decide +kernel) (pa_cons (pe_sx (own := [(x, i), (y, j)]) (vs1 := [j]) hc hN pi_wp ok (by simp) hg onblk_pi hg1 blk_ok hs hs1) pa_nil)) (ye_sortSx hij hi cv L R hR h64 hmem h1 hb)
end
end Lh
namespace Lh
open PySem L2
open Evl (Ex ex_l ex_t ex_rd fresh_back)
theorem eqvAll_li : ∀ a b : List Int, PyData.eqvAll (li a) (li b) = decide (a = b)
  | [], [] => rfl
  | [], _ :: _ => rfl
  | _ :: _, [] => rfl
  | x :: xs, y :: ys => by
    show ((x == y) && PyData.eqvAll (li xs) (li ys)) = _
    rw [eqvAll_li xs ys]
    by_cases h : x = y
    · subst h
      simp
    · simp [h]
theorem eqv_li (a b : List Int) : PyData.eqv (.list (li a)) (.list (li b)) = decide (a = b) := eqvAll_li a b
theorem eqv_tli (a b : List Int) : PyData.eqv (.tuple (li a)) (.tuple (li b)) = decide (a = b) := eqvAll_li a b
def isNone : PyData → Bool
  | .none => true
  | _ => false
theorem Dd.isNone {K : PySem.W.Frag} {H : Hp} {d : PyData} {x : V} (h : Dd K H d x) : decide (x = .non) = isNone d := by
  cases d with
  | none =>
    have e : x = .non := h
    subst e
    rfl
  | bool _ =>
    have e : x = .bl _ := h
    subst e
    rfl
  | int _ =>
    have e : x = .int _ := h
    subst e
    rfl
  | str _ =>
    have e : x = .str _ := h
    subst e
    rfl
  | list _ =>
    obtain ⟨_, _, e, _⟩ := h
    subst e
    rfl
  | tuple _ =>
    obtain ⟨_, _, e, _⟩ := h
    subst e
    rfl
  | dict _ => exact h.elim
section
variable {M : Addr → Prop} {Γ Γ' : Ct} {Rs : List Res} {X : Cx} {Z0 Z Hl : Hp} {D : Ends} {K : PySem.W.Frag} {rest : List Stmt} {a b c e : Expr} {es : List Expr} {pos p : Pos} {i j k : Int}
theorem xe_neLi {ns ms : List Int} {n : Nat} (hr : Room n X.A) (ha : XE M Γ Rs X a (PD X.K (.list (li ns)))) (hb : XE M Γ Rs X b (PD X.K (.list (li ms)))) : XE M Γ Rs X (.Compare a [.NotEq] [b] pos) (PD X.K (.bool (!decide (ns = ms)))) :=
  YE.dat (xe_neD hr ha hb (shaped_li ns) (shaped_li ms)) (by rw [eqv_li])
theorem xt_neLi {ns ms : List Int} {n : Nat} (hr : Room n X.A) (ha : XE M Γ Rs X a (PD X.K (.list (li ns)))) (hb : XE M Γ Rs X b (PD X.K (.list (li ms)))) : XT M Γ Rs X (.Compare a [.NotEq] [b] pos) (Is (!decide (ns = ms))) :=
  YT.eq (xt_neD hr ha hb (shaped_li ns) (shaped_li ms)) (by rw [eqv_li])
theorem xe_eqLi {ns ms : List Int} {n : Nat} (hr : Room n X.A) (ha : XE M Γ Rs X a (PD X.K (.list (li ns)))) (hb : XE M Γ Rs X b (PD X.K (.list (li ms)))) : XE M Γ Rs X (.Compare a [.Eq] [b] pos) (PD X.K (.bool (decide (ns = ms)))) :=
  YE.dat (xe_eqD hr ha hb (shaped_li ns) (shaped_li ms)) (by rw [eqv_li])
theorem xt_eqLi {ns ms : List Int} {n : Nat} (hr : Room n X.A) (ha : XE M Γ Rs X a (PD X.K (.list (li ns)))) (hb : XE M Γ Rs X b (PD X.K (.list (li ms)))) : XT M Γ Rs X (.Compare a [.Eq] [b] pos) (Is (decide (ns = ms))) :=
  YT.eq (xt_eqD hr ha hb (shaped_li ns) (shaped_li ms)) (by rw [eqv_li])
theorem xe_isV {d : PyData} (h : XE M Γ Rs X a (PD X.K d)) {kc : Nat} {pc : Pos} : XE M Γ Rs X (.Compare a [.Is] [.Constant .none kc pc] pos) (PD X.K (.bool (isNone d))) :=
  xe_cmp op_isN h (xe_non (K := X.K)) (fun x y H0 H hx hy e _ => by
    have hy' : y = .non := hy
    refine Yld.val (z := .bl (decide (x = .non))) (C := PD X.K (.bool (isNone d))) e ?_ fun Q q => ⟨hy', q⟩
    rw [Dd.isNone hx]
    rfl) (by rfl)
theorem xe_notV {d : PyData} (h : XE M Γ Rs X a (PD X.K d)) {kc : Nat} {pc : Pos} : XE M Γ Rs X (.Compare a [.IsNot] [.Constant .none kc pc] pos) (PD X.K (.bool (!isNone d))) :=
  xe_cmp op_notN h (xe_non (K := X.K)) (fun x y H0 H hx hy e _ => by
    have hy' : y = .non := hy
    refine Yld.val (z := .bl (!decide (x = .non))) (C := PD X.K (.bool (!isNone d))) e ?_ fun Q q => ⟨hy', q⟩
    rw [Dd.isNone hx]
    rfl) (by rfl)
theorem xt_isV {d : PyData} (h : XE M Γ Rs X a (PD X.K d)) {kc : Nat} {pc : Pos} : XT M Γ Rs X (.Compare a [.Is] [.Constant .none kc pc] pos) (Is (isNone d)) :=
  xt_cmp (K := X.K) op_isN h (xe_non (K := X.K)) (fun x y H0 H hx hy e _ => by
    have hy' : y = .non := hy
    refine (Yld.val (z := .bl (decide (x = .non))) (C := PD X.K (.bool (isNone d))) e ?_ fun Q q => ⟨hy', q⟩).pb
    rw [Dd.isNone hx]
    rfl) (by rfl)
theorem xt_notV {d : PyData} (h : XE M Γ Rs X a (PD X.K d)) {kc : Nat} {pc : Pos} : XT M Γ Rs X (.Compare a [.IsNot] [.Constant .none kc pc] pos) (Is (!isNone d)) :=
  xt_cmp (K := X.K) op_notN h (xe_non (K := X.K)) (fun x y H0 H hx hy e _ => by
    have hy' : y = .non := hy
    refine (Yld.val (z := .bl (!decide (x = .non))) (C := PD X.K (.bool (!isNone d))) e ?_ fun Q q => ⟨hy', q⟩).pb
    rw [Dd.isNone hx]
    rfl) (by rfl)
theorem xt_and3B {u v w : Bool} (h : XT M Γ Rs X a (Is u)) (h' : u = true → XT M Γ Rs X b (Is v)) (h'' : u = true → v = true → XT M Γ Rs X c (Is w)) : XT M Γ Rs X (.BoolOp .And [a, b, c] pos) (Is (u && (v && w))) := (xt_and3 h (fun z => h' z.symm) fun z z' => h'' z.symm z'.symm).imp fun t ht => by
  rcases ht with ⟨q, rfl⟩ | ⟨q, ⟨r, rfl⟩ | ⟨r, q2⟩⟩
  · have q' : false = u := q
    show false = _
    rw [← q']
    rfl
  · have q' : true = u := q
    have r' : false = v := r
    show false = _
    rw [← q', ← r']
    rfl
  · have q' : true = u := q
    have r' : true = v := r
    have s' : t = w := q2
    show t = _
    rw [← q', ← r', s']
    rfl
end
/-! ### the law's own def -/
section
variable {K : PySem.W.Frag} {mg : Str → Option Value} {base : Heap} {P : Program} {w : World}
abbrev spLaw (K : PySem.W.Frag) : Sp := fun vs H Q _ => ∃ (a : Addr) (ns : List Int), vs = [.ref a] ∧ SqL K H a (ns.map V.int) ∧ ns.length ≤ 63 ∧ (∀ z ∈ ns, Builtin.Int.intBits z ≤ 1048576) ∧ ∀ H', Q (.bl true) H'
theorem fn_L {x qual : Str} {st : Stmt} {f : Addr} {fd : FuncData} {N ps : List Str} {k : Nat} (F : Fun K x qual st f fd) (S : FnScope N ps (defScope st)) (len : ps.length = 1)
    (hb : ∀ (ns : List Int) (Z0 Z : Hp) (Q : VK) (X : Cx) (qX : ∃ (cdv : Value) (A : Around) (outer : List Env) (s : Shared) (E : XK), X = (cxOf CX0 P w K mg base N qual (defScope st) f cdv A outer s Z E).nox ∧ Room k X.A), (∀ H', Q (.bl true) H') →
      XS M0 (ctOf N [PSc K ns]) [] X Z0 Z Z0 { nx := fun _ H' => Q .non H', rt := Q } (defBody st)) : FnOk P w K mg base CX0 (k + 1) f fd ps (spLaw K) := by
  refine F.ok S (fun vs H Q E h => ?_) (fun cdv A outer s H vs Q E hr h => ?_)
  · obtain ⟨a, ns, e, _⟩ := h
    rw [e, len]
    rfl
  · obtain ⟨a, ns, e, h1, _, _, q⟩ := h
    subst e
    exact ⟨_, pss_wp, hb ns H H Q _ ⟨cdv, A, outer, s, E, rfl, hr⟩ q _ H H (sl_start (DAll.cons ⟨a, rfl, h1⟩ DAll.nil)) (Step.rfl (Ex.refl _)) (Ex.refl _) Rok.nil⟩
end
theorem mb_ad {b l a : Addr} (h : MB b l a) : a ∈ (Res.box b l).ad := by
  have h' : a = b ∨ a = l := h
  simpa [Res.box] using h'
end Lh
/-! Lists that an expression makes anew and that still change; an item of such a list added to. -/
namespace Lh
open PySem L2
open Evl (Ex ex_l ex_t ex_rd fresh_back)
section
variable {M : Addr → Prop} {Γ Γ' : Ct} {Rs : List Res} {X : Cx} {Z0 Z Hl : Hp} {D : Ends} {K : PySem.W.Frag} {rest : List Stmt} {a b e o : Expr} {pos : Pos}
/-- t makes a new list of these things -/
def FE (M : Addr → Prop) (Γ : Ct) (Rs : List Res) (t : TE) (Ps : List Pd) : Prop := ∀ (σ : L2.St) (H0 H : Hp), Sl Γ σ H0 → Ex H0 H → Rok Rs H0 H → ∀ Q : VK,
  (∀ (p : Addr) (vs : List V) (H1 G1 : Hp), Step M H0 H H1 G1 → Rok Rs H1 G1 → G1 p = none → DAll Ps vs H1 → Q (.ref p) (upd G1 p (.lst vs))) → t σ H Q
theorem FE.wp {t : TE} {Ps : List Pd} (h : PE X e t) (y : FE M Γ Rs t Ps) : FE M Γ Rs (wpE X e) Ps := fun σ H0 H l ex r Q q => PE.wp h (y σ H0 H l ex r Q q)
/-- [..] * k -/
theorem fe_rep {ds : List PyData} {k : Int} (ha : XE M Γ Rs X a (PD X.K (.list ds))) (hb : XE M Γ Rs X b (PD X.K (.int k))) (hk : -(2 ^ 63) ≤ k ∧ k < 2 ^ 63) (hz : ds.length * k.toNat ≤ 1000000) :
    FE M Γ Rs (wpE X (.BinOp a .Mult b pos)) ((List.replicate k.toNat ds).flatten.map (PD X.K)) :=
  FE.wp (pe_op op_rep pe_wp pe_wp) fun σ H0 H l ex r Q q => ha σ H0 H l ex r _ fun x H1 G1 s1 k1 hx => hb σ H1 G1 (l.ex s1.ex) s1.le k1 _ fun y H2 G2 s2 k2 hy => by
    obtain ⟨c, xs, e1, h1, h2⟩ := hx
    have e2 : y = .int k := hy
    subst e1 e2
    refine ⟨c, k, xs, rfl, rfl, s2.le _ _ (s2.ex _ _ h1), hk.1, hk.2, by rw [h2.len]; exact sl_big hz, fun p hp => ?_⟩
    exact q p _ H2 G2 (s1.trans s2) k2 hp (dd_rep (DdAll.ex s2.ex _ _ h2) _).da
/-- y = e, a new list that may still change -/
theorem xs_newF (i : Nat) {x : Str} {Ps : List Pd} {pos' : Pos} (h : FE M Γ Rs (wpE X e) Ps) (k : ∀ q, XS M (Γ.set i (some (PV (.ref q)))) (Res.lst Z q Ps :: Rs) X Z0 Z Hl D rest) (cv : Cov M Rs) (hN : X.N.Nodup)
    (hi : X.N[i]? = some x := by rfl) (hx : Loc X.env.scope x := by first | exact Or.inl rfl | exact Or.inr rfl) (hs : swapsWith e (some (.Name x pos')) pos.line X.env = pure false := by rfl) (hf : X.fn x = true ∨ X.env.scope.names.lookup x = some .local := by first | exact .inl rfl | exact .inr rfl) :
    XS M Γ Rs X Z0 Z Hl D (.Assign [.Name x pos'] e pos :: rest) :=
  xs_cons (ps_set hN hi hx pe_wp hs hf) fun σ H0 H l s b r => h σ H0 H l s.le r _ fun p vs H1 G1 s1 k1 hp a1 => by
    have t := s.trans s1
    have ne : ∀ r ∈ Rs, ∀ a ∈ r.ad, a ≠ p := fun r hr a ha e => by
      obtain ⟨⟨o, h1⟩, _⟩ := r.tr (k1.2 r hr) a ha
      rw [e, hp] at h1
      cases h1
    have hZ : Z p = none := by
      cases e : Z p with
      | none => rfl
      | some o =>
        obtain ⟨o', h'⟩ := t.th p o e
        rw [hp] at h'
        cases h'
    have aN := fresh_back s1.le hp
    refine k p _ H1 _ ((l.ex s1.ex).set (P := PV (.ref p)) rfl) ⟨fun a o hm ha => ?_, fun a o ha => ?_, t.ex, fun a o ha => ?_, t.nw⟩ (b.trans s1.ex) ⟨?_, fun r hr => ?_⟩
    · rw [upd_ne (ne_of_none ha hZ)]
      exact t.un a o hm ha
    · obtain ⟨o', h'⟩ := t.th a o ha
      exact ⟨o', by rw [upd_ne (ne_of_none h' hp)]; exact h'⟩
    · rw [upd_ne (ne_of_none (t.le a o ha) hp)]
      exact t.le a o ha
    · rw [List.flatMap_cons, List.nodup_append]
      refine ⟨by simp [Res.lst], k1.1, fun a ha c hc e => ?_⟩
      have e1 : a = p := by simpa [Res.lst] using ha
      obtain ⟨r, hr, hc⟩ := List.mem_flatMap.mp hc
      exact ne r hr c hc (e ▸ e1)
    · obtain e | hr := List.mem_cons.mp hr
      · subst e
        exact ⟨hZ, aN, vs, upd_same, a1⟩
      · exact (k1.wr ne).2 r hr
/-- an item, by values -/
theorem get_lst : PGet X (rIxL X.K) := by
  intro pins z σ G o k vo vk Q J ro rk h
  obtain ⟨c, us, n, y, rfl, rfl, hc, hy, done⟩ := h
  cases ro
  obtain ⟨tk, rfl⟩ := rk
  obtain ⟨es, rel, plain, _⟩ := J.list hc
  obtain ⟨m, g1, g2, _, g4, g5⟩ := atI_get hy
  obtain ⟨val, hval, rval⟩ := rel.get g2
  have len := rel.length
  have big := line63
  have fin : EP X pins σ Q val z := ⟨y, G, J, rval, done⟩
  by_cases neg : n < 0
  · have place : (n + (es.toArray.size : Int)).toNat = m := by
      rw [seqIndex_neg neg g4] at g1
      rw [List.size_toArray, ← len]
      exact Option.some.inj g1
    refine wpAny_getItem_list_neg plain.isList neg ?_ (by omega) ?_ fin
    · rw [List.size_toArray]
      omega
    · rw [place]
      simpa using hval
  · have place : n.toNat = m := by
      rw [seqIndex_of (by omega) g5] at g1
      exact Option.some.inj g1
    refine wpAny_getItem_list plain.isList (by omega) (by omega) ?_ fin
    rw [place]
    simpa using hval
/-- o[i] += e, ints -/
theorem xs_addS {q : Addr} {i : Expr} {ns : List Int} {k n : Int} {tpos : Pos} {Ps : List Pd} (eP : Ps = (li ns).map (PD X.K)) (ho : XE M Γ (Res.lst Z q Ps :: Rs) X o (PV (.ref q))) (hi : XE M Γ (Res.lst Z q Ps :: Rs) X i (PD X.K (.int k))) (he : XE M Γ (Res.lst Z q Ps :: Rs) X e (PD X.K (.int n))) (hk : 0 ≤ k ∧ k < ns.length)
    (h : XS M Γ (Res.lst Z q ((li (ns.set k.toNat (ns.getD k.toNat 0 + n))).map (PD X.K)) :: Rs) X Z0 Z Hl D rest)
    (ha : ∀ ov iv new, augStore i ov iv new = (do holding [new, ov, iv] (setItem ov iv new); release [new, ov, iv] []; pure .next) := by intros; rfl) : XS M Γ (Res.lst Z q Ps :: Rs) X Z0 Z Hl D (.AugAssign (.Subscript o i tpos) .Add e pos :: rest) := by
  subst eP
  refine xs_cons (ps_augS pe_wp pe_wp get_lst pe_wp ip_add set_list ha) fun σ H0 H l s b r => ho σ H0 H l s.le r _ fun v1 H1 G1 s1 k1 hv1 => hi σ H1 G1 (l.ex s1.ex) s1.le k1 _ fun v2 H2 G2 s2 k2 hv2 => ?_
  have e1 : v1 = .ref q := hv1
  have e2 : v2 = .int k := hv2
  subst e1 e2
  obtain ⟨_, _, xs, hq, hd⟩ := k2.2 _ List.mem_cons_self
  have ex1 := hd.dd.ints
  subst ex1
  have hlt : k.toNat < ns.length := by omega
  have ek : k = (k.toNat : Int) := by omega
  have hn : (ns.map V.int)[k.toNat]? = some (V.int (ns.getD k.toNat 0)) := by
    rw [List.getElem?_map, List.getD_eq_getElem?_getD, List.getElem?_eq_getElem hlt]
    rfl
  have hat : atI (ns.map V.int) k = some (V.int (ns.getD k.toNat 0)) := by
    rw [ek]
    exact atI_nat hn
  refine ⟨q, _, k, _, rfl, rfl, SqL.of hq, hat, he σ H2 G2 (l.ex (s1.ex.trans s2.ex)) s2.le k2 _ fun v3 H3 G3 s3 k3 hv3 => ?_⟩
  have e3 : v3 = .int n := hv3
  subst e3
  obtain ⟨hz0, h0, xs3, hq3, hd3⟩ := k3.2 _ List.mem_cons_self
  have ex3 := hd3.dd.ints
  subst ex3
  refine ⟨_, _, rfl, rfl, q, _, k, k.toNat, rfl, rfl, hq3, ?_, ?_⟩
  · rw [ek]
    exact Evl.ixN_nat (by rw [List.length_map]; omega)
  have eset : (ns.map V.int).set k.toNat (V.int (ns.getD k.toNat 0 + n)) = (ns.set k.toNat (ns.getD k.toNat 0 + n)).map V.int := (List.map_set ..).symm
  rw [eset]
  have t := ((s.trans s1).trans s2).trans s3
  have nd := k3.1
  rw [List.flatMap_cons, List.nodup_append] at nd
  have ne : ∀ r ∈ Rs, ∀ a ∈ r.ad, a ≠ q := fun r hr a ha e => nd.2.2 q (by simp [Res.lst]) a (List.mem_flatMap.mpr ⟨r, hr, ha⟩) e.symm
  have kr : Rok Rs H3 G3 := ⟨nd.2.1, fun r hr => k3.2 r (List.mem_cons_of_mem _ hr)⟩
  refine h _ H3 _ (l.ex ((s1.ex.trans s2.ex).trans s3.ex)) ⟨fun a o hm ha => ?_, fun a o ha => ?_, t.ex, fun a o ha => ?_, t.nw⟩ (b.trans ((s1.ex.trans s2.ex).trans s3.ex)) ⟨k3.1, fun r hr => ?_⟩
  · rw [upd_ne (ne_of_none ha hz0)]
    exact t.un a o hm ha
  · obtain ⟨o', h'⟩ := t.th a o ha
    by_cases c : a = q
    · rw [c]
      exact ⟨_, upd_same⟩
    · exact ⟨o', by rw [upd_ne c]; exact h'⟩
  · have na : a ≠ q := fun e => by
      rw [e, h0] at ha
      cases ha
    rw [upd_ne na]
    exact t.le a o ha
  · obtain e | hr := List.mem_cons.mp hr
    · subst e
      exact ⟨hz0, h0, _, upd_same, (DdAll.of_ints _).da⟩
    · exact (kr.wr ne).2 r hr
/-! ### tuples of ints side by side -/
theorem xt_neTu {a b : Expr} {ns ms : List Int} {n : Nat} (hr : Room n X.A) (ha : XE M Γ Rs X a (PD X.K (.tuple (li ns)))) (hb : XE M Γ Rs X b (PD X.K (.tuple (li ms)))) : XT M Γ Rs X (.Compare a [.NotEq] [b] pos) (Is (!decide (ns = ms))) :=
  YT.eq (xt_neD hr ha hb (shaped_li ns) (shaped_li ms)) (by rw [eqv_tli])
theorem xt_eqTu {a b : Expr} {ns ms : List Int} {n : Nat} (hr : Room n X.A) (ha : XE M Γ Rs X a (PD X.K (.tuple (li ns)))) (hb : XE M Γ Rs X b (PD X.K (.tuple (li ms)))) : XT M Γ Rs X (.Compare a [.Eq] [b] pos) (Is (decide (ns = ms))) :=
  YT.eq (xt_eqD hr ha hb (shaped_li ns) (shaped_li ms)) (by rw [eqv_tli])
end
end Lh
/-! List comprehensions of two clauses, over data. -/
namespace Lh
open PySem L2
open Evl (Ex ex_l ex_t ex_rd fresh_back)
/-- what two clauses make -/
def lc2M (f : PyData → List PyData) (c : PyData → PyData → Bool) (e : PyData → PyData → PyData) (ds : List PyData) : List PyData := ds.flatMap fun d => ((f d).filter (c d)).map (e d)
theorem lc2M_snoc {f : PyData → List PyData} {c : PyData → PyData → Bool} {e : PyData → PyData → PyData} {ds : List PyData} {d : PyData} : lc2M f c e (ds ++ [d]) = lc2M f c e ds ++ ((f d).filter (c d)).map (e d) := by
  unfold lc2M
  rw [List.flatMap_append]
  simp
section
variable {M : Addr → Prop} {Γ Γ' : Ct} {Rs : List Res} {X : Cx} {Z0 Z Hl : Hp} {D : Ends} {K : PySem.W.Frag} {rest : List Stmt}
theorem ye_lc2 {t0 i0 t1 i1 b : Expr} {sco : Scope} {i j : Nat} (hij : i ≠ j) {ds : List PyData} (hi : XI M Γ Rs X t0 i0 (ds.map (PD K))) (cv : Cov M Rs) (f : PyData → List PyData) (c : PyData → PyData → Bool) (e : PyData → PyData → PyData) (hz : (lc2M f c e ds).length ≤ 100000) {tt : TT}
    (h1 : ∀ d ∈ ds, OnBlk X sco fun Y => XI M (blk1 Γ i j (PD K d)) Rs Y t1 i1 ((f d).map (PD K)))
    (hc : ∀ d ∈ ds, ∀ z ∈ f d, YT M (blkG (blk1 Γ i j (PD K d)) j (PD K z)) Rs tt (Is (c d z)))
    (hb : ∀ d ∈ ds, ∀ z ∈ f d, c d z = true → OnBlk X sco fun Y => XE M (blkG (blk1 Γ i j (PD K d)) j (PD K z)) Rs Y b (PD K (e d z))) :
    YE M Γ Rs (tLc2 (wpI X t0 i0) (gName i) tYes (wpIb X sco t1 i1) (gName j) tt (wpEb X sco b) [i, j] [j]) (PD K (.list (lc2M f c e ds))) := fun σ H0 H l ex k Qf q => hi σ H0 H l ex k _ fun J A0 G1 s1 k1 wk D hD => by
  have nr : ∀ r ∈ Rs, ∀ a ∈ r.ad, a ≠ D := fun r hr a ha e => by
    obtain ⟨⟨o, h1⟩, _⟩ := r.tr (k1.2 r hr) a ha
    rw [e, hD] at h1
    cases h1
  have nM : ¬ M D := fun z => by
    obtain ⟨o, h⟩ := cv A0 G1 k1 D z
    rw [hD] at h
    cases h
  have len : (ds.map (PD K)).length = ds.length := List.length_map ..
  -- what has been made, and what the heap is
  let Cd : List PyData → Hp → Prop := fun es G => ∃ A acc, DdAll K A es acc ∧ Step M A0 G1 A G ∧ A D = none ∧ Rok Rs A G ∧ G D = some (.lst acc)
  refine ⟨fun n m G => m = ds.length - n ∧ n ≤ ds.length ∧ Cd (lc2M f c e (ds.take n)) G, ⟨_, rfl, Nat.zero_le _, A0, [], rfl, (Step.rfl s1.le).side hD (fresh_back s1.le hD), fresh_back s1.le hD, k1.wr nr, upd_same⟩, ?_⟩
  rintro n m G ⟨rfl, hn, A, acc, hdd, s2, aD, k2, gD⟩
  have w := wk A G s2.ex s2.le n
  by_cases hlt : n < ds.length
  · have hdn : ds[n]? = some ds[n] := List.getElem?_eq_getElem hlt
    have hmem : ds[n] ∈ ds := List.getElem_mem hlt
    have hq : (ds.map (PD K))[n]? = some (PD K ds[n]) := by rw [List.getElem?_map, hdn]; rfl
    obtain ⟨go, yl⟩ := w.1 _ hq
    have htk : ds.take (n + 1) = ds.take n ++ [ds[n]] := by rw [List.take_add_one, hdn]; rfl
    have hcap : (lc2M f c e (ds.take (n + 1))).length ≤ 100000 := by
      have e1 : lc2M f c e ds = lc2M f c e (ds.take (n + 1)) ++ lc2M f c e (ds.drop (n + 1)) := by
        unfold lc2M
        rw [← List.flatMap_append, List.take_append_drop]
      rw [e1, List.length_append] at hz
      omega
    refine .inr ⟨go, fun G' => n + 1 ≤ ds.length ∧ Cd (lc2M f c e (ds.take (n + 1))) G', fun G' h => ⟨ds.length - (n + 1), by omega, rfl, h⟩, fun x G2 y => ?_⟩
    obtain ⟨A2, s3, hx⟩ := yl x G2 y
    have a2 := s3.none aD gD
    have g2 : G2 D = some (.lst acc) := s3.un D _ (fun z => z) gD
    refine ⟨wipe_one hij, ?_⟩
    have lΓ : Sl (blk1 Γ i j (PD K ds[n])) ((L2.wipe σ [i, j]).set i (some x)) A2 := (((l.ex s1.ex).ex (s2.ex.trans s3.ex)).wipe [i, j]).set hx
    intro z0 G0 C cl fp
    refine h1 _ hmem z0 G0 C cl fp _ A2 G2 lΓ s3.le (k2.step0 s3) _ fun J1 A3 G3 s4 k4 wk1 => ?_
    have a3 := s4.none a2 g2
    have g3 : G3 D = some (.lst acc) := s4.un D _ nM g2
    have st3 : Step M A0 G1 A3 G3 := s2.trans (s3.of0.trans s4)
    refine ⟨fun u m G => m = (f ds[n]).length - u ∧ u ≤ (f ds[n]).length ∧ ∃ A acc, DdAll K A (lc2M f c e (ds.take n) ++ (((f ds[n]).take u).filter (c ds[n])).map (e ds[n])) acc ∧ Step M A0 G1 A G ∧ A D = none ∧ Rok Rs A G ∧ G D = some (.lst acc) ∧ Ex A3 A, ⟨_, rfl, Nat.zero_le _, A3, acc, ?_, st3, a3, k4, g3, Ex.refl _⟩, ?_⟩
    · rw [List.take_zero]
      show DdAll K A3 (lc2M f c e (ds.take n) ++ []) acc
      rw [List.append_nil]
      exact DdAll.ex (s3.ex.trans s4.ex) _ _ hdd
    · rintro u m G4 ⟨rfl, hu, A4, acc4, hdd4, s5, a4, k5, g4, ex4⟩
      have w1 := wk1 A4 G4 ex4 s5.le u
      by_cases hlt1 : u < (f ds[n]).length
      · have hz1 : (f ds[n])[u]? = some (f ds[n])[u] := List.getElem?_eq_getElem hlt1
        have hzm : (f ds[n])[u] ∈ f ds[n] := List.getElem_mem hlt1
        have htk1 : (f ds[n]).take (u + 1) = (f ds[n]).take u ++ [(f ds[n])[u]] := by rw [List.take_add_one, hz1]; rfl
        generalize (f ds[n])[u] = z at hz1 hzm htk1
        obtain ⟨go1, yl1⟩ := w1.1 (PD K z) (by rw [List.getElem?_map, hz1]; rfl)
        refine .inr ⟨go1, fun G' => u + 1 ≤ (f ds[n]).length ∧ ∃ A acc, DdAll K A (lc2M f c e (ds.take n) ++ (((f ds[n]).take (u + 1)).filter (c ds[n])).map (e ds[n])) acc ∧ Step M A0 G1 A G' ∧ A D = none ∧ Rok Rs A G' ∧ G' D = some (.lst acc) ∧ Ex A3 A, fun G' h => ⟨(f ds[n]).length - (u + 1), by omega, rfl, h⟩, fun y1 G5 hy => ?_⟩
        obtain ⟨A5, s6, hx5⟩ := yl1 y1 G5 hy
        have a5 := s6.none a4 g4
        have g5 : G5 D = some (.lst acc4) := s6.un D _ (fun z => z) g4
        refine ⟨by
          show ((((L2.wipe σ [i, j]).set i (some x)).set j none).set j (some y1)).set j none = ((L2.wipe σ [i, j]).set i (some x)).set j none
          rw [List.set_set, List.set_set], ?_⟩
        have l5 : Sl (blkG (blk1 Γ i j (PD K ds[n])) j (PD K z)) ((L2.wipe ((L2.wipe σ [i, j]).set i (some x)) [j]).set j (some y1)) A5 := (((lΓ.ex s4.ex).ex (ex4.trans s6.ex)).wipe [j]).set hx5
        refine hc _ hmem z hzm _ A5 G5 l5 s6.le (k5.step0 s6) _ fun bb A6 G6 s7 k7 hbb => ?_
        have hbb' : bb = c ds[n] z := hbb
        have a6 := s7.none a5 g5
        have g6 : G6 D = some (.lst acc4) := s7.un D _ nM g5
        have t6 : Step M A0 G1 A6 G6 := s5.trans (s6.of0.trans s7)
        cases bb with
        | false =>
          refine ⟨hlt1, A6, acc4, ?_, t6, a6, k7, g6, ex4.trans (s6.ex.trans s7.ex)⟩
          have e1 : (((f ds[n]).take (u + 1)).filter (c ds[n])) = ((f ds[n]).take u).filter (c ds[n]) := by
            rw [htk1, List.filter_append, List.filter_cons, if_neg (by rw [← hbb']; simp)]
            simp
          rw [e1]
          exact DdAll.ex (s6.ex.trans s7.ex) _ _ hdd4
        | true =>
          have e1 : (((f ds[n]).take (u + 1)).filter (c ds[n])).map (e ds[n]) = (((f ds[n]).take u).filter (c ds[n])).map (e ds[n]) ++ [e ds[n] z] := by
            rw [htk1, List.filter_append, List.filter_cons, if_pos (by rw [← hbb']), List.map_append]
            rfl
          intro z0 G0 C cl fp
          refine hb _ hmem z hzm hbb'.symm z0 G0 C cl fp _ A6 G6 (l5.ex s7.ex) s7.le k7 _ fun v A7 G7 s8 k8 hv => ?_
          have a7 := s8.none a6 g6
          have g7 : G7 D = some (.lst acc4) := s8.un D _ nM g6
          have t7 := t6.trans s8
          refine ⟨acc4, g7, ?_, hlt1, A7, acc4 ++ [v], ?_, t7.side hD a7, a7, k8.wr nr, upd_same, ex4.trans ((s6.ex.trans s7.ex).trans s8.ex)⟩
          · have h1 : (lc2M f c e (ds.take n) ++ (((f ds[n]).take (u + 1)).filter (c ds[n])).map (e ds[n])).length ≤ 100000 := by
              rw [htk, lc2M_snoc, List.length_append] at hcap
              rw [List.length_append]
              have h2 : ((((f ds[n]).take (u + 1)).filter (c ds[n])).map (e ds[n])).length ≤ (((f ds[n]).filter (c ds[n])).map (e ds[n])).length := by
                rw [List.length_map, List.length_map]
                exact ((List.take_sublist _ _).filter _).length_le
              omega
            rw [e1, ← List.append_assoc, List.length_append] at h1
            rw [hdd4.len]
            have : (100000 : Nat) < sizeLine := by decide
            simp only [List.length_cons, List.length_nil] at h1
            omega
          · rw [e1, ← List.append_assoc]
            exact DdAll.app (DdAll.ex ((s6.ex.trans s7.ex).trans s8.ex) _ _ hdd4) (DdAll.one hv)
      · have eu : u = (f ds[n]).length := by omega
        subst eu
        refine .inl ⟨w1.2 (by simp), hlt, A4, acc4, ?_, s5, a4, k5, g4⟩
        rw [htk, lc2M_snoc]
        rw [List.take_length] at hdd4
        exact hdd4
  · have en : n = ds.length := by omega
    subst en
    refine .inl ⟨w.2 len, q (.ref D) (upd A D (.lst acc)) G ?_ (k2.updA aD nr) ⟨D, acc, rfl, upd_same, ?_⟩⟩
    · have t := s1.trans s2
      refine ⟨t.un, t.th, t.ex.trans (Ex.new aD), fun a o h => ?_, fun a o h => ?_⟩
      · by_cases ha : a = D
        · subst ha
          rw [upd_same] at h
          rw [gD]
          exact h
        · rw [upd_ne ha] at h
          exact t.le a o h
      · by_cases ha : a = D
        · subst ha
          refine .inr ?_
          cases e : H a with
          | none => rfl
          | some u =>
            obtain ⟨u', h'⟩ := s1.th a u e
            rw [hD] at h'
            cases h'
        · rw [upd_ne ha] at h
          exact t.nw a o h
    · rw [List.take_length] at hdd
      exact DdAll.ex (Ex.new aD) _ _ hdd
/-- [b for x in i0 for y in i1] -/
theorem xe_lc2 (i j : Nat) (hij : i ≠ j) {x y : Str} {i0 i1 b : Expr} {sco : Scope} {xp yp pos : Pos} {ds : List PyData} (hi : XI M Γ Rs X (.Name x xp) i0 (ds.map (PD X.K))) (f : PyData → List PyData) (e : PyData → PyData → PyData) (hz : (lc2M f (fun _ _ => true) e ds).length ≤ 100000)
    (h1 : ∀ d ∈ ds, OnBlk X sco fun Y => XI M (blk1 Γ i j (PD X.K d)) Rs Y (.Name y yp) i1 ((f d).map (PD X.K)))
    (hb : ∀ d ∈ ds, ∀ z ∈ f d, OnBlk X sco fun Y => XE M (blkG (blk1 Γ i j (PD X.K d)) j (PD X.K z)) Rs Y b (PD X.K (e d z))) (hN : X.N.Nodup) (ok : BlkOk X.N X.env.scope sco [(x, i), (y, j)]) (cv : Cov M Rs) (hg : BlkG X sco x xp i) (hg1 : BlkG X sco y yp j)
    (hc : X.calm = true := by rfl) (hs : ∀ y, foldedSetIterable i0 X.env y = pure y := by intro _; rfl) (hs1 : ∀ env y, foldedSetIterable i1 env y = pure y := by intro _ _; rfl) :
    XE M Γ Rs X (.ListComp b [⟨.Name x xp, i0, [], 0⟩, ⟨.Name y yp, i1, [], 0⟩] sco pos) (PD X.K (.list (lc2M f (fun _ _ => true) e ds))) :=
  YE.wp (pe_lc2 (own := [(x, i), (y, j)]) (vs1 := [j]) hc hN pi_wp ok (by simp) hg (fun _ _ _ _ _ => pts_nil) onblk_pi hg1 (fun _ _ _ _ _ => pts_nil) blk_ok hs hs1) (ye_lc2 hij hi cv f (fun _ _ => true) e hz h1 (fun _ _ _ _ => yt_yes) fun d hd z hz _ => hb d hd z hz)
/-- [b for x in i0 for y in i1 if q] -/
theorem xe_lc2If (i j : Nat) (hij : i ≠ j) {x y : Str} {i0 i1 b q : Expr} {sco : Scope} {xp yp pos : Pos} {ds : List PyData} (hi : XI M Γ Rs X (.Name x xp) i0 (ds.map (PD X.K))) (f : PyData → List PyData) (c : PyData → PyData → Bool) (e : PyData → PyData → PyData) (hz : (lc2M f c e ds).length ≤ 100000)
    (h1 : ∀ d ∈ ds, OnBlk X sco fun Y => XI M (blk1 Γ i j (PD X.K d)) Rs Y (.Name y yp) i1 ((f d).map (PD X.K)))
    (hq : ∀ d ∈ ds, ∀ z ∈ f d, OnBlk X sco fun Y => XT M (blkG (blk1 Γ i j (PD X.K d)) j (PD X.K z)) Rs Y q (Is (c d z)))
    (hb : ∀ d ∈ ds, ∀ z ∈ f d, c d z = true → OnBlk X sco fun Y => XE M (blkG (blk1 Γ i j (PD X.K d)) j (PD X.K z)) Rs Y b (PD X.K (e d z))) (hN : X.N.Nodup) (ok : BlkOk X.N X.env.scope sco [(x, i), (y, j)]) (cv : Cov M Rs) (hg : BlkG X sco x xp i) (hg1 : BlkG X sco y yp j)
    (hc : X.calm = true := by rfl) (hs : ∀ y, foldedSetIterable i0 X.env y = pure y := by intro _; rfl) (hs1 : ∀ env y, foldedSetIterable i1 env y = pure y := by intro _ _; rfl) :
    XE M Γ Rs X (.ListComp b [⟨.Name x xp, i0, [], 0⟩, ⟨.Name y yp, i1, [q], 0⟩] sco pos) (PD X.K (.list (lc2M f c e ds))) :=
  YE.wp (pe_lc2 (own := [(x, i), (y, j)]) (vs1 := [j]) hc hN pi_wp ok (by simp) hg (fun _ _ _ _ _ => pts_nil) onblk_pi hg1 (fun _ _ _ _ _ => pts_one (blk_okT _ _ _ _ _)) blk_ok hs hs1) (ye_lc2 hij hi cv f c e hz h1 (fun d hd z hz => yt_blk (hq d hd z hz)) hb)
end
end Lh
/-! Lists and tuples of things that are no data; tuples with a star; membership in lists of data. -/
namespace Lh
open PySem L2
open Evl (Ex ex_l ex_t ex_rd fresh_back)
theorem DAll.take {Ps : List Pd} {xs : List V} {H : Hp} (h : DAll Ps xs H) (n : Nat) : DAll (Ps.take n) (xs.take n) H := ⟨by rw [List.length_take, List.length_take, h.1], fun i P q => by
  by_cases hi : i < n
  · rw [List.getElem?_take_of_lt hi] at q ⊢
    exact h.2 i P q
  · rw [List.getElem?_eq_none (by rw [List.length_take]; omega)] at q
    cases q⟩
theorem DAll.drop {Ps : List Pd} {xs : List V} {H : Hp} (h : DAll Ps xs H) (n : Nat) : DAll (Ps.drop n) (xs.drop n) H := ⟨by rw [List.length_drop, List.length_drop, h.1], fun i P q => by
  rw [List.getElem?_drop] at q ⊢
  exact h.2 _ P q⟩
theorem DAll.rev {Ps : List Pd} {xs : List V} {H : Hp} (h : DAll Ps xs H) : DAll Ps.reverse xs.reverse H := ⟨by rw [List.length_reverse, List.length_reverse, h.1], fun i P q => by
  have hl := h.1
  have hi : i < Ps.length := by
    have := (List.getElem?_eq_some_iff.mp q).1
    rwa [List.length_reverse] at this
  rw [List.getElem?_reverse hi] at q
  rw [List.getElem?_reverse (by omega), hl]
  exact h.2 _ P q⟩
section
variable {M : Addr → Prop} {Γ Γ' : Ct} {Rs : List Res} {X : Cx} {Z0 Z Hl : Hp} {D : Ends} {K : PySem.W.Frag} {rest : List Stmt} {a b c e : Expr} {es : List Expr} {pos p : Pos} {i j k : Int}
/-- a list at hand changes no more: a list of things -/
theorem xs_frzP (i : Nat) {q : Addr} {Ps : List Pd} (hi : Γ[i]? = some (some (PV (.ref q)))) (h : XS M (Γ.set i (some (PLs Ps))) Rs X Z0 Z Hl D rest) : XS M Γ (Res.lst Z q Ps :: Rs) X Z0 Z Hl D rest := fun σ H0 H l s b k => by
  obtain ⟨hz, h0, xs, hq, hd⟩ := k.2 _ List.mem_cons_self
  obtain ⟨v, h1, h2⟩ := l.2 i _ hi
  have e2 : v = .ref q := h2
  subst e2
  have nd := k.1
  rw [List.flatMap_cons, List.nodup_append] at nd
  have ne : ∀ r ∈ Rs, ∀ a ∈ r.ad, a ≠ q := fun r hr a ha e => nd.2.2 q (by simp [Res.lst]) a (List.mem_flatMap.mpr ⟨r, hr, ha⟩) e.symm
  have k2 : Rok Rs (upd H0 q (.lst xs)) H := Rok.updA ⟨nd.2.1, fun r hr => k.2 r (List.mem_cons_of_mem _ hr)⟩ h0 ne
  have x1 : Ex H0 (upd H0 q (.lst xs)) := Ex.new h0
  have l2 : Sl (Γ.set i (some (PLs Ps))) (σ.set i (some (.ref q))) (upd H0 q (.lst xs)) := (l.ex x1).set ⟨q, xs, rfl, upd_same, hd.ex x1⟩
  have e3 : σ.set i (some (.ref q)) = σ := by
    have hlt := (List.getElem?_eq_some_iff.mp h1).1
    have := (List.getElem?_eq_some_iff.mp h1).2
    rw [← this]
    exact List.set_getElem_self hlt
  rw [e3] at l2
  refine h σ _ H l2 ⟨s.un, s.th, s.ex.trans x1, fun a o ha => ?_, fun a o ha => ?_⟩ (b.trans x1) k2
  · by_cases e : a = q
    · subst e
      rw [upd_same] at ha
      rw [hq]
      exact ha
    · rw [upd_ne e] at ha
      exact s.le a o ha
  · by_cases e : a = q
    · subst e
      exact .inr hz
    · rw [upd_ne e] at ha
      exact s.nw a o ha
/-- tuple(l) -/
theorem xe_tupPL {Ps : List Pd} (hm : X.mg "tuple" = none) (h : XE M Γ Rs X a (PLs Ps)) (hg : Gl X "tuple" := by rfl) (he : starEach [a] X.env = (false, eval a X.env) :: starEach [] X.env := by rfl) : XE M Γ Rs X (.Call (.Name "tuple" p) [a] [] pos) (PTs X.K Ps) :=
  xe_callTy call_tuple_of hm (by decide +kernel) (xa_1 h he) (fun xs H0 H hx e _ => by
    obtain ⟨x, e1, q, ys, e2, h1, h2⟩ := da1 hx
    subst e1 e2
    exact fun Q k => ⟨q, ys, rfl, .inl ⟨SqL.of (e _ _ h1), fun t ht => k _ (upd H0 t (.tup ys)) _ (Step.new e ht) ⟨t, ys, rfl, SqT.of upd_same, h2.ex (Ex.new (fresh_back e ht))⟩⟩⟩) hg (by decide) (by decide) he rfl
/-- len(t) -/
theorem xe_lenPT {Ps : List Pd} (hm : X.mg "len" = none) (h : XE M Γ Rs X a (PTs X.K Ps)) (hg : Gl X "len" := by rfl) (he : starEach [a] X.env = (false, eval a X.env) :: starEach [] X.env := by rfl) : XE M Γ Rs X (.Call (.Name "len" p) [a] [] pos) (PD X.K (.int (Ps.length : Int))) :=
  xe_callB call_len_seq hm PySem.boot_len (xa_1 h he) (fun xs H0 H hx e _ => by
    obtain ⟨x, e1, q, ys, e2, h1, h2⟩ := da1 hx
    subst e1 e2
    exact Yld.val (z := .int (ys.length : Int)) e (by rw [h2.1]; rfl) fun Q k => ⟨q, ys, rfl, .inr (ex_t e h1), k⟩) hg (by decide) (by decide) he rfl
theorem xe_lenPL {Ps : List Pd} (hm : X.mg "len" = none) (h : XE M Γ Rs X a (PLs Ps)) (hg : Gl X "len" := by rfl) (he : starEach [a] X.env = (false, eval a X.env) :: starEach [] X.env := by rfl) : XE M Γ Rs X (.Call (.Name "len" p) [a] [] pos) (PD X.K (.int (Ps.length : Int))) :=
  xe_callB call_len_seq hm PySem.boot_len (xa_1 h he) (fun xs H0 H hx e _ => by
    obtain ⟨x, e1, q, ys, e2, h1, h2⟩ := da1 hx
    subst e1 e2
    exact Yld.val (z := .int (ys.length : Int)) e (by rw [h2.1]; rfl) fun Q k => ⟨q, ys, rfl, .inl (SqL.of (e _ _ h1)), k⟩) hg (by decide) (by decide) he rfl
/-- l[::-1] -/
theorem xe_revP {Ps : List Pd} {kq : Nat} {q1 q2 q3 : Pos} (h : XE M Γ Rs X a (PLs Ps)) : XE M Γ Rs X (.Subscript a (.Slice none none (some (.UnaryOp .USub (.Constant (.int 1) kq q1) q2)) q3) pos) (PLs Ps.reverse) := YE.wp (pe_revL pe_wp) fun σ H0 H l e k Q q =>
  h σ H0 H l e k _ fun v H1 G1 s1 k1 ⟨a, xs, e1, h1, h2⟩ => ⟨a, xs, e1, SqL.of (s1.le _ _ h1), fun p hp => q _ _ _ (s1.trans (Step.new s1.le hp)) (k1.step0 (Step.new s1.le hp)) ⟨p, _, rfl, upd_same, h2.rev.ex (Ex.new (fresh_back s1.le hp))⟩⟩
theorem ye_slP {te : TE} {tl th : TO} {Ps : List Pd} {lo hi : Option Int} (h : YE M Γ Rs te (PLs Ps)) (hl : YO M Γ Rs tl lo) (hh : YO M Γ Rs th hi) : YE M Γ Rs (tSl (rSlL K) te tl th) (PLs ((Ps.drop (HT.sIx Ps.length 0 lo)).take (HT.sIx Ps.length Ps.length hi - HT.sIx Ps.length 0 lo))) := fun σ H0 H l e k Q q =>
  h σ H0 H l e k _ fun v H1 G1 s1 k1 ⟨a, xs, e1, h1, h2⟩ => hl σ H1 G1 (l.ex s1.ex) s1.le k1 _ fun H2 G2 s2 k2 => hh σ H2 G2 (l.ex (s1.ex.trans s2.ex)) s2.le k2 _ fun H3 G3 s3 k3 => ⟨a, xs, e1, SqL.of ((s2.trans s3).le _ _ ((s2.trans s3).ex _ _ h1)), fun p hp => by
    have s := (s1.trans s2).trans s3
    have hc : DAll ((Ps.drop (HT.sIx Ps.length 0 lo)).take (HT.sIx Ps.length Ps.length hi - HT.sIx Ps.length 0 lo)) (cutV xs lo hi) H1 := by
      unfold cutV
      rw [h2.1]
      exact (h2.drop _).take _
    exact q _ _ _ (s.trans (Step.new s.le hp)) (k3.step0 (Step.new s.le hp)) ⟨p, _, rfl, upd_same, hc.ex ((s2.ex.trans s3.ex).trans (Ex.new (fresh_back s.le hp)))⟩⟩
theorem cut_eqP1 (Ps : List Pd) {i : Int} (h0 : 0 ≤ i) : (Ps.drop (HT.sIx Ps.length 0 (some i))).take (HT.sIx Ps.length Ps.length none - HT.sIx Ps.length 0 (some i)) = Ps.drop i.toNat := cut_eq1 Ps h0
theorem cut_eqP2 (Ps : List Pd) {i : Int} (h0 : 0 ≤ i) : (Ps.drop (HT.sIx Ps.length 0 none)).take (HT.sIx Ps.length Ps.length (some i) - HT.sIx Ps.length 0 none) = Ps.take i.toNat := cut_eq2 Ps h0
/-- l[i:], l[:i] -/
theorem xe_slPa {Ps : List Pd} {p2 : Pos} (h : XE M Γ Rs X a (PLs Ps)) (hl : XE M Γ Rs X b (PD X.K (.int i))) (h0 : 0 ≤ i) : XE M Γ Rs X (.Subscript a (.Slice (some b) none none p2) pos) (PLs (Ps.drop i.toNat)) :=
  (YE.wp (pe_slice sl_list pe_wp (po_some pe_wp) po_none) (ye_slP h (yo_some hl) yo_none)).to (by rw [cut_eqP1 Ps h0])
theorem xe_slPb {Ps : List Pd} {p2 : Pos} (h : XE M Γ Rs X a (PLs Ps)) (hl : XE M Γ Rs X b (PD X.K (.int i))) (h0 : 0 ≤ i) : XE M Γ Rs X (.Subscript a (.Slice none (some b) none p2) pos) (PLs (Ps.take i.toNat)) :=
  (YE.wp (pe_slice sl_list pe_wp po_none (po_some pe_wp)) (ye_slP h yo_none (yo_some hl))).to (by rw [cut_eqP2 Ps h0])
/-- enumerate(t) -/
theorem wk_enumP {a : Addr} {xs : List V} {Ps : List Pd} {H0 : Hp} (h : SqT K H0 a xs) (hd : DAll Ps xs H0) : Wk (LhS.IteT K a) ((List.range Ps.length).zipWith (fun i P => PT2 K (PD K (.int (i : Nat))) P) Ps) H0 := fun H0' H e e' i => by
  refine ⟨fun Q q => ?_, fun q => ⟨xs, ex_t (e.trans e') h, by rw [hd.1]; simpa using q⟩⟩
  have hlt : i < Ps.length := by
    have := (List.getElem?_eq_some_iff.mp q).1
    simpa using this
  have e1 : PT2 K (PD K (.int (i : Nat))) Ps[i] = Q := by
    simpa [List.getElem?_zipWith, hlt] using q
  subst e1
  obtain ⟨v, h1, h2⟩ := hd.2 i _ (List.getElem?_eq_getElem hlt)
  refine ⟨⟨xs, v, ex_t (e.trans e') h, h1⟩, fun x H' ⟨T, y, y1, y2, y3, y4⟩ => ?_⟩
  have e2 : y = v := Option.some.inj ((y4 xs (ex_t (e.trans e') h)).symm.trans h1)
  subst e2 y1 y3
  exact ⟨upd H0' T (.tup [.int (i : Nat), y]), Step.new e' y2, T, _, _, rfl, SqT.of upd_same, rfl, (Ps[i]).m (e.trans (Ex.new (fresh_back e' y2))) h2⟩
theorem xi_enumP {p pos tpos : Pos} {elts : List Expr} {kk : Nat} {Ps : List Pd} (hm : X.mg "enumerate" = none) (h : XE M Γ Rs X e (PTs X.K Ps)) (hg : Gl X "enumerate" := by rfl) (hs : starEach [e] X.env = [(false, eval e X.env)] := by rfl) :
    XI M Γ Rs X (.Tuple elts kk tpos) (.Call (.Name "enumerate" p) [e] [] pos) ((List.range Ps.length).zipWith (fun i P => PT2 X.K (PD X.K (.int (i : Nat))) P) Ps) := fun σ H0 H l ex k R r => PI.wp (LhS.pi_enumT hg hm pa_wp hs) ((xa_1 h (by exact hs)) σ H0 H l ex k _ fun vs H1 G1 s1 k1 a1 => by
  obtain ⟨v, e1, a, xs, e3, h3, h4⟩ := da1 a1
  subst e1 e3
  exact ⟨a, xs, rfl, ex_t s1.le h3, r _ H1 G1 s1 k1 (wk_enumP h3 h4)⟩)
/-- [elt for x, y in iter if q] -/
theorem xe_lcPIf (i0 j : Nat) (hij : i0 ≠ j) {x y : Str} {elt iter q : Expr} {scope : Scope} {pos xp yp tp : Pos} {kt : Nat} {Qs : List Pd} (hi : XI M Γ Rs X (.Tuple [.Name x xp, .Name y yp] kt tp) iter Qs) (R : Nat → List PyData → Prop) (r0 : R 0 [])
    (ht : ∀ (i : Nat) (Q : Pd), Qs[i]? = some Q → ∃ P1 P2, Q = PT2 X.K P1 P2 ∧ ∃ B, (Blk X scope fun Y => XT M (blkP Γ i0 j P1 P2) Rs Y q B) ∧ (B true → Blk X scope fun Y => XE M (blkP Γ i0 j P1 P2) Rs Y elt (PEx (fun d => ∀ ds, ds.length ≤ i → R i ds → R (i + 1) (ds ++ [d])) (PD K))) ∧ (B false → ∀ ds, R i ds → R (i + 1) ds)) (hN : X.N.Nodup)
    (ok : BlkOk X.N X.env.scope scope [(x, i0), (y, j)]) (hz : Qs.length ≤ 100000) (cv : Cov M Rs) (hg : ∀ (s : Shared) (H : Hp) (C : Addr) (cl : List (Str × Addr)) (fp : List Addr), PG (X.blk s H scope (compEnvC scope cl C X.env) fp) (.Tuple [.Name x xp, .Name y yp] kt tp) (gTup X.K 2 (gCons (gName i0) (gCons (gName j) gNil))))
    (hc : X.calm = true := by rfl) (hs : ∀ x, foldedSetIterable iter X.env x = pure x := by intro _; rfl) : XE M Γ Rs X (.ListComp elt [⟨.Tuple [.Name x xp, .Name y yp] kt tp, iter, [q], 0⟩] scope pos) (LcP K Qs R) :=
  YE.wp (pe_lc (own := [(x, i0), (y, j)]) hc hN pi_wp ok hg (fun s H C cl fp => pts_one (blk_okT s H C cl fp)) blk_ok hs) (ye_lcP hij hi cv hz R r0 fun i Q hq => by
    obtain ⟨P1, P2, e, B, h1, h2, h3⟩ := ht i Q hq
    exact ⟨P1, P2, e, B, yt_blk h1, fun hb => ye_blk (h2 hb), h3⟩)
/-- (*t, e) -/
theorem xe_tupS {ds : List PyData} {d : PyData} {kk : Nat} {sp : Pos} (h : XE M Γ Rs X a (PD X.K (.tuple ds))) (h2 : XE M Γ Rs X b (PD X.K d)) (hz : ds.length ≤ 1000) (hs : starEach (.Starred a sp :: [b]) X.env = (true, eval a X.env) :: starEach [b] X.env := by rfl) (hs2 : starEach [b] X.env = (false, eval b X.env) :: starEach [] X.env := by rfl) :
    XE M Γ Rs X (.Tuple [.Starred a sp, b] kk pos) (PD X.K (.tuple (ds ++ [d]))) :=
  YE.wp (pe_tup (StX.pa_star pe_wp (pa_cons pe_wp pa_nil hs2) hs)) fun σ H0 H l e k Q q => h σ H0 H l e k _ fun v H1 G1 s1 k1 ⟨t, xs, e1, g1, g2⟩ => by
    refine ⟨t, xs, e1, .inl (ex_t s1.le g1), h2 σ H1 G1 (l.ex s1.ex) s1.le k1 _ fun y H2 G2 s2 k2 hy => ?_⟩
    refine ⟨by rw [List.length_append, g2.len]; exact Nat.le_trans (show ds.length + 1 ≤ 1001 by omega) (by decide), fun p hp => ?_⟩
    have s := s1.trans s2
    exact q _ (upd H2 p (.tup (xs ++ [y]))) _ (s.trans (Step.new s.le hp)) (k2.step0 (Step.new s.le hp)) ⟨p, _, rfl, SqT.of upd_same, DdAll.ex (Ex.new (fresh_back s.le hp)) _ _ (DdAll.app (DdAll.ex s2.ex _ _ g2) (DdAll.one hy))⟩
/-- d in [..], by values -/
theorem xe_inD {d : PyData} {ds : List PyData} {n : Nat} (hr : Room n X.A) (ha : XE M Γ Rs X a (PD X.K d)) (hb : XE M Γ Rs X b (PD X.K (.list ds))) (h1 : SeqAt.shaped d = true) (h2 : SeqAt.shaped (.list ds) = true) (hu : X.A.units + 65 < cLine) (hm : behindInMarks .In b = false := by rfl) :
    XE M Γ Rs X (.Compare a [.In] [b] pos) (PD X.K (.bool (ds.any fun z => PyData.eqv z d))) :=
  xe_cmp (op_inD hu) ha hb (fun x y H0 H hx hy e _ => Yld.val (z := .bl (ds.any fun z => PyData.eqv z d)) e rfl fun Q k => ⟨d, ds, Dd.dp d x (Dd.ex e _ _ hx), Dd.dp (.list ds) y (Dd.ex e _ _ hy), h1, h2, k⟩) hm
end
end Lh
namespace Lh
open PySem L2
open Evl (Ex ex_l ex_t ex_rd fresh_back)
/-! ### max of a tuple of ints -/
section
variable {X : Cx}
def rMaxT (K : PySem.W.Frag) : List V → Hp → VK → Prop := fun vs H Q => ∃ (a : Addr) (ns : List Int), vs = [V.ref a] ∧ SqT K H a (ns.map V.int) ∧ 0 < ns.length ∧ ∀ m, m ∈ ns → (∀ y ∈ ns, y ≤ m) → Q (.int m) H
theorem cr_maxT (hc : X.calm = true) : CallR X (.builtin "max") (rMaxT X.K) := by
  rintro pins s σ H vs us Q I r ⟨a, ns, rfl, hs, hpos, q⟩
  obtain ⟨its, rv, hT, _⟩ := I.tuple hs
  have len : its.length = ns.length := by rw [← rv.length, List.length_map]
  have size : its.toArray.size = ns.length := by rw [List.size_toArray, len]
  rw [Vals.ref1 r]
  have hval : ∀ (i : Nat) (v : Value), its.toArray[i]? = some v → ∃ t, v = Value.int (ns.getD i 0) t := fun i v hv => by
    have hi : i < ns.length := by
      have := (Array.getElem?_eq_some_iff.mp hv).1
      omega
    have hxi : (ns.map V.int)[i]? = some (V.int (ns.getD i 0)) := by
      rw [List.getElem?_map, List.getD_eq_getElem?_getD, List.getElem?_eq_getElem hi]
      rfl
    obtain ⟨u, hu, ru⟩ := rv.get hxi
    have e : u = v := by
      have h2 : its[i]? = some v := by simpa using hv
      rw [h2] at hu
      exact (Option.some.inj hu).symm
    rw [← e]
    exact ru
  obtain ⟨o, ho, _⟩ := id hT
  have live := Heap.lt_size ho
  refine call_max_walk (wpAny_pyIter_tuple hT ?_)
  refine ⟨_, _, _, _, _, _, _, rfl, Walks.tuple (A := X.A.in1) (I.ok.hd hc) s.heap.objs.size a (Nat.ne_of_lt live) its.toArray, ⟨⟨_, Heap.get?_push_size _ rfl, rfl, rfl⟩, Heap.IsTuple.at hT fun u e => Heap.get?_push_of_some _ e⟩, fun c hb => ?_, by omega, CmpOf.ints_gt (fun i => ns.getD i 0) hval, fun v h' tk hP hk => ?_⟩
  · show c < (s.heap.push _).objs.size
    rw [Heap.size_push]
    obtain e | hb := List.mem_cons.mp hb
    · rw [e]
      exact Nat.lt_succ_self _
    · have e := List.mem_singleton.mp hb
      rw [e]
      exact Nat.lt_succ_of_lt live
  · obtain ⟨tn, rfl⟩ := hval _ v hP
    obtain ⟨b1, b2⟩ := argBest_gt (fun i => ns.getD i 0) (its.toArray.size - 1)
    refine ⟨.int _, H, I.kept (t' := tk) fun c u e => hk c u (fun hm => ?_) (Heap.get?_push_of_some _ e), ⟨tn, rfl⟩, q _ ?_ fun y hy => ?_⟩
    · have e1 : c = s.heap.objs.size := List.mem_singleton.mp hm
      have e2 := Heap.lt_size e
      rw [e1] at e2
      exact Nat.lt_irrefl _ e2
    · have hb : argBest (fun i j => decide (ns.getD i 0 > ns.getD j 0)) (its.toArray.size - 1) < ns.length := by omega
      rw [List.getD_eq_getElem?_getD]
      rw [List.getElem?_eq_getElem hb]
      exact List.getElem_mem hb
    · obtain ⟨i, hi, e⟩ := List.getElem_of_mem hy
      have e2 : ns.getD i 0 = y := by rw [List.getD_eq_getElem?_getD, List.getElem?_eq_getElem hi, ← e]; rfl
      rw [← e2]
      exact b2 i (by omega)
end
/-! ### lists of tuples of ints side by side -/
theorem eqvAll_tups : ∀ a b : List (List Int), PyData.eqvAll (a.map fun g => .tuple (li g)) (b.map fun g => .tuple (li g)) = decide (a = b)
  | [], [] => rfl
  | [], _ :: _ => rfl
  | _ :: _, [] => rfl
  | x :: xs, y :: ys => by
    show (PyData.eqv (.tuple (li x)) (.tuple (li y)) && PyData.eqvAll (xs.map fun g => .tuple (li g)) (ys.map fun g => .tuple (li g))) = _
    rw [eqvAll_tups xs ys, eqv_tli]
    by_cases h : x = y
    · subst h
      simp
    · simp [h]
theorem canLay_tups : ∀ a : List (List Int), PyData.canLayAll0 (a.map fun g => .tuple (li g)) = true ∧ PyData.depthAll (a.map fun g => .tuple (li g)) ≤ 10
  | [] => by simp [PyData.canLayAll0, PyData.depthAll]
  | x :: xs => by
    obtain ⟨h1, h2⟩ := canLay_tups xs
    have hx := shaped_li x
    have hx1 : PyData.canLay0 (.tuple (li x)) = true := SeqAt.canLay_of_shaped (d := .tuple (li x)) hx
    have hx2 : PyData.depth (.tuple (li x)) ≤ 10 := by
      have := PySem.W.depthAll_ints x
      simp only [PyData.depth]
      show _ ≤ 10
      have e : PyData.depthAll (li x) ≤ 1 := this
      omega
    refine ⟨?_, ?_⟩
    · simp only [List.map_cons, PyData.canLayAll0, hx1, h1]
      rfl
    · simp only [List.map_cons, PyData.depthAll]
      omega
theorem shaped_tups (a : List (List Int)) : SeqAt.shaped (.list (a.map fun g => .tuple (li g))) = true := by
  obtain ⟨h1, h2⟩ := canLay_tups a
  have h3 : PyData.depth (.list (a.map fun g => PyData.tuple (li g))) ≤ 64 := by simp only [PyData.depth]; omega
  show (PyData.canLay0 (.list (a.map fun g => PyData.tuple (li g))) && decide (PyData.depth (.list (a.map fun g => PyData.tuple (li g))) ≤ 64)) = true
  rw [Bool.and_eq_true]
  exact ⟨by simp only [PyData.canLay0]; exact h1, decide_eq_true h3⟩
section
variable {M : Addr → Prop} {Γ Γ' : Ct} {Rs : List Res} {X : Cx} {Z0 Z Hl : Hp} {D : Ends} {K : PySem.W.Frag} {rest : List Stmt} {a b c e : Expr} {es : List Expr} {pos p : Pos} {i j k : Int}
theorem xe_maxT {ns : List Int} {m : Int} (hm : X.mg "max" = none) (h : XE M Γ Rs X a (PD X.K (.tuple (li ns)))) (h1 : m ∈ ns) (h2 : ∀ y ∈ ns, y ≤ m) (hc : X.calm = true := by rfl) (hg : Gl X "max" := by rfl) (he : starEach [a] X.env = (false, eval a X.env) :: starEach [] X.env := by rfl) : XE M Γ Rs X (.Call (.Name "max" p) [a] [] pos) (PD X.K (.int m)) :=
  xe_callB (cr_maxT hc) hm (by decide +kernel) (xa_1 h he) (fun xs H0 H hx e _ => by
    obtain ⟨x, e1, t, ys, e2, g1, g2⟩ := da1 hx
    have e3 := g2.ints
    subst e1 e2 e3
    exact Yld.val (z := .int m) e rfl fun Q k => ⟨t, ns, rfl, ex_t e g1, List.length_pos_of_mem h1, fun m' q1 q2 => by
      have e4 : m' = m := by
        have := q2 m h1
        have := h2 m' q1
        omega
      rw [e4]
      exact k⟩) hg (by decide) (by decide) he rfl
theorem xt_neTups {ns ms : List (List Int)} {n : Nat} (hr : Room n X.A) (ha : XE M Γ Rs X a (PD X.K (.list (ns.map fun g => .tuple (li g))))) (hb : XE M Γ Rs X b (PD X.K (.list (ms.map fun g => .tuple (li g))))) : XT M Γ Rs X (.Compare a [.NotEq] [b] pos) (Is (!decide (ns = ms))) :=
  YT.eq (xt_neD hr ha hb (shaped_tups ns) (shaped_tups ms)) (by
    show (!PyData.eqvAll (ns.map fun g => PyData.tuple (li g)) (ms.map fun g => PyData.tuple (li g))) = _
    rw [eqvAll_tups])
theorem any_tup (x : List Int) : ∀ l : List (List Int), ((l.map fun g => PyData.tuple (li g)).any fun z => PyData.eqv z (.tuple (li x))) = decide (x ∈ l)
  | [] => rfl
  | y :: l => by
    rw [List.map_cons, List.any_cons, any_tup x l, eqv_tli]
    by_cases h : y = x
    · subst h
      simp
    · have h' : ¬ x = y := fun e => h e.symm
      simp [h, h']
theorem xe_inTups {x : List Int} {ns : List (List Int)} {n : Nat} (hr : Room n X.A) (ha : XE M Γ Rs X a (PD X.K (.tuple (li x)))) (hb : XE M Γ Rs X b (PD X.K (.list (ns.map fun g => .tuple (li g))))) (hm : behindInMarks .In b = false := by rfl) : XE M Γ Rs X (.Compare a [.In] [b] pos) (PD X.K (.bool (decide (x ∈ ns)))) :=
  YE.dat (xe_inD hr ha hb (shaped_li x) (shaped_tups ns) (by have := hr.un; omega) hm) (by rw [any_tup])
/-- i < drawn -/
theorem xt_ltE {A : Int → Prop} (ha : XE M Γ Rs X a (PD K (.int i))) (hb : XE M Γ Rs X b (PEx A fun n => PD K (.int n))) : XT M Γ Rs X (.Compare a [.Lt] [b] pos) (fun u => ∃ n, A n ∧ u = decide (i < n)) :=
  xt_cmp (K := K) op_lt ha hb (fun x y H0 H hx ⟨n, hn, hy⟩ e _ => fun Q q => (yl_I0 (g := fun i j => .bl (decide (i < j))) (d := .bool (decide (i < n))) (fun _ => rfl) hx hy e) Q fun v H0' H' s p => q v H0' H' s ⟨_, ⟨n, hn, rfl⟩, p⟩) (nomark _)
/-! ### lists whose things are each one of many -/
theorem DAll.pick {α : Type} {A : α → Prop} {P : α → Pd} {H : Hp} : ∀ {n : Nat} {xs : List V}, DAll (List.replicate n (PEx A P)) xs H → ∃ qs : List α, qs.length = n ∧ (∀ q ∈ qs, A q) ∧ DAll (qs.map P) xs H
  | 0, xs, h => ⟨[], rfl, fun q hq => absurd hq (by simp), h⟩
  | n + 1, xs, h => by
    rw [List.replicate_succ] at h
    obtain ⟨x, r, e, ⟨q, hq, hx⟩, h2⟩ := h.inv
    obtain ⟨qs, h3, h4, h5⟩ := DAll.pick h2
    subst e
    refine ⟨q :: qs, by rw [List.length_cons, h3], fun z hz => ?_, DAll.cons hx h5⟩
    rcases List.mem_cons.mp hz with e | h
    · rw [e]
      exact hq
    · exact h4 z h
theorem xs_slotPL (i : Nat) {α : Type} {A : α → Prop} {P : α → Pd} {n : Nat} (hi : Γ[i]? = some (some (PLs (List.replicate n (PEx A P))))) (h : ∀ qs : List α, qs.length = n → (∀ q ∈ qs, A q) → XS M (Γ.set i (some (PLs (qs.map P)))) Rs X Z0 Z Hl D rest) : XS M Γ Rs X Z0 Z Hl D rest := fun σ H0 H l s b k => by
  obtain ⟨v, h1, a, xs, e, h2, h3⟩ := l.2 i _ hi
  obtain ⟨qs, g1, g2, g3⟩ := h3.pick
  have e3 : σ.set i (some v) = σ := by
    have hlt := (List.getElem?_eq_some_iff.mp h1).1
    have := (List.getElem?_eq_some_iff.mp h1).2
    rw [← this]
    exact List.set_getElem_self hlt
  have l2 : Sl (Γ.set i (some (PLs (qs.map P)))) (σ.set i (some v)) H0 := l.set ⟨a, xs, e, h2, g3⟩
  rw [e3] at l2
  exact h qs g1 g2 σ H0 H l2 s b k
/-- x, y = a, [c], the second a list that will grow -/
theorem xs_parM (i j : Nat) {x y : Str} {P Q : Pd} {px py pt pl : Pos} {kt k2 pt2} (ha : XE M Γ Rs X a P) (hq : XE M Γ Rs X c Q) (h : ∀ q, XS M ((Γ.set i (some P)).set j (some (PV (.ref q)))) (Res.lst Z q [Q] :: Rs) X Z0 Z Hl D rest) (hN : X.N.Nodup) (hc : X.calm = true := by rfl) (hi : X.N[i]? = some x := by rfl) (hj : X.N[j]? = some y := by rfl) (hij : i ≠ j := by decide)
    (hx : X.env.scope.names.lookup x = some .local := by rfl) (hy : X.env.scope.names.lookup y = some .local := by rfl) (hw : swappedStores [.Tuple [.Name x px, .Name y py] kt pt] (.Tuple [a, .List [c] pl] k2 pt2) X.env = pure (some [x, y]) := by rfl)
    (hs : swapsWithSole [.Tuple [.Name x px, .Name y py] kt pt] (.Tuple [a, .List [c] pl] k2 pt2) pos.line X.env = pure false := by rfl) (he : starEach [a, .List [c] pl] X.env = (false, eval a X.env) :: starEach [.List [c] pl] X.env := by rfl) (he2 : starEach [.List [c] pl] X.env = (false, eval (.List [c] pl) X.env) :: starEach [] X.env := by rfl)
    (he3 : starEach [c] X.env = (false, eval c X.env) :: starEach [] X.env := by rfl) : XS M Γ Rs X Z0 Z Hl D (.Assign [.Tuple [.Name x px, .Name y py] kt pt] (.Tuple [a, .List [c] pl] k2 pt2) pos :: rest) :=
  xs_cons (ps_par hc hN hi hj hij hx hy (pa_cons pe_wp (pa_cons (pe_lst (pa_cons pe_wp pa_nil he3)) pa_nil he2) he) hw hs) fun σ H0 H l s b r => ha σ H0 H l s.le r _ fun v H1 G1 s1 k1 a1 => hq σ H1 G1 (l.ex s1.ex) s1.le k1 _ fun u H2 G2 s2 k2 a2 => ⟨show 1 ≤ sizeLine by decide, fun p hp => by
    have t := (s.trans s1).trans s2
    have ne : ∀ r ∈ Rs, ∀ a ∈ r.ad, a ≠ p := fun r hr a ha e => by
      obtain ⟨⟨o, h1⟩, _⟩ := r.tr (k2.2 r hr) a ha
      rw [e, hp] at h1
      cases h1
    have hZ : Z p = none := by
      cases e : Z p with
      | none => rfl
      | some o =>
        obtain ⟨o', h'⟩ := t.th p o e
        rw [hp] at h'
        cases h'
    refine ⟨v, .ref p, rfl, h p _ H2 _ (((l.ex (s1.ex.trans s2.ex)).set (P.m s2.ex a1)).set (P := PV (.ref p)) rfl) ⟨fun a o hm ha => ?_, fun a o ha => ?_, t.ex, fun a o ha => ?_, t.nw⟩ (b.trans (s1.ex.trans s2.ex)) ⟨?_, fun r hr => ?_⟩⟩
    · rw [upd_ne (ne_of_none ha hZ)]
      exact t.un a o hm ha
    · obtain ⟨o', h'⟩ := t.th a o ha
      exact ⟨o', by rw [upd_ne (ne_of_none h' hp)]; exact h'⟩
    · rw [upd_ne (ne_of_none (t.le a o ha) hp)]
      exact t.le a o ha
    · rw [List.flatMap_cons, List.nodup_append]
      refine ⟨by simp [Res.lst], k2.1, fun a ha c hc e => ?_⟩
      have e1 : a = p := by simpa [Res.lst] using ha
      obtain ⟨r, hr, hc⟩ := List.mem_flatMap.mp hc
      exact ne r hr c hc (e ▸ e1)
    · obtain e | hr := List.mem_cons.mp hr
      · subst e
        exact ⟨hZ, fresh_back t.le hp, [u], upd_same, DAll.cons a2 DAll.nil⟩
      · exact (k2.wr ne).2 r hr⟩
end
end Lh
namespace Lh
open PySem L2
open Evl (Ex ex_l ex_t ex_rd fresh_back)
section
variable {M : Addr → Prop} {Γ Γ' : Ct} {Rs : List Res} {X : Cx} {Z0 Z Hl : Hp} {D : Ends} {K : PySem.W.Frag} {rest : List Stmt} {a b c e : Expr} {es : List Expr} {pos p : Pos} {i j k : Int}
/-- x, y = a, [c], where x or y is also read further in: the pair is made, then taken apart -/
theorem xs_parC (i j : Nat) {x y : Str} {P Q : Pd} {px py pt pl : Pos} {kt k2 pt2} (ha : XE M Γ Rs X a P) (hq : XE M Γ Rs X c Q) (h : ∀ q, XS M ((Γ.set i (some P)).set j (some (PV (.ref q)))) (Res.lst Z q [Q] :: Rs) X Z0 Z Hl D rest) (hN : X.N.Nodup) (hc : X.calm = true := by rfl) (hx : X.N[i]? = some x := by rfl) (hy : X.N[j]? = some y := by rfl)
    (hl : Loc X.env.scope x := by first | exact Or.inl rfl | exact Or.inr rfl) (hl2 : Loc X.env.scope y := by first | exact Or.inl rfl | exact Or.inr rfl)
    (hf : X.fn x = true ∨ X.env.scope.names.lookup x = some .local := by first | exact .inl rfl | exact .inr rfl) (hf2 : X.fn y = true ∨ X.env.scope.names.lookup y = some .local := by first | exact .inl rfl | exact .inr rfl)
    (hs : swapsWithSole [.Tuple [.Name x px, .Name y py] kt pt] (.Tuple [a, .List [c] pl] k2 pt2) pos.line X.env = pure false := by rfl) (hw : swappedStores [.Tuple [.Name x px, .Name y py] kt pt] (.Tuple [a, .List [c] pl] k2 pt2) X.env = pure none := by rfl)
    (h1 : (assignEach [.Tuple [.Name x px, .Name y py] kt pt] X.env).map (·.2) = [assign (.Tuple [.Name x px, .Name y py] kt pt) X.env] := by rfl)
    (he : starEach [a, .List [c] pl] X.env = (false, eval a X.env) :: starEach [.List [c] pl] X.env := by rfl) (he2 : starEach [.List [c] pl] X.env = (false, eval (.List [c] pl) X.env) :: starEach [] X.env := by rfl)
    (he3 : starEach [c] X.env = (false, eval c X.env) :: starEach [] X.env := by rfl) : XS M Γ Rs X Z0 Z Hl D (.Assign [.Tuple [.Name x px, .Name y py] kt pt] (.Tuple [a, .List [c] pl] k2 pt2) pos :: rest) :=
  xs_cons (ps_asg (pe_tup (pa_cons pe_wp (pa_cons (pe_lst (pa_cons pe_wp pa_nil he3)) pa_nil he2) he)) (pg_tup hc (pgs_cons (pg_name hN hx hl hf) (pgs_cons (pg_name hN hy hl2 hf2) pgs_nil))) hs hw h1) fun σ H0 H l s b r => ha σ H0 H l s.le r _ fun v H1 G1 s1 k1 a1 => hq σ H1 G1 (l.ex s1.ex) s1.le k1 _ fun u H2 G2 s2 k2 a2 => ⟨show 1 ≤ sizeLine by decide, fun p hp => ⟨show 2 ≤ sizeLine by decide, fun t ht => by
    have t2 := (s.trans s1).trans s2
    have ne : ∀ r ∈ Rs, ∀ a ∈ r.ad, a ≠ p := fun r hr a ha e => by
      obtain ⟨⟨o, h1⟩, _⟩ := r.tr (k2.2 r hr) a ha
      rw [e, hp] at h1
      cases h1
    have hZ : Z p = none := by
      cases e : Z p with
      | none => rfl
      | some o =>
        obtain ⟨o', h'⟩ := t2.th p o e
        rw [hp] at h'
        cases h'
    have t3 : Step M Z0 Z H2 (upd G2 p (.lst [u])) := ⟨fun a o hm ha => by
        rw [upd_ne (ne_of_none ha hZ)]
        exact t2.un a o hm ha, fun a o ha => by
        obtain ⟨o', h'⟩ := t2.th a o ha
        exact ⟨o', by rw [upd_ne (ne_of_none h' hp)]; exact h'⟩, t2.ex, fun a o ha => by
        rw [upd_ne (ne_of_none (t2.le a o ha) hp)]
        exact t2.le a o ha, t2.nw⟩
    have k3 : Rok (Res.lst Z p [Q] :: Rs) H2 (upd G2 p (.lst [u])) := ⟨by
        rw [List.flatMap_cons, List.nodup_append]
        refine ⟨by simp [Res.lst], k2.1, fun a ha c hc e => ?_⟩
        have e1 : a = p := by simpa [Res.lst] using ha
        obtain ⟨r, hr, hc⟩ := List.mem_flatMap.mp hc
        exact ne r hr c hc (e ▸ e1), fun r hr => by
        obtain e | hr := List.mem_cons.mp hr
        · subst e
          exact ⟨hZ, fresh_back t2.le hp, [u], upd_same, DAll.cons a2 DAll.nil⟩
        · exact (k2.wr ne).2 r hr⟩
    have s4 := Step.new (M := M) (o := .tup [v, .ref p]) t3.le ht
    have s4' := Step.new (M := M0) (o := .tup [v, .ref p]) t3.le ht
    exact gv_pair (P := P) (Q := PV (.ref p)) (.ref t) σ _ _ (l.ex ((s1.ex.trans s2.ex).trans s4.ex)) s4.le ⟨t, v, .ref p, rfl, SqT.of upd_same, P.m (s2.ex.trans s4.ex) a1, rfl⟩ _ fun σ' l' => h p σ' _ _ l' (t3.trans s4) (b.trans ((s1.ex.trans s2.ex).trans s4.ex)) (k3.step0 s4')⟩⟩
end
end Lh
namespace Lh
open PySem L2
open Evl (Ex ex_l ex_t ex_rd fresh_back)
/-! ### the other box of drawings: its state, its cells, how many were drawn -/
def Res.mixC (b l : Addr) (u : Int) (ns : List Int) (n : Int) : Res where
  ad := [b, l]
  p := fun H0 H => H0 b = none ∧ H0 l = none ∧ H b = some (.lst [.int u, .ref l, .int n]) ∧ H l = some (.lst (ns.map V.int))
  st := fun {H0 H H0' H'} e f q ⟨_, _, h2, h3⟩ => ⟨f b (by simp), f l (by simp), by rw [q b (by simp)]; exact h2, by rw [q l (by simp)]; exact h3⟩
  tr := fun {H0 H} ⟨h0, h1, h2, h3⟩ a ha => by
    obtain e | ha := List.mem_cons.mp ha
    · subst e
      exact ⟨⟨_, h2⟩, h0⟩
    · have e : a = l := by simpa using ha
      subst e
      exact ⟨⟨_, h3⟩, h1⟩
def Res.mix (b l : Addr) : Res where
  ad := [b, l]
  p := fun H0 H => ∃ u ns n, ns.length ≤ 63 ∧ (Res.mixC b l u ns n).p H0 H
  st := fun {H0 H H0' H'} e f q ⟨u, ns, n, hl, h⟩ => ⟨u, ns, n, hl, (Res.mixC b l u ns n).st e f q h⟩
  tr := fun {H0 H} ⟨u, ns, n, hl, h⟩ a ha => (Res.mixC b l u ns n).tr h a ha
/-- a new one, all else as it was -/
def NewMix (v : V) (H H' : Hp) : Prop := ∃ (b l : Addr) (u : Int) (ns : List Int) (n : Int), v = .ref b ∧ b ≠ l ∧ ns.length ≤ 63 ∧ H b = none ∧ H l = none ∧ Ex H H' ∧ H' b = some (.lst [.int u, .ref l, .int n]) ∧ H' l = some (.lst (ns.map V.int))
section
variable {M M' : Addr → Prop} {Γ Γ' : Ct} {Rs : List Res} {X : Cx} {Z0 Z Hl : Hp} {D : Ends} {K : PySem.W.Frag} {rest : List Stmt} {a o c e f i : Expr} {es : List Expr} {pos p : Pos} {k : Int} {b l : Addr} {ns ns' : List Int} {u u' n n' : Int}
theorem cov_mix : Cov (MB b l) (Res.mix b l :: Rs) := fun H0 H k a ha => by
  obtain ⟨u, ns, n, _, _, _, h2, h3⟩ := k.2 _ List.mem_cons_self
  rcases ha with e | e
  · subst e
    exact ⟨_, h2⟩
  · subst e
    exact ⟨_, h3⟩
theorem mix_ne {H0 H : Hp} (k : Rok (Res.mixC b l u ns n :: Rs) H0 H) : b ≠ l := fun e => by
  have nd := k.1
  rw [List.flatMap_cons, List.nodup_append] at nd
  have := nd.1
  simp [Res.mixC, e] at this
theorem mix_wr {H0 H H' : Hp} (k : Rok (Res.mixC b l u ns n :: Rs) H0 H) (s : Step M Z0 Z H0 H) (hb : H' b = some (.lst [.int u', .ref l, .int n'])) (hl : H' l = some (.lst (ns'.map V.int))) (ho : ∀ a, a ≠ b → a ≠ l → H' a = H a) (mb : M b ∨ Z b = none) (ml : M l ∨ Z l = none) :
    Rok (Res.mixC b l u' ns' n' :: Rs) H0 H' ∧ Step M Z0 Z H0 H' := by
  obtain ⟨h0, h1, h2, h3⟩ := k.2 _ List.mem_cons_self
  have nd := k.1
  rw [List.flatMap_cons, List.nodup_append] at nd
  have ne : ∀ r ∈ Rs, ∀ a ∈ r.ad, ∀ c ∈ [b, l], a ≠ c := fun r hr a ha c hc e => nd.2.2 c hc a (List.mem_flatMap.mpr ⟨r, hr, ha⟩) e.symm
  refine ⟨⟨k.1, fun r hr => ?_⟩, ⟨fun a w hm ha => ?_, fun a w ha => ?_, s.ex, fun a w ha => ?_, s.nw⟩⟩
  · obtain e | hr := List.mem_cons.mp hr
    · subst e
      exact ⟨h0, h1, hb, hl⟩
    · have hr' := k.2 r (List.mem_cons_of_mem _ hr)
      exact r.st (Ex.refl _) (fun a ha => (r.tr hr' a ha).2) (fun a ha => ho a (ne r hr a ha b (by simp)) (ne r hr a ha l (by simp))) hr'
  · by_cases e : a = b
    · subst e
      rcases mb with m | m
      · exact absurd m hm
      · rw [m] at ha
        cases ha
    · by_cases e2 : a = l
      · subst e2
        rcases ml with m | m
        · exact absurd m hm
        · rw [m] at ha
          cases ha
      · rw [ho a e e2]
        exact s.un a w hm ha
  · by_cases e : a = b
    · subst e
      exact ⟨_, hb⟩
    · by_cases e2 : a = l
      · subst e2
        exact ⟨_, hl⟩
      · rw [ho a e e2]
        exact s.th a w ha
  · have n1 : a ≠ b := fun e => by
      subst e
      rw [h0] at ha
      cases ha
    have n2 : a ≠ l := fun e => by
      subst e
      rw [h1] at ha
      cases ha
    rw [ho a n1 n2]
    exact s.le a w ha
/-! reading -/
theorem xe_mx0 (ho : XE M Γ (Res.mixC b l u ns n :: Rs) X o (PV (.ref b))) {kc : Nat} {pc : Pos} : XE M Γ (Res.mixC b l u ns n :: Rs) X (.Subscript o (.Constant (.int 0) kc pc) pos) (PD K (.int u)) :=
  YE.wp (pe_ix ix_list pe_wp pe_wp (fun _ _ => rfl)) (ye_op ho (xe_int (K := X.K)) fun x y H0 H hx hy e r => by
    obtain ⟨_, _, h2, h3⟩ := r.2 _ List.mem_cons_self
    exact Yld.val (z := .int u) e rfl fun Q k => ⟨b, _, 0, _, hx, hy, SqL.of h2, rfl, k⟩)
theorem xe_mx1 (ho : XE M Γ (Res.mixC b l u ns n :: Rs) X o (PV (.ref b))) {kc : Nat} {pc : Pos} : XE M Γ (Res.mixC b l u ns n :: Rs) X (.Subscript o (.Constant (.int 1) kc pc) pos) (PV (.ref l)) :=
  YE.wp (pe_ix ix_list pe_wp pe_wp (fun _ _ => rfl)) (ye_op ho (xe_int (K := X.K)) fun x y H0 H hx hy e r => by
    obtain ⟨_, _, h2, h3⟩ := r.2 _ List.mem_cons_self
    exact Yld.val (z := .ref l) e rfl fun Q k => ⟨b, _, 1, _, hx, hy, SqL.of h2, rfl, k⟩)
theorem xe_mx2 (ho : XE M Γ (Res.mixC b l u ns n :: Rs) X o (PV (.ref b))) {kc : Nat} {pc : Pos} : XE M Γ (Res.mixC b l u ns n :: Rs) X (.Subscript o (.Constant (.int 2) kc pc) pos) (PD K (.int n)) :=
  YE.wp (pe_ix ix_list pe_wp pe_wp (fun _ _ => rfl)) (ye_op ho (xe_int (K := X.K)) fun x y H0 H hx hy e r => by
    obtain ⟨_, _, h2, h3⟩ := r.2 _ List.mem_cons_self
    exact Yld.val (z := .int n) e rfl fun Q k => ⟨b, _, 2, _, hx, hy, SqL.of h2, rfl, k⟩)
theorem xe_mxLen (hm : X.mg "len" = none) (ha : XE M Γ (Res.mixC b l u ns n :: Rs) X a (PV (.ref l))) (hg : Gl X "len" := by rfl) (he : starEach [a] X.env = (false, eval a X.env) :: starEach [] X.env := by rfl) : XE M Γ (Res.mixC b l u ns n :: Rs) X (.Call (.Name "len" p) [a] [] pos) (PD X.K (.int (ns.length : Int))) :=
  xe_callB call_len_seq hm PySem.boot_len (xa_1 ha he) (fun xs H0 H hx e r => by
    obtain ⟨x, e1, h1⟩ := da1 hx
    obtain ⟨_, _, h2, h3⟩ := r.2 _ List.mem_cons_self
    have h1' : x = .ref l := h1
    subst e1 h1'
    exact Yld.val (z := .int ((ns.map V.int).length : Int)) e (by rw [List.length_map]; rfl) fun Q k => ⟨l, _, rfl, .inl (SqL.of h3), k⟩) hg (by decide) (by decide) he rfl
/-- the cells and one more -/
theorem xe_mxCat {ms : List Int} (hz : ns.length + ms.length ≤ 1000000) (ha : XE M Γ (Res.mixC b l u ns n :: Rs) X a (PV (.ref l))) (hb : XE M Γ (Res.mixC b l u ns n :: Rs) X c (PD X.K (.list (li ms)))) : XE M Γ (Res.mixC b l u ns n :: Rs) X (.BinOp a .Add c pos) (PD X.K (.list (li (ns ++ ms)))) :=
  xe_bin op_cat ha hb fun x y H0 H hx hy e r => by
    obtain ⟨_, _, h2, h3⟩ := r.2 _ List.mem_cons_self
    obtain ⟨q, ys, ey, h4, h5⟩ := hy
    have hx' : x = .ref l := hx
    have el : li (ns ++ ms) = li ns ++ li ms := by simp [li]
    rw [el]
    exact Yld.newL e (DdAll.app (DdAll.of_ints ns) h5) fun Q k => ⟨l, q, _, ys, hx', ey, h3, e _ _ h4, by rw [List.length_map, h5.len]; exact sl_big (by simpa [li] using hz), k⟩
/-! writing -/
theorem xs_mx0 {kc : Nat} {pc p2 : Pos} (he : XE M Γ (Res.mixC b l u ns n :: Rs) X e (PD X.K (.int u'))) (ho : XE M Γ (Res.mixC b l u ns n :: Rs) X o (PV (.ref b))) (mb : M b ∨ Z b = none) (ml : M l ∨ Z l = none) (h : XS M Γ (Res.mixC b l u' ns n :: Rs) X Z0 Z Hl D rest)
    (hs : swapsWithSole [.Subscript o (.Constant (.int 0) kc pc) p2] e pos.line X.env = pure false := by rfl) (hw : swappedStores [.Subscript o (.Constant (.int 0) kc pc) p2] e X.env = pure none := by rfl)
    (h1 : (assignEach [.Subscript o (.Constant (.int 0) kc pc) p2] X.env).map (·.2) = [assign (.Subscript o (.Constant (.int 0) kc pc) p2) X.env] := by rfl) : XS M Γ (Res.mixC b l u ns n :: Rs) X Z0 Z Hl D (.Assign [.Subscript o (.Constant (.int 0) kc pc) p2] e pos :: rest) :=
  xs_cons (ps_asg pe_wp (pg_sub pe_wp pe_wp set_list) hs hw h1) fun σ H0 H l' s b' r => he σ H0 H l' s.le r _ fun v H1 G1 s1 k1 hv => ho σ H1 G1 (l'.ex s1.ex) s1.le k1 _ fun v2 H2 G2 s2 k2 hv2 => (xe_int (K := X.K)) σ H2 G2 (l'.ex (s1.ex.trans s2.ex)) s2.le k2 _ fun v3 H3 G3 s3 k3 hv3 => by
    have t := ((s.trans s1).trans s2).trans s3
    have hne := mix_ne k3
    obtain ⟨_, _, h2, h3⟩ := k3.2 _ List.mem_cons_self
    have hv' : v = .int u' := hv
    have hv2' : v2 = .ref b := hv2
    have hv3' : v3 = .int 0 := hv3
    subst hv' hv2' hv3'
    refine ⟨b, _, 0, 0, rfl, rfl, h2, rfl, ?_⟩
    obtain ⟨k4, s4⟩ := mix_wr (H' := upd G3 b (.lst ([V.int u, .ref l, .int n].set 0 (.int u')))) k3 t upd_same (by rw [upd_ne hne.symm]; exact h3) (fun a n1 n2 => upd_ne n1) mb ml
    exact h _ H3 _ (l'.ex ((s1.ex.trans s2.ex).trans s3.ex)) s4 (b'.trans ((s1.ex.trans s2.ex).trans s3.ex)) k4
theorem xs_mx2 {kc : Nat} {pc p2 : Pos} (he : XE M Γ (Res.mixC b l u ns n :: Rs) X e (PD X.K (.int n'))) (ho : XE M Γ (Res.mixC b l u ns n :: Rs) X o (PV (.ref b))) (mb : M b ∨ Z b = none) (ml : M l ∨ Z l = none) (h : XS M Γ (Res.mixC b l u ns n' :: Rs) X Z0 Z Hl D rest)
    (hs : swapsWithSole [.Subscript o (.Constant (.int 2) kc pc) p2] e pos.line X.env = pure false := by rfl) (hw : swappedStores [.Subscript o (.Constant (.int 2) kc pc) p2] e X.env = pure none := by rfl)
    (h1 : (assignEach [.Subscript o (.Constant (.int 2) kc pc) p2] X.env).map (·.2) = [assign (.Subscript o (.Constant (.int 2) kc pc) p2) X.env] := by rfl) : XS M Γ (Res.mixC b l u ns n :: Rs) X Z0 Z Hl D (.Assign [.Subscript o (.Constant (.int 2) kc pc) p2] e pos :: rest) :=
  xs_cons (ps_asg pe_wp (pg_sub pe_wp pe_wp set_list) hs hw h1) fun σ H0 H l' s b' r => he σ H0 H l' s.le r _ fun v H1 G1 s1 k1 hv => ho σ H1 G1 (l'.ex s1.ex) s1.le k1 _ fun v2 H2 G2 s2 k2 hv2 => (xe_int (K := X.K)) σ H2 G2 (l'.ex (s1.ex.trans s2.ex)) s2.le k2 _ fun v3 H3 G3 s3 k3 hv3 => by
    have t := ((s.trans s1).trans s2).trans s3
    have hne := mix_ne k3
    obtain ⟨_, _, h2, h3⟩ := k3.2 _ List.mem_cons_self
    have hv' : v = .int n' := hv
    have hv2' : v2 = .ref b := hv2
    have hv3' : v3 = .int 2 := hv3
    subst hv' hv2' hv3'
    refine ⟨b, _, 2, 2, rfl, rfl, h2, rfl, ?_⟩
    obtain ⟨k4, s4⟩ := mix_wr (H' := upd G3 b (.lst ([V.int u, .ref l, .int n].set 2 (.int n')))) k3 t upd_same (by rw [upd_ne hne.symm]; exact h3) (fun a n1 n2 => upd_ne n1) mb ml
    exact h _ H3 _ (l'.ex ((s1.ex.trans s2.ex).trans s3.ex)) s4 (b'.trans ((s1.ex.trans s2.ex).trans s3.ex)) k4
theorem xs_mxl {m : Int} {p2 : Pos} (he : XE M Γ (Res.mixC b l u ns n :: Rs) X e (PD X.K (.int m))) (ho : XE M Γ (Res.mixC b l u ns n :: Rs) X o (PV (.ref l))) (hi : XE M Γ (Res.mixC b l u ns n :: Rs) X i (PD X.K (.int k))) (hk : 0 ≤ k ∧ k < ns.length) (mb : M b ∨ Z b = none) (ml : M l ∨ Z l = none) (h : XS M Γ (Res.mixC b l u (ns.set k.toNat m) n :: Rs) X Z0 Z Hl D rest)
    (hs : swapsWithSole [.Subscript o i p2] e pos.line X.env = pure false := by rfl) (hw : swappedStores [.Subscript o i p2] e X.env = pure none := by rfl)
    (h1 : (assignEach [.Subscript o i p2] X.env).map (·.2) = [assign (.Subscript o i p2) X.env] := by rfl) 
    (ha : ∀ v, assign (.Subscript o i p2) X.env v = (do let ob ← holding [v] (eval o X.env); let at_ ← holding [v, ob] (eval i X.env); standAt p2; holding [v, ob, at_] (setItem ob at_ v); release [v, ob, at_] []) := by intros; rfl) : XS M Γ (Res.mixC b l u ns n :: Rs) X Z0 Z Hl D (.Assign [.Subscript o i p2] e pos :: rest) :=
  xs_cons (ps_asg pe_wp (pg_sub pe_wp pe_wp set_list ha) hs hw h1) fun σ H0 H l' s b' r => he σ H0 H l' s.le r _ fun v H1 G1 s1 k1 hv => ho σ H1 G1 (l'.ex s1.ex) s1.le k1 _ fun v2 H2 G2 s2 k2 hv2 => hi σ H2 G2 (l'.ex (s1.ex.trans s2.ex)) s2.le k2 _ fun v3 H3 G3 s3 k3 hv3 => by
    have t := ((s.trans s1).trans s2).trans s3
    have hne := mix_ne k3
    obtain ⟨_, _, h2, h3⟩ := k3.2 _ List.mem_cons_self
    have hv' : v = .int m := hv
    have hv2' : v2 = .ref l := hv2
    have hv3' : v3 = .int k := hv3
    subst hv' hv2' hv3'
    have ek : k = (k.toNat : Int) := by omega
    refine ⟨l, _, k, k.toNat, rfl, rfl, h3, ?_, ?_⟩
    · rw [ek]
      exact Evl.ixN_nat (by rw [List.length_map]; omega)
    have eset : (ns.map V.int).set k.toNat (V.int m) = (ns.set k.toNat m).map V.int := (List.map_set ..).symm
    rw [eset]
    obtain ⟨k4, s4⟩ := mix_wr (H' := upd G3 l (.lst ((ns.set k.toNat m).map V.int))) (ns' := ns.set k.toNat m) k3 t (by rw [upd_ne hne]; exact h2) upd_same (fun a n1 n2 => upd_ne n2) mb ml
    exact h _ H3 _ (l'.ex ((s1.ex.trans s2.ex).trans s3.ex)) s4 (b'.trans ((s1.ex.trans s2.ex).trans s3.ex)) k4
/-- return [e, list(script), f] -/
theorem xs_retMix {p1 p2 p3 : Pos} (hm : X.mg "list" = none) (hl : ns.length ≤ 63) (he : XE M0 Γ [] X e (PD X.K (.int u))) (ha : XE M0 Γ [] X a (PSc X.K ns)) (hf : XE M0 Γ [] X f (PD X.K (.int n))) (h : ∀ v H, NewMix v Z H → D.rt v H) (hg : Gl X "list" := by rfl) (hs : starEach [a] X.env = (false, eval a X.env) :: starEach [] X.env := by rfl)
    (hs1 : starEach [e, .Call (.Name "list" p1) [a] [] p2, f] X.env = (false, eval e X.env) :: starEach [.Call (.Name "list" p1) [a] [] p2, f] X.env := by rfl) (hs2 : starEach [.Call (.Name "list" p1) [a] [] p2, f] X.env = (false, eval (.Call (.Name "list" p1) [a] [] p2) X.env) :: starEach [f] X.env := by rfl)
    (hs3 : starEach [f] X.env = (false, eval f X.env) :: starEach [] X.env := by rfl) : XS M0 Γ [] X Z0 Z Hl D (.Return (some (.List [e, .Call (.Name "list" p1) [a] [] p2, f] p3)) pos :: rest) :=
  xs_cons (ps_ret (pe_lst (pa_cons pe_wp (pa_cons (pe_callTy call_list_of hg hm (by decide +kernel) (pa_cons pe_wp pa_nil hs) (by decide) (by decide) hs rfl) (pa_cons pe_wp pa_nil hs3) hs2) hs1))) fun σ H0 H l s b k => by
    refine he σ H0 H l s.le k _ fun v0 G0 G0' s0 k0 hv0 => ?_
    have hv0' : v0 = .int u := hv0
    subst hv0'
    have t0 := s.trans s0
    refine ha σ G0 G0' (l.ex s0.ex) s0.le k0 _ fun v H1 G1 s1 k1 hv => ?_
    obtain ⟨q, e1, h1⟩ := hv
    subst e1
    refine ⟨q, _, rfl, .inl (ex_l s1.le h1), fun c hc => ?_⟩
    have t1 := t0.trans s1
    have t2 := t1.trans (Step.new (M := M0) (o := HO.lst (ns.map V.int)) t1.le hc)
    refine hf σ _ _ (l.ex ((s0.ex.trans s1.ex).trans (Ex.new (fresh_back t1.le hc)))) t2.le (k1.step0 (Step.new t1.le hc)) _ fun v2 H2 G2 s2 k2 hv2 => ?_
    have hv2' : v2 = .int n := hv2
    subst hv2'
    refine ⟨by simp; decide, fun d hd => h _ _ ⟨d, c, u, ns, n, rfl, ?_, hl, ?_, ?_, ?_, upd_same, ?_⟩⟩
    · intro e
      subst e
      obtain ⟨u, hu⟩ := s2.th d _ upd_same
      rw [hd] at hu
      cases hu
    · cases hz : Z d with
      | none => rfl
      | some u =>
        obtain ⟨u', hu⟩ := (t2.trans s2).th d u hz
        rw [hd] at hu
        cases hu
    · cases hz : Z c with
      | none => rfl
      | some u =>
        obtain ⟨u', hu⟩ := t1.th c u hz
        rw [hc] at hu
        cases hu
    · intro x u hx
      have := (t2.trans s2).un x u (fun z => z) hx
      rw [upd_ne (ne_of_none this hd)]
      exact this
    · have := s2.un c _ (fun z => z) upd_same
      rw [upd_ne (ne_of_none this hd)]
      exact this
/-- box = mixed(script, seed) -/
theorem xs_mixed {P' : Program} {w' : World} {K' : PySem.W.Frag} {mg' : Str → Option Value} {base' : Heap} (m : Nat) {x fn : Str} {g : Addr} {fd : FuncData} {ps : List Str} {kk : Nat} {pf p2 p3 : Pos} (F : FnOk P' w' K' mg' base' CX0 kk g fd ps (SpG (α := { q : List Int × Int // q.1.length ≤ 63 }) (fun q => [PSc K' q.1.1, PD K' (.int q.1.2)]) (fun _ => NewMix))) (hr : Room kk X.A) (hm : mg' fn = some (.ref g)) (hk : PySem.W.keepIn K' (.ref g) = true)
    (hb : Binds K' fd ps []) (hl : ns.length ≤ 63) (ha : XE M0 Γ [] X a (PSc K' ns)) (hf : XE M0 Γ [] X f (PD K' (.int n))) (h : ∀ b l, b ≠ l → Z b = none → Z l = none → XS M0 (Γ.set m (some (PV (.ref b)))) [Res.mix b l] X Z0 Z Hl D rest) (hN : X.N.Nodup) (hi : X.N[m]? = some x := by rfl) (hx : Loc X.env.scope x := by first | exact Or.inl rfl | exact Or.inr rfl)
    (hg : Gl X fn := by rfl) (hdb : (fn == ("__debug__" : Str)) = false := by decide) (he : starEach [a, f] X.env = (false, eval a X.env) :: starEach [f] X.env := by rfl) (he2 : starEach [f] X.env = (false, eval f X.env) :: starEach [] X.env := by rfl) (hpl : (backTo p2 (starEach [f] X.env)).any (·.1) = false := by rfl)
    (hs : swapsWith (.Call (.Name fn pf) [a, f] [] p2) (some (.Name x p3)) pos.line X.env = pure false := by rfl) (hfn : X.fn x = true ∨ X.env.scope.names.lookup x = some .local := by first | exact .inl rfl | exact .inr rfl)
    (eP : X.prog = P' := by rfl) (ew : X.w = w' := by rfl) (eK : X.K = K' := by rfl) (em : X.mg = mg' := by rfl) (eb : X.base = base' := by rfl) : XS M0 Γ [] X Z0 Z Hl D (.Assign [.Name x p3] (.Call (.Name fn pf) [a, f] [] p2) pos :: rest) := by
  subst eP ew eK em eb
  refine xs_cons (ps_set hN hi hx (pe_call F hr hg hm hk hb (dvs := []) .nil pass0 (pa_cons pe_wp (pa_cons pe_wp pa_nil he2) he) hdb he hpl) hs hfn) fun σ H0 H l s b k => ha σ H0 H l s.le k _ fun v H1 G1 s1 k1 hv => hf σ H1 G1 (l.ex s1.ex) s1.le k1 _ fun v2 H1' G1' s1' k1' hv2 => ?_
  have t := (s.trans s1).trans s1'
  refine ⟨⟨(ns, n), hl⟩, H1', s1'.le, ?_, fun u G2 nb => ?_⟩
  · exact DAll.cons ((PSc X.K ns).m s1'.ex hv) (DAll.cons hv2 DAll.nil)
  · obtain ⟨q, c, u2, ns2, n2, e1, hne, hl2, hq, hc, ex2, g1, g2⟩ := nb
    subst e1
    have fr : ∀ a, G1' a = none → Z a = none := fun a ha => by
      cases hz : Z a with
      | none => rfl
      | some u =>
        obtain ⟨u', hu⟩ := t.th a u hz
        rw [ha] at hu
        cases hu
    refine h q c hne (fr q hq) (fr c hc) _ H1' G2 ((l.ex (s1.ex.trans s1'.ex)).set rfl) ⟨fun a u hm ha => ex2 a u (t.un a u hm ha), fun a u ha => ?_, t.ex, fun a u ha => ex2 a u (t.le a u ha), t.nw⟩ (b.trans (s1.ex.trans s1'.ex)) ⟨?_, fun r hr => ?_⟩
    · obtain ⟨u', hu⟩ := t.th a u ha
      exact ⟨u', ex2 a u' hu⟩
    · simp [Res.mix, hne]
    · have e : r = Res.mix q c := by simpa using hr
      subst e
      exact ⟨u2, ns2, n2, hl2, fresh_back t.le hq, fresh_back t.le hc, g1, g2⟩
/-- the box is opened, and closed -/
theorem xs_openMix (h : ∀ u ns n, ns.length ≤ 63 → XS M Γ (Res.mixC b l u ns n :: Rs) X Z0 Z Hl D rest) : XS M Γ (Res.mix b l :: Rs) X Z0 Z Hl D rest := fun σ H0 H l' s b' k => by
  obtain ⟨u, ns, n, hl, q⟩ := k.2 _ List.mem_cons_self
  exact h u ns n hl σ H0 H l' s b' ⟨k.1, fun r hr => by
    obtain e | hr := List.mem_cons.mp hr
    · subst e
      exact q
    · exact k.2 r (List.mem_cons_of_mem _ hr)⟩
theorem Rok.closeMix {H0 H : Hp} (hl : ns.length ≤ 63) (k : Rok (Res.mixC b l u ns n :: Rs) H0 H) : Rok (Res.mix b l :: Rs) H0 H := ⟨k.1, fun r hr => by
  obtain e | hr := List.mem_cons.mp hr
  · subst e
    exact ⟨u, ns, n, hl, k.2 _ List.mem_cons_self⟩
  · exact k.2 r (List.mem_cons_of_mem _ hr)⟩
/-- i ** j, both small -/
theorem xe_powS {x y : Int} (ha : XE M Γ Rs X a (PD K (.int x))) (hb : XE M Γ Rs X c (PD K (.int y))) (h : CPow x y) : XE M Γ Rs X (.BinOp a .Pow c pos) (PD K (.int (x ^ y.toNat))) := xe_bin op_pow ha hb fun x y H0 H hx hy e _ => yl_I h (fun _ => rfl) hx hy e
end
section
variable {K : PySem.W.Frag} {mg : Str → Option Value} {base : Heap} {P : Program} {w : World}
/-- the law, its script no longer than 63 -/
theorem fn_L63 {x qual : Str} {st : Stmt} {f : Addr} {fd : FuncData} {N ps : List Str} {k : Nat} (F : Fun K x qual st f fd) (S : FnScope N ps (defScope st)) (len : ps.length = 1)
    (hb : ∀ (ns : List Int) (hl : ns.length ≤ 63) (Z0 Z : Hp) (Q : VK) (X : Cx) (qX : ∃ (cdv : Value) (A : Around) (outer : List Env) (s : Shared) (E : XK), X = (cxOf CX0 P w K mg base N qual (defScope st) f cdv A outer s Z E).nox ∧ Room k X.A), (∀ H', Q (.bl true) H') →
      XS M0 (ctOf N [PSc K ns]) [] X Z0 Z Z0 { nx := fun _ H' => Q .non H', rt := Q } (defBody st)) : FnOk P w K mg base CX0 (k + 1) f fd ps (spLaw K) := by
  refine F.ok S (fun vs H Q E h => ?_) (fun cdv A outer s H vs Q E hr h => ?_)
  · obtain ⟨a, ns, e, _⟩ := h
    rw [e, len]
    rfl
  · obtain ⟨a, ns, e, h1, hl, _, q⟩ := h
    subst e
    exact ⟨_, pss_wp, hb ns hl H H Q _ ⟨cdv, A, outer, s, E, rfl, hr⟩ q _ H H (sl_start (DAll.cons ⟨a, rfl, h1⟩ DAll.nil)) (Step.rfl (Ex.refl _)) (Ex.refl _) Rok.nil⟩
end
end Lh
namespace K42
open PySem L2 Lh
section
variable {K : PySem.W.Frag} {mg : Str → Option Value} {base : Heap} {P : Program} {w : World}
abbrev spMix (K : PySem.W.Frag) : Sp := SpG (α := { q : List Int × Int // q.1.length ≤ 63 }) (fun q => [PSc K q.1.1, PD K (.int q.1.2)]) (fun _ => NewMix)
theorem ok_law_mix (T : Txt K mg) : FnOk P w K mg base CX0 1 T.f__law_mix T.d__law_mix ["_law_script", "_law_seed"] (spMix K) := by
  refine fn_G T.F__law_mix sc__law_mix (fun _ => rfl) fun ⟨⟨ns, sd⟩, hl⟩ Z0 Z Q X qX hQ => ?_
  obtain ⟨cdv, A, outer, s, E, rfl, hr⟩ := qX
  refine xs_asg 2 (P := PD K (.int sd)) (xe_var 1) ?_ sc__law_mix.nd
  refine xs_forN 3 (xi_sc (ns := ns) (xe_var 0)) (fun _ Γ1 Rs1 => Rs1 = [] ∧ ∃ (n : Int) (a : Option Pd), Γ1 = [some (PSc K ns), some (PD K (.int sd)), some (PD K (.int n)), a]) ⟨rfl, sd, none, rfl⟩ ?_ ?_ sc__law_mix.nd
  · rintro t Qt Γ1 Rs1 hq ⟨rfl, n, a, rfl⟩ Hs
    obtain ⟨d, hd, rfl⟩ := map_at hq
    obtain ⟨c, hc, rfl⟩ := li_at hd
    refine xs_asg 2 (xe_mod (xe_intI T.z_int (xe_add (xe_add (xe_mulB (xe_var 2) (xe_int (K := K)) (by decide)) (xe_mod (xe_intI T.z_int (xe_var 3)) xe_int (by decide))) xe_int)) xe_int (by decide)) (xs_turn (fun σ H h => h) ⟨rfl, _, _, rfl⟩) sc__law_mix.nd
  · rintro Γ1 Rs1 ⟨rfl, n, a, rfl⟩
    exact xs_retMix T.z_list hl (xe_var 2) (xe_var 0) xe_int fun v H h => hQ v H h
abbrev spMNext (K : PySem.W.Frag) : Sp := SpF (α := { p : (Addr × Addr) × Int // 1 ≤ p.2 ∧ p.2.natAbs.log2 < 9000 }) (fun p => MB p.1.1.1 p.1.1.2) (fun p => [Res.mix p.1.1.1 p.1.1.2]) (fun p => [PV (.ref p.1.1.1), PD K (.int p.1.2)]) (fun p => PIn K 0 p.1.2)
theorem ok_law_next (T : Txt K mg) : FnOk P w K mg base CX0 1 T.f__law_next T.d__law_next ["_law_h", "_law_limit"] (spMNext K) := by
  refine fn_F T.F__law_next sc__law_next (fun _ => rfl) fun ⟨⟨⟨b, l⟩, m⟩, h1, h2⟩ Z0 Z Q X qX hQ => ?_
  obtain ⟨cdv, A, outer, s, E, rfl, hr⟩ := qX
  have h1' : 1 ≤ m := h1
  have h2' : m.natAbs.log2 < 9000 := h2
  have hd : ∀ i : Int, CDivW i m := fun i => ⟨by omega, h2'⟩
  have hin : ∀ i : Int, 0 ≤ i % m ∧ i % m < m := fun i => ⟨Int.emod_nonneg _ (by omega), Int.emod_lt_of_pos _ (by omega)⟩
  refine xs_openMix fun u ns n hl => ?_
  obtain ⟨k, hk⟩ : ∃ k : Int, k = n % max 1 (ns.length : Int) := ⟨_, rfl⟩
  have k0 : 0 ≤ k := by rw [hk]; exact Int.emod_nonneg _ (by omega)
  have k1 : k < max 1 (ns.length : Int) := by rw [hk]; exact Int.emod_lt_of_pos _ (by omega)
  have hkl : k.toNat < (ns ++ [0]).length := by rw [List.length_append, List.length_singleton]; omega
  obtain ⟨cell, hc⟩ : ∃ cell : Int, (ns ++ [0])[k.toNat]? = some cell := ⟨_, List.getElem?_eq_getElem hkl⟩
  have hat : atI (li (ns ++ [0])) k = some (.int cell) := by
    have ek : k = (k.toNat : Int) := by omega
    rw [ek]
    refine atI_nat ?_
    rw [li, List.getElem?_map, hc]
    rfl
  refine xs_asg 2 (P := PD K (.int cell)) (xe_ixL (xe_mxCat (ms := [0]) (by simp; omega) (xe_mx1 (xe_var 0)) (xe_lst (ds := [.int 0]) (xa_1 (xe_int (K := K))) (by simp))) (xe_mod (xe_intI T.z_int (xe_mx2 (xe_var 0))) (xe_max2 T.z_max (xe_int (K := K)) (xe_mxLen T.z_len (xe_mx1 (xe_var 0)))) (by omega)) (by rw [← hk]; exact hat)) ?_ sc__law_next.nd
  refine xs_if (xt_ge (K := K) (xe_var 2) (xe_powS (x := 10) (y := 18) xe_int xe_int ⟨by decide, by decide, by decide⟩)) (fun hb => ?_) fun hb => xs_then ?_
  · have hge : (10 : Int) ^ (18 : Int).toNat ≤ cell := of_decide_eq_true (show decide ((10 : Int) ^ (18 : Int).toNat ≤ cell) = true from hb.symm)
    have hpos : 0 < (ns.length : Int) := by
      cases ns with
      | nil =>
        have e : k.toNat = 0 := by
          have h : k < max 1 (([] : List Int).length : Int) := k1
          simp at h
          omega
        rw [e] at hc
        have e2 : (0 : Int) = cell := Option.some.inj hc
        rw [← e2] at hge
        exact absurd hge (by decide)
      | cons x xs => simp
    refine xs_mxl (m := cell / m) (k := n % (ns.length : Int)) (xe_fdiv (xe_var 2) (xe_var 1) (hd cell)) (xe_mx1 (xe_var 0)) (xe_mod (xe_intI T.z_int (xe_mx2 (xe_var 0))) (xe_mxLen T.z_len (xe_mx1 (xe_var 0))) hpos) ⟨Int.emod_nonneg _ (by omega), Int.emod_lt_of_pos _ hpos⟩ (.inl (.inl rfl)) (.inl (.inr rfl)) ?_
    exact xs_ret (xe_mod (K := K) (xe_intI T.z_int (xe_var 2)) (xe_var 1) (by show 0 < m; omega)) fun v H0 H s k hv => hQ v H0 H s (k.closeMix (by rw [List.length_set]; exact hl)) ⟨_, hin _, hv⟩
  · refine xs_mx0 (xe_mod (xe_intI T.z_int (xe_add (xe_add (xe_mulB (xe_mx0 (xe_var 0)) (xe_int (K := K)) (by decide)) (xe_mulB (xe_var 2) xe_int (by decide))) xe_int)) xe_int (by decide)) (xe_var 0) (.inl (.inl rfl)) (.inl (.inr rfl)) ?_
    refine xs_mx2 (xe_add (xe_mx2 (K := K) (xe_var 0)) xe_int) (xe_var 0) (.inl (.inl rfl)) (.inl (.inr rfl)) ?_
    exact xs_ret (xe_mod (xe_intI T.z_int (xe_fdiv (xe_mx0 (K := K) (xe_var 0)) xe_int (wide_div (b := 30) (by decide) (by decide) (by decide) (by decide)))) (xe_var 1) (by show 0 < m; omega)) fun v H0 H s k hv => hQ v H0 H s (k.closeMix hl) ⟨_, hin _, hv⟩
end
end K42
namespace K42
open PySem L2 Lh
section
variable {M : Addr → Prop} {Γ : Ct} {Rs : List Res} {X : Cx} {Z0 Z Hl : Hp} {D : Ends} {rest : List Stmt}
theorem xs_yes {c : Expr} {a b : List Stmt} {pos : Pos} (hc : XT M Γ Rs X c (Is true)) (h : XS M Γ Rs X Z0 Z Hl { D with nx := wpB X rest D } a) : XS M Γ Rs X Z0 Z Hl D (.If c a b pos :: rest) := xs_if hc (fun _ => h) fun q => Bool.noConfusion q
end
theorem rep_bool (f : Int) (t : Bool) : (List.replicate (b2n t).toNat [PyData.int f]).flatten = li (if t = true then [f] else []) := by
  cases t <;> rfl
/-- what a drawing among the floors may have made so far -/
def SubR (f : Int) (every : List Int) (i : Nat) (ds : List PyData) : Prop := ∃ x : List Int, ds = li x ∧ x.Sublist (every.take i) ∧ (f ∈ every.take i → f ∈ x)
theorem SubR.yes {f : Int} {every : List Int} {i : Nat} {ds : List PyData} {n : Int} (hn : every[i]? = some n) (h : SubR f every i ds) : SubR f every (i + 1) (ds ++ [.int n]) := by
  obtain ⟨x, rfl, h1, h2⟩ := h
  have e : every.take (i + 1) = every.take i ++ [n] := by rw [List.take_add_one, hn]; rfl
  refine ⟨x ++ [n], by simp [li], ?_, ?_⟩
  · rw [e]
    exact h1.append (List.Sublist.refl _)
  · rw [e]
    intro hf
    rcases List.mem_append.mp hf with hf | hf
    · exact List.mem_append_left _ (h2 hf)
    · exact List.mem_append_right _ hf
theorem SubR.no {f : Int} {every : List Int} {i : Nat} {ds : List PyData} {n : Int} (hn : every[i]? = some n) (hne : ¬ n = f) (h : SubR f every i ds) : SubR f every (i + 1) ds := by
  obtain ⟨x, rfl, h1, h2⟩ := h
  have e : every.take (i + 1) = every.take i ++ [n] := by rw [List.take_add_one, hn]; rfl
  refine ⟨x, rfl, ?_, ?_⟩
  · rw [e]
    exact h1.trans (List.sublist_append_left _ _)
  · rw [e]
    intro hf
    rcases List.mem_append.mp hf with hf | hf
    · exact h2 hf
    · have : f = n := by simpa using hf
      exact absurd this.symm hne
theorem SubR.zero {f : Int} {every : List Int} : SubR f every 0 [] := ⟨[], rfl, List.Sublist.slnil, fun h => by simp at h⟩
theorem SubR.fin {f : Int} {every : List Int} {ds : List PyData} {i : Nat} (hi : i = every.length) (h : SubR f every i ds) : ∃ x : List Int, ds = li x ∧ x.Sublist every ∧ (f ∈ every → f ∈ x) := by
  subst hi
  obtain ⟨x, h1, h2, h3⟩ := h
  rw [List.take_length] at h2 h3
  exact ⟨x, h1, h2, h3⟩
/-- a place among the ints of a list -/
theorem ixE_li {ns : List Int} {k : Int} (h : 0 ≤ k ∧ k < ns.length) : ∃ d, atI (li ns) k = some d ∧ ∃ f, d = .int f ∧ f ∈ ns := by
  have hlt : k.toNat < ns.length := by omega
  have e : k = (k.toNat : Int) := by omega
  have q : (li ns)[k.toNat]? = some (.int ns[k.toNat]) := by simp [li, hlt]
  have r := atI_nat q
  rw [← e] at r
  exact ⟨_, r, _, rfl, List.getElem_mem _⟩
theorem rgI_up (n : Nat) : (rgI 0 n).Pairwise (· < ·) := by
  unfold rgI
  rw [List.pairwise_map]
  exact List.Pairwise.imp (fun h => by omega) List.pairwise_lt_range
theorem bells_of {b : List Int} {n : Nat} (h : b.Sublist (rgI 0 n)) : BellsOk b (rgI 0 n) where
  among := fun x hx => h.subset hx
  up := fun t m k hm hk => by
    have p := List.pairwise_iff_getElem.mp ((rgI_up n).sublist h)
    obtain ⟨l1, e1⟩ := List.getElem?_eq_some_iff.mp hm
    obtain ⟨l2, e2⟩ := List.getElem?_eq_some_iff.mp hk
    rw [← e1, ← e2]
    exact p t (t + 1) l1 l2 (by omega)
def GapR (wd : Int) (i : Nat) (ds : List PyData) : Prop := ∃ g : List Int, ds = li g ∧ g.length = i ∧ ∀ x ∈ g, 1 ≤ x ∧ x ≤ wd
theorem GapR.step {wd : Int} {i : Nat} {ds : List PyData} {n : Int} (hn : 1 ≤ n ∧ n ≤ wd) (h : GapR wd i ds) : GapR wd (i + 1) (ds ++ [.int n]) := by
  obtain ⟨g, rfl, h1, h2⟩ := h
  refine ⟨g ++ [n], by simp [li], by simp [h1], fun x hx => ?_⟩
  rcases List.mem_append.mp hx with hx | hx
  · exact h2 x hx
  · have e : x = n := by simpa using hx
    subst e
    exact hn
abbrev drawnD (g b : List Int) : PyData := .tuple [.tuple (li g), .tuple (li b)]
theorem far_self (g : List Int) (f : Int) : far g f f = 0 := by
  unfold far
  have e : (max f f).toNat - (min f f).toNat = 0 := by omega
  rw [e]
  rfl
section
variable {K : PySem.W.Frag} {mg : Str → Option Value} {base : Heap} {P : Program} {w : World}
/-- a drawing -/
theorem xe_next (T : Txt K mg) {M : Addr → Prop} {Γ : Ct} {Rs2 : List Res} {X : Cx} {o e : Expr} {p pos : Pos} {b l : Addr} {m : Int} (hr : Room 1 X.A) (ho : XE M Γ (Res.mix b l :: Rs2) X o (PV (.ref b))) (he : XE M Γ (Res.mix b l :: Rs2) X e (PD K (.int m))) (h1 : 1 ≤ m) (h2 : m < 1000000) (hm : ∀ a, MB b l a → M a)
    (hg : Gl X "_law_next" := by rfl) (hs : starEach [o, e] X.env = (false, eval o X.env) :: starEach [e] X.env := by rfl) (hs2 : starEach [e] X.env = (false, eval e X.env) :: starEach [] X.env := by rfl) (hpl : (backTo pos (starEach [e] X.env)).any (·.1) = false := by rfl)
    (eK : X.K = K := by rfl) (em : X.mg = mg := by rfl) : XE M Γ (Res.mix b l :: Rs2) X (.Call (.Name "_law_next" p) [o, e] [] pos) (PIn K 0 m) :=
  xe_callM (ok_law_next (P := X.prog) (w := X.w) (base := X.base) T) hr T.g__law_next T.F__law_next.kp T.b__law_next (xa_cons ho (xa_1 he hs2) hs) (fun vs H h => ⟨⟨((b, l), m), h1, (wide_div (i := 0) (b := 30) (by omega) (by omega) (by decide) (by decide)).2⟩, h, rfl, hm, fun a ha => by
    have ha' : a = b ∨ a = l := ha
    simpa [Res.mix] using ha', fun _ _ h => h⟩) hg (by decide) hs hpl rfl rfl eK em rfl
/-- a drawing below what was drawn -/
theorem xe_nextE (T : Txt K mg) {M : Addr → Prop} {Γ : Ct} {Rs2 : List Res} {X : Cx} {o e : Expr} {p pos : Pos} {b l : Addr} {A : Int → Prop} {hi : Int} (hr : Room 1 X.A) (ho : XE M Γ (Res.mix b l :: Rs2) X o (PV (.ref b))) (he : XE M Γ (Res.mix b l :: Rs2) X e (PEx A fun m => PD K (.int m))) (h1 : ∀ m, A m → 1 ≤ m ∧ m ≤ hi) (h2 : hi < 1000000) (hm : ∀ a, MB b l a → M a)
    (hg : Gl X "_law_next" := by rfl) (hs : starEach [o, e] X.env = (false, eval o X.env) :: starEach [e] X.env := by rfl) (hs2 : starEach [e] X.env = (false, eval e X.env) :: starEach [] X.env := by rfl) (hpl : (backTo pos (starEach [e] X.env)).any (·.1) = false := by rfl)
    (eK : X.K = K := by rfl) (em : X.mg = mg := by rfl) : XE M Γ (Res.mix b l :: Rs2) X (.Call (.Name "_law_next" p) [o, e] [] pos) (PIn K 0 hi) :=
  xe_callM (ok_law_next (P := X.prog) (w := X.w) (base := X.base) T) hr T.g__law_next T.F__law_next.kp T.b__law_next (xa_cons ho (xa_1 he hs2) hs) (fun vs H h => by
    obtain ⟨v1, r, e1, q1, h3⟩ := h.inv
    obtain ⟨v2, r', e2, ⟨m, hA, q2⟩, h4⟩ := h3.inv
    have e3 := h4.nil_inv
    subst e1 e2 e3
    obtain ⟨m1, m2⟩ := h1 m hA
    refine ⟨⟨((b, l), m), m1, (wide_div (i := 0) (b := 30) (by omega) (by omega) (by decide) (by decide)).2⟩, DAll.cons q1 (DAll.cons q2 DAll.nil), rfl, hm, fun a ha => ?_, fun v H ⟨k, hk, hv⟩ => ⟨k, ⟨hk.1, ?_⟩, hv⟩⟩
    · have ha' : a = b ∨ a = l := ha
      simpa [Res.mix] using ha'
    · have h : k < m := hk.2
      omega) hg (by decide) hs hpl rfl rfl eK em rfl
abbrev spFar (K : PySem.W.Frag) : Sp := SpP (α := { p : List Int × Int × Int // 0 ≤ p.2.1 ∧ 0 ≤ p.2.2 }) (fun p => [PD K (.tuple (li p.1.1)), PD K (.int p.1.2.1), PD K (.int p.1.2.2)]) (fun p => PD K (.int (far p.1.1 p.1.2.1 p.1.2.2)))
theorem ok_law_far (T : Txt K mg) : FnOk P w K mg base CX0 1 T.f__law_far T.d__law_far ["_law_gaps", "_law_one", "_law_other"] (spFar K) := by
  refine fn_F T.F__law_far sc__law_far (fun _ => rfl) fun ⟨⟨g, i, j⟩, hi, hj⟩ Z0 Z Q X qX hQ => ?_
  obtain ⟨cdv, A, outer, s, E, rfl, hr⟩ := qX
  have hi' : 0 ≤ i := hi
  have hj' : 0 ≤ j := hj
  have h0 : 0 ≤ min i j := by omega
  have h1 : 0 ≤ max i j := by omega
  exact xs_ret (xe_sumT T.z_sum (YE.to (xe_slT2 (xe_var 0) (xe_min2 T.z_min (xe_var 1) (xe_var 2)) (xe_max2 T.z_max (xe_var 1) (xe_var 2)) h0 h1) (by rw [li_cut]))) fun v H0 H s k hv => hQ v H0 H s k hv
abbrev spLNext (K : PySem.W.Frag) : Sp := SpP (α := { p : (List Int × List Int) × Int × Row // (0 ≤ p.2.1 ∧ p.2.1 ≤ p.1.1.length) ∧ p.1.1.length ≤ 9 ∧ p.2.2.Ok p.1.1 }) (fun p => [PD K (drawnD p.1.1.1 p.1.1.2), PD K (.int p.1.2.1), PD K (.tuple p.1.2.2.ds)]) (fun p => PD K (.list (li (nextF p.1.1.1 p.1.1.2 p.1.2.2 p.1.2.1))))
theorem ok_law_next_floors (T : Txt K mg) : FnOk P w K mg base CX0 2 T.f__law_next_floors T.d__law_next_floors ["_law_drawn", "_law_floor", "_law_row_here"] (spLNext K) := by
  refine fn_F T.F__law_next_floors sc__law_next_floors (fun _ => rfl) fun ⟨⟨⟨g, b⟩, f, r⟩, hf, h9, hok⟩ Z0 Z Q X qX hQ => ?_
  obtain ⟨cdv, A, outer, s, E, rfl, hr⟩ := qX
  have hf' : 0 ≤ f ∧ f ≤ g.length := hf
  have h9' : g.length ≤ 9 := h9
  refine xs_asg 3 (YE.dat (d' := .list (li (rgI 0 (g.length + 1)))) (xe_listRg T.z_list T.z_range (xe_add (xe_lenT T.z_len (xe_ixT (d := .tuple (li g)) (xe_var 0) xe_int rfl)) xe_int) (by simp [li]; omega)) (by
    have e : (((li g).length : Int) + 1).toNat = g.length + 1 := by simp [li]
    show PyData.list (li (rgI 0 (((li g).length : Int) + 1).toNat)) = _
    rw [e])) ?_ sc__law_next_floors.nd
  cases r with
  | go s =>
    have hs1 : 1 ≤ s := (show 1 ≤ s ∧ s ≤ 81 from hok).1
    refine xs_yes (YT.eq (xt_eqS (K := K) (s := "go") (xe_ixT (d := .str "go") (xe_var 2) xe_int rfl) xe_str) (by decide +kernel)) ?_
    refine xs_ret (YE.dat (xe_filtI 4 (fun n => .int n) (fun o => !decide (o = f) && decide (far g f o = s)) (xi_list (xe_var 3))
      (fun n hn s0 H0 C cl fp => ?_)
      (fun n hn _ s0 H0 C cl fp => xe_var 4) sc__law_next_floors.nd (blkOk_by rfl) (by simp only [rgI_len]; omega) cov0 (fun _ _ _ _ _ => pg_name (i := 4) sc__law_next_floors.nd rfl (Or.inl rfl))) ?_) fun v H0 H s k hv => hQ v H0 H s k hv
    · refine xt_andB ?_ fun _ => ?_
      · exact xt_neI (K := K) (xe_var 4) (xe_var 1)
      · refine xt_eqI (K := K) (i := far g f n) (j := s) ?_ ?_
        · exact xe_callD (ok_law_far T) ⟨(g, f, n), hf'.1, (fl_in hn).1⟩ hr T.g__law_far T.F__law_far.kp T.b__law_far (xa_cons (xe_ixT (d := .tuple (li g)) (xe_var 0) xe_int rfl) (xa_cons (xe_var 1) (xa_1 (xe_var 4))))
        · exact xe_ixT (xe_var 2) xe_int rfl
    · show PyData.list (((rgI 0 (g.length + 1)).filter fun o => !decide (o = f) && decide (far g f o = s)).map fun n => .int n) = .list (li ((rgI 0 (g.length + 1)).filter fun o => decide (far g f o = s)))
      rw [List.filter_congr (q := fun o => decide (far g f o = s)) fun o _ => ?_]
      by_cases h : o = f
      · subst h
        rw [far_self]
        have e : decide ((0 : Int) = s) = false := decide_eq_false (by omega)
        rw [e, Bool.and_false]
      · rw [decide_eq_false h]
        rfl
  | gap =>
    refine xs_skip (YT.eq (xt_eqS (K := K) (s := "gap") (xe_ixT (d := .str "gap") (xe_var 2) xe_int rfl) xe_str) (by decide +kernel)) ?_
    refine xs_yes (YT.eq (xt_eqS (K := K) (s := "gap") (xe_ixT (d := .str "gap") (xe_var 2) xe_int rfl) xe_str) (by decide +kernel)) ?_
    exact xs_ret (xe_var 3) fun v H0 H s k hv => hQ v H0 H s k hv
  | bell u =>
    refine xs_skip (YT.eq (xt_eqS (K := K) (s := "bell") (xe_ixT (d := .str "bell") (xe_var 2) xe_int rfl) xe_str) (by decide +kernel)) ?_
    refine xs_skip (YT.eq (xt_eqS (K := K) (s := "bell") (xe_ixT (d := .str "bell") (xe_var 2) xe_int rfl) xe_str) (by decide +kernel)) ?_
    refine xs_yes (YT.eq (xt_eqS (K := K) (s := "bell") (xe_ixT (d := .str "bell") (xe_var 2) xe_int rfl) xe_str) (by decide +kernel)) ?_
    refine xs_ret (YE.dat (xe_repL (xe_lst (ds := [.int f]) (xa_1 (xe_var 1)) (by simp)) (xe_intB T.z_int (xe_eqB (K := K) (xe_inT (xe_var 1) (xe_ixT (d := .tuple (li b)) (xe_var 0) xe_int rfl)) (xe_ixT (d := .bool u) (xe_var 2) xe_int rfl))) ?_ ?_) ?_) fun v H0 H s k hv => hQ v H0 H s k hv
    · generalize decide (decide (f ∈ b) = u) = t
      cases t <;> decide
    · show 1 * (b2n (decide (decide (f ∈ b) = u))).toNat ≤ 1000000
      generalize decide (decide (f ∈ b) = u) = t
      cases t <;> decide
    · show PyData.list (List.replicate (b2n (decide (decide (f ∈ b) = u))).toNat [PyData.int f]).flatten = .list (li (if decide (f ∈ b) = u then [f] else []))
      rw [rep_bool]
      by_cases h : decide (f ∈ b) = u
      · rw [if_pos h, if_pos (decide_eq_true h)]
      · rw [if_neg h, if_neg (by simpa using h)]
  | door =>
    refine xs_skip (YT.eq (xt_eqS (K := K) (s := "door") (xe_ixT (d := .str "door") (xe_var 2) xe_int rfl) xe_str) (by decide +kernel)) ?_
    refine xs_skip (YT.eq (xt_eqS (K := K) (s := "door") (xe_ixT (d := .str "door") (xe_var 2) xe_int rfl) xe_str) (by decide +kernel)) ?_
    refine xs_skip (YT.eq (xt_eqS (K := K) (s := "door") (xe_ixT (d := .str "door") (xe_var 2) xe_int rfl) xe_str) (by decide +kernel)) ?_
    exact xs_ret (YE.dat (xe_repL (k := 1) (xe_lst (ds := [.int f]) (xa_1 (xe_var 1)) (by simp)) (YE.dat (xe_intB T.z_int (xe_orB (K := K) (v := true) (YE.dat (d' := .bool true) (xe_eqS (K := K) (s := "door") (t := "door") (xe_ixT (d := .str "door") (xe_var 2) xe_int rfl) xe_str) (congrArg PyData.bool (by decide +kernel))) (fun h => Bool.noConfusion h))) rfl) (by decide) (by show 1 * (1 : Int).toNat ≤ 1000000; decide)) rfl) fun v H0 H s k hv => hQ v H0 H s k hv
  | look l =>
    refine xs_skip (YT.eq (xt_eqS (K := K) (s := "look") (xe_ixT (d := .str "look") (xe_var 2) xe_int rfl) xe_str) (by decide +kernel)) ?_
    refine xs_skip (YT.eq (xt_eqS (K := K) (s := "look") (xe_ixT (d := .str "look") (xe_var 2) xe_int rfl) xe_str) (by decide +kernel)) ?_
    refine xs_skip (YT.eq (xt_eqS (K := K) (s := "look") (xe_ixT (d := .str "look") (xe_var 2) xe_int rfl) xe_str) (by decide +kernel)) ?_
    refine xs_ret (YE.dat (xe_repL (xe_lst (ds := [.int f]) (xa_1 (xe_var 1)) (by simp)) (xe_intB T.z_int (xe_orB (K := K) (v := decide (f ∈ l)) (YE.dat (d' := .bool false) (xe_eqS (K := K) (s := "look") (t := "door") (xe_ixT (d := .str "look") (xe_var 2) xe_int rfl) xe_str) (congrArg PyData.bool (by decide +kernel))) (fun h => xe_inT (xe_var 1) (xe_ixT (d := .tuple (li l)) (xe_var 2) xe_int rfl)))) ?_ ?_) ?_) fun v H0 H s k hv => hQ v H0 H s k hv
    · generalize decide (f ∈ l) = t
      cases t <;> decide
    · show 1 * (b2n (false || decide (f ∈ l))).toNat ≤ 1000000
      generalize decide (f ∈ l) = t
      cases t <;> decide
    · show PyData.list (List.replicate (b2n (false || decide (f ∈ l))).toNat [PyData.int f]).flatten = .list (li (if f ∈ l then [f] else []))
      rw [rep_bool]
      by_cases h : f ∈ l
      · rw [if_pos h, if_pos (by simpa using h)]
      · rw [if_neg h, if_neg (by simpa using h)]
end
end K42
namespace K42
open PySem L2 Lh
section
variable {K : PySem.W.Frag} {mg : Str → Option Value} {base : Heap} {P : Program} {w : World}
abbrev spLHouse (K : PySem.W.Frag) : Sp := SpF (α := { p : (Addr × Addr) × Int // 1 ≤ p.2 ∧ p.2 ≤ 9 }) (fun p => MB p.1.1.1 p.1.1.2) (fun p => [Res.mix p.1.1.1 p.1.1.2]) (fun p => [PV (.ref p.1.1.1), PD K (.int p.1.2)])
  (fun p => PEx (fun q : List Int × List Int => HouseOk q.1 q.2 ∧ (q.1.length : Int) ≤ p.1.2 ∧ ∀ x ∈ q.1, x ≤ 4) fun q => PD K (drawnD q.1 q.2))
theorem ok_law_house (T : Txt K mg) : FnOk P w K mg base CX0 2 T.f__law_house T.d__law_house ["_law_h", "_law_most"] (spLHouse K) := by
  refine fn_F T.F__law_house sc__law_house (fun _ => rfl) fun ⟨⟨⟨bx, l⟩, mo⟩, h1, h2⟩ Z0 Z Q X qX hQ => ?_
  obtain ⟨cdv, A, outer, s, E, rfl, hr⟩ := qX
  have h1' : 1 ≤ mo := h1
  have h2' : mo ≤ 9 := h2
  refine xs_asgE (A := fun g : List Int => GapsOk g ∧ (g.length : Int) ≤ mo ∧ ∀ x ∈ g, x ≤ 4) (P := fun g => PD K (.tuple (li g))) 2 (xe_tupLE T.z_tuple (YE.imp (xe_lcE (K := K) 3 (xi_rangeE T.z_range (xe_addIn xe_int (xe_next T hr (xe_var 0) (xe_var 1) h1' (by show mo < 1000000; omega) (fun _ h => h))) (fun n hn => by
      obtain ⟨a, b⟩ := hn
      constructor <;> omega)) (GapR 4) ⟨[], rfl, rfl, fun x hx => by cases hx⟩ (fun n hn i Q hq s0 H0 C cl fp => ?_) sc__law_house.nd (blkOk_by rfl) (fun n hn => ?_) cov_mix (fun _ _ _ _ _ => pg_name (i := 3) sc__law_house.nd rfl (Or.inl rfl))) (fun v H h => ?_))) (fun g hg => ?_) sc__law_house.nd
  · refine YE.imp (xe_addIn (lo := 0) (hi := 4) xe_int (xe_nextE T (A := fun m => 1 ≤ m ∧ m ≤ 4) hr (xe_var 0) ?_ (fun m h => h) (by decide) (fun _ h => h))) fun v H ⟨m, hm, hv⟩ => ⟨.int m, fun ds _ hR => hR.step (by
      obtain ⟨a, b⟩ := hm
      constructor <;> omega), hv⟩
    refine YE.imp (xe_ixLE (B := fun d => ∃ m : Int, d = .int m ∧ 1 ≤ m ∧ m ≤ 4) (xe_lst (ds := [.int 2, .int 4]) (xa_cons xe_int (xa_1 xe_int)) (by simp)) (xe_next T hr (xe_var 0) (xe_int (K := K)) (by decide) (by decide) (fun _ h => h)) (fun k hk => ?_)) fun v H h => ?_
    · obtain ⟨k0, k1⟩ := hk
      have e : k = 0 ∨ k = 1 := by omega
      rcases e with rfl | rfl
      · exact ⟨_, rfl, 2, rfl, by decide, by decide⟩
      · exact ⟨_, rfl, 4, rfl, by decide, by decide⟩
    · obtain ⟨d, ⟨m, rfl, hm⟩, hv⟩ := h
      exact ⟨m, hm, hv⟩
  · obtain ⟨a, b⟩ := hn
    simp only [li, List.length_map, rgI_len]
    omega
  · obtain ⟨ds, ⟨n, hn, hR, _⟩, hv⟩ := h
    obtain ⟨g, rfl, e1, e2⟩ := hR
    obtain ⟨a, b⟩ := hn
    have e3 : g.length = n.toNat := by rw [e1]; simp [li, rgI_len]
    exact ⟨g, ⟨⟨by omega, by omega, fun x hx => by
      have := e2 x hx
      omega⟩, by omega, fun x hx => (e2 x hx).2⟩, hv⟩
  · obtain ⟨hg, hgm, hgw⟩ := hg
    have h9 := hg.nine
    have hlen : (((li g).length : Int) + 1).toNat = g.length + 1 := by simp [li]
    refine xs_ret (YE.imp (xe_tupP (K := K) (Ps := [PD K (.tuple (li g)), PEx (fun x : List Int => x.Sublist (rgI 0 (g.length + 1))) fun x => PD K (.tuple (li x))]) (xa_cons (xe_var 2) (xa_1 (xe_tupLE T.z_tuple (YE.imp (xe_lcIf (K := K) 4 (xi_range1 T.z_range (xe_add (xe_lenT T.z_len (xe_var 2)) xe_int) (by simp [li]; omega)) (SubR (-1) (rgI 0 (g.length + 1))) SubR.zero (fun i Q hq => ?_) sc__law_house.nd (blkOk_by rfl) (by simp only [li, List.length_map, rgI_len]; omega) cov_mix (fun _ _ _ _ _ => pg_name (i := 4) sc__law_house.nd rfl (Or.inl rfl))) (fun v H h => ?_))))) (by simp)) (fun v H h => ?_)) fun v H0 H s k hv => hQ v H0 H s k hv
    · rw [hlen] at hq
      obtain ⟨d, hd, rfl⟩ := map_at hq
      obtain ⟨n, hn, rfl⟩ := li_at hd
      refine ⟨fun _ => True, fun s0 H0 C cl fp => ?_, fun _ s0 H0 C cl fp => ?_, fun hb ds hR => ?_⟩
      · exact xt_eqIn (xe_next T hr (xe_var 0) xe_int (by decide) (by decide) (fun _ h => h)) (xe_int (K := K))
      · exact YE.imp (xe_var 4) fun v H h => ⟨.int n, fun ds _ hR => hR.yes hn, h⟩
      · refine hR.no hn ?_
        have := mem_rgI.mp (List.mem_of_getElem? hn)
        omega
    · obtain ⟨ds, ⟨hR, _⟩, hv⟩ := h
      obtain ⟨x, rfl, h1, _⟩ := hR.fin (by rw [hlen]; simp [li])
      exact ⟨x, h1, hv⟩
    · obtain ⟨a, x, y, e, q1, q2, ⟨xs, hxs, q3⟩⟩ := PTs.two h
      exact ⟨(g, xs), ⟨⟨hg, bells_of hxs⟩, hgm, hgw⟩, a, [x, y], e, q1, x, [y], rfl, q2, y, [], rfl, q3, rfl⟩
abbrev spLStart (K : PySem.W.Frag) : Sp := SpF (α := { p : (Addr × Addr) × List Int × List Int // p.2.1.length ≤ 9 }) (fun p => MB p.1.1.1 p.1.1.2) (fun p => [Res.mix p.1.1.1 p.1.1.2]) (fun p => [PV (.ref p.1.1.1), PD K (drawnD p.1.2.1 p.1.2.2)])
  (fun p => PEx (fun st : List Int => st.Sublist (rgI 0 (p.1.2.1.length + 1)) ∧ st ≠ []) fun st => PD K (.tuple (li st)))
theorem ok_law_start (T : Txt K mg) : FnOk P w K mg base CX0 2 T.f__law_start T.d__law_start ["_law_h", "_law_drawn"] (spLStart K) := by
  refine fn_F T.F__law_start sc__law_start (fun _ => rfl) fun ⟨⟨⟨bx, l⟩, g, b⟩, h9⟩ Z0 Z Q X qX hQ => ?_
  obtain ⟨cdv, A, outer, s, E, rfl, hr⟩ := qX
  have h9' : g.length ≤ 9 := h9
  have hlen : ((li g).length : Int) + 1 = g.length + 1 := by simp [li]
  refine xs_asg 2 (P := PD K (.int ((g.length : Int) + 1))) (YE.dat (xe_add (xe_lenT T.z_len (xe_ixT (d := .tuple (li g)) (xe_var 1) xe_int rfl)) xe_int) (congrArg PyData.int hlen)) ?_ sc__law_start.nd
  have hcnt : ((g.length : Int) + 1).toNat = g.length + 1 := by omega
  refine xs_asgE 3 (A := fun x : List Int => x.Sublist (rgI 0 (g.length + 1))) (P := fun x => PD K (.tuple (li x))) (xe_tupLE T.z_tuple (YE.imp (xe_lcIf (K := K) 4 (xi_range1 T.z_range (xe_var 2) (by omega)) (SubR (-1) (rgI 0 (g.length + 1))) SubR.zero (fun i Q hq => ?_) sc__law_start.nd (blkOk_by rfl) (by simp only [li, List.length_map, rgI_len]; omega) cov_mix (fun _ _ _ _ _ => pg_name (i := 4) sc__law_start.nd rfl (Or.inl rfl))) (fun v H h => ?_))) (fun x hx => ?_) sc__law_start.nd
  · rw [hcnt] at hq
    obtain ⟨d, hd, rfl⟩ := map_at hq
    obtain ⟨n, hn, rfl⟩ := li_at hd
    refine ⟨fun _ => True, fun s0 H0 C cl fp => ?_, fun _ s0 H0 C cl fp => ?_, fun hb ds hR => ?_⟩
    · exact xt_eqIn (xe_next T hr (xe_var 0) xe_int (by decide) (by decide) (fun _ h => h)) (xe_int (K := K))
    · exact YE.imp (xe_var 4) fun v H h => ⟨.int n, fun ds _ hR => hR.yes hn, h⟩
    · refine hR.no hn ?_
      have := mem_rgI.mp (List.mem_of_getElem? hn)
      omega
  · obtain ⟨ds, ⟨hR, _⟩, hv⟩ := h
    obtain ⟨x, rfl, h1, _⟩ := hR.fin (by rw [hcnt]; simp [li])
    exact ⟨x, h1, hv⟩
  · refine xs_ret (xe_ifx (P := PEx (fun st : List Int => st.Sublist (rgI 0 (g.length + 1)) ∧ st ≠ []) fun st => PD K (.tuple (li st))) (xt_neTu hr (xe_var 3) (YE.dat (d' := .tuple (li [])) (xe_tup (ds := []) xa_nil (by simp)) rfl)) (fun hb => ?_) fun hb => ?_) fun v H0 H s k hv => hQ v H0 H s k hv
    · exact YE.imp (xe_var 3) fun v H h => ⟨x, ⟨hx, fun e => by
        have hb' : true = !decide (x = []) := hb
        rw [e] at hb'
        cases hb'⟩, h⟩
    · refine YE.imp (xe_tupP (K := K) (Ps := [PIn K 0 ((g.length : Int) + 1)]) (xa_1 (xe_next T hr (xe_var 0) (xe_var 2) (by omega) (by omega) (fun _ h => h))) (by simp)) fun v H h => ?_
      obtain ⟨a, xs, e, q1, q2⟩ := h
      obtain ⟨y, r, e1, ⟨m, hm, hy⟩, h3⟩ := q2.inv
      have e3 := h3.nil_inv
      subst e1 e3
      refine ⟨[m], ⟨?_, by simp⟩, a, [y], e, q1, y, [], rfl, hy, rfl⟩
      refine List.singleton_sublist.mpr (mem_rgI.mpr ?_)
      obtain ⟨m0, m1⟩ := hm
      omega
end
end K42
namespace K42
open PySem L2 Lh
section
variable {M : Addr → Prop} {Γ : Ct} {Rs : List Res} {X : Cx} {Z0 Z Hl : Hp} {D : Ends} {rest : List Stmt}
theorem Rok.swap {r1 r2 : Res} {H0 H : Hp} (k : Rok (r1 :: r2 :: Rs) H0 H) : Rok (r2 :: r1 :: Rs) H0 H := by
  refine ⟨?_, fun r hr => k.2 r ?_⟩
  · have h := k.1
    rw [List.flatMap_cons, List.flatMap_cons] at h ⊢
    refine (List.Perm.nodup_iff ?_).mp h
    simp only [← List.append_assoc]
    exact (List.perm_append_comm (l₁ := _) (l₂ := _)).append_right _
  · obtain e | hr := List.mem_cons.mp hr
    · subst e
      simp
    · obtain e | hr := List.mem_cons.mp hr
      · subst e
        simp
      · simp [hr]
theorem xs_swap {r1 r2 : Res} (h : XS M Γ (r2 :: r1 :: Rs) X Z0 Z Hl D rest) : XS M Γ (r1 :: r2 :: Rs) X Z0 Z Hl D rest := fun σ H0 H l s b k => h σ H0 H l s b (Rok.swap k)
end
theorem sum_bounds : ∀ {l : List Int}, (∀ x ∈ l, 1 ≤ x ∧ x ≤ 9) → (l.length : Int) ≤ l.sum ∧ l.sum ≤ 9 * l.length
  | [], _ => by simp
  | x :: l, h => by
    have h1 := h x List.mem_cons_self
    have h2 := sum_bounds (l := l) fun y hy => h y (List.mem_cons_of_mem _ hy)
    simp only [List.sum_cons, List.length_cons]
    omega
theorem far_bounds {g : List Int} (hg : GapsOk g) {i j : Int} (hi : 0 ≤ i ∧ i ≤ g.length) (hj : 0 ≤ j ∧ j ≤ g.length) (hne : ¬ j = i) : 1 ≤ far g i j ∧ far g i j ≤ 81 := by
  have h9 := hg.nine
  have hl : ((g.drop (min i j).toNat).take ((max i j).toNat - (min i j).toNat)).length = (max i j).toNat - (min i j).toNat := by
    simp only [List.length_take, List.length_drop]
    omega
  have hb := sum_bounds (l := (g.drop (min i j).toNat).take ((max i j).toNat - (min i j).toNat)) fun x hx => hg.each x (List.mem_of_mem_drop (List.mem_of_mem_take hx))
  rw [hl] at hb
  unfold far
  omega
/-- drawn houses: their gaps are small -/
def LowHouse (g b : List Int) : Prop := HouseOk g b ∧ ∀ x ∈ g, x ≤ 4
def Row.Lo (g : List Int) : Row → Prop
  | .go s => 1 ≤ s ∧ s ≤ 40
  | r => r.Ok g
theorem Row.Lo.ok {g : List Int} {r : Row} (h : r.Lo g) : r.Ok g := by
  cases r with
  | go s =>
    have h' : 1 ≤ s ∧ s ≤ 40 := h
    exact ⟨h'.1, by omega⟩
  | bell _ => exact h
  | door => exact h
  | look _ => exact h
  | gap => exact h
theorem sum_low : ∀ {l : List Int}, (∀ x ∈ l, x ≤ 4) → l.sum ≤ 4 * l.length
  | [], _ => by simp
  | x :: l, h => by
    have h1 := h x List.mem_cons_self
    have h2 := sum_low (l := l) fun y hy => h y (List.mem_cons_of_mem _ hy)
    simp only [List.sum_cons, List.length_cons]
    omega
theorem far_low {g b : List Int} (h : LowHouse g b) {i j : Int} (hi : 0 ≤ i ∧ i ≤ g.length) (hj : 0 ≤ j ∧ j ≤ g.length) (hne : ¬ j = i) : 1 ≤ far g i j ∧ far g i j ≤ 40 := by
  refine ⟨(far_bounds h.1.gaps hi hj hne).1, ?_⟩
  have h9 := h.1.gaps.nine
  have hs := sum_low (l := (g.drop (min i j).toNat).take ((max i j).toNat - (min i j).toNat)) fun x hx => h.2 x (List.mem_of_mem_drop (List.mem_of_mem_take hx))
  have hl : ((g.drop (min i j).toNat).take ((max i j).toNat - (min i j).toNat)).length ≤ 9 := by
    simp only [List.length_take, List.length_drop]
    omega
  unfold far
  omega
theorem filt_split (p : Int → Bool) : ∀ l : List Int, l.length = (l.filter p).length + (l.filter fun o => !p o).length
  | [] => rfl
  | x :: l => by
    have := filt_split p l
    cases e : p x <;> simp [List.filter_cons, e] <;> omega
theorem others_len {f : Int} {n : Nat} : n - 1 ≤ ((rgI 0 n).filter fun o => !decide (o = f)).length := by
  have h1 := filt_split (fun o => decide (o = f)) (rgI 0 n)
  have h2 : ((rgI 0 n).filter fun o => decide (o = f)).length ≤ 1 := by
    have nd : (rgI 0 n).Nodup := (rgI_up n).imp fun h e => by omega
    have := List.nodup_iff_count.mp nd f
    rw [List.count_eq_length_filter] at this
    have e : ((rgI 0 n).filter fun o => decide (o = f)) = (rgI 0 n).filter (fun o => o == f) := by
      congr 1
    rw [e]
    exact this
  rw [rgI_len] at h1
  omega
section
variable {M : Addr → Prop} {Γ : Ct} {Rs : List Res} {X : Cx} {K : PySem.W.Frag} {a b : Expr} {pos : Pos} {lo hi j : Int}
theorem xt_gtIn (ha : XE M Γ Rs X a (PIn K lo hi)) (hb : XE M Γ Rs X b (PD K (.int j))) : XT M Γ Rs X (.Compare a [.Gt] [b] pos) (fun _ => True) :=
  xt_cmp (K := K) op_gt ha hb (fun x y H0 H ⟨n, hn, hx⟩ hy e _ => fun Q q => (yl_I0 (g := fun i j => .bl (decide (j < i))) (d := .bool (decide (j < n))) (fun _ => rfl) hx hy e) Q fun v H0' H' s p => q v H0' H' s ⟨_, True.intro, p⟩) (nomark _)
theorem xe_gtIn (ha : XE M Γ Rs X a (PIn K lo hi)) (hb : XE M Γ Rs X b (PD K (.int j))) : XE M Γ Rs X (.Compare a [.Gt] [b] pos) (PB K fun _ => True) :=
  xe_cmp op_gt ha hb (fun x y H0 H ⟨n, hn, hx⟩ hy e _ => fun Q q => (yl_I0 (g := fun i j => .bl (decide (j < i))) (d := .bool (decide (j < n))) (fun _ => rfl) hx hy e) Q fun v H0' H' s p => q v H0' H' s ⟨_, True.intro, p⟩) (nomark _)
theorem xe_eqBE {u : Bool} (ha : XE M Γ Rs X a (PD K (.bool u))) (hb : XE M Γ Rs X b (PB K fun _ => True)) : XE M Γ Rs X (.Compare a [.Eq] [b] pos) (PB K fun _ => True) :=
  xe_cmp op_eq ha hb (fun x y H0 H hx ⟨n, hn, hy⟩ e _ => fun Q q => (yl_eqB hx hy e) Q fun v H0' H' s p => q v H0' H' s ⟨_, True.intro, p⟩) (nomark _)
end
section
variable {K : PySem.W.Frag} {mg : Str → Option Value} {base : Heap} {P : Program} {w : World}
abbrev POk (K : PySem.W.Frag) (g : List Int) : Pd := PEx (fun r : Row => r.Lo g) fun r => PD K (.tuple r.ds)
theorem one_row {g : List Int} {f : Int} {v : V} {H : Hp} (hf : 0 ≤ f ∧ f ≤ g.length) (h : (PTs K [POk K g, PD K (.int f)]).p v H) : (PEx (fun q : Row × Int => q.1.Lo g ∧ 0 ≤ q.2 ∧ q.2 ≤ g.length) fun q => PT2 K (PD K (.tuple q.1.ds)) (PD K (.int q.2))).p v H := by
  obtain ⟨a, x, y, e, q1, ⟨r, hr, q2⟩, q3⟩ := PTs.two h
  exact ⟨(r, f), ⟨hr, hf⟩, a, x, y, e, q1, q2, q3⟩
abbrev spLRow (K : PySem.W.Frag) : Sp := SpF (α := { p : ((Addr × Addr) × List Int × List Int) × Int // LowHouse p.1.2.1 p.1.2.2 ∧ 0 ≤ p.2 ∧ p.2 ≤ p.1.2.1.length }) (fun p => MB p.1.1.1.1 p.1.1.1.2) (fun p => [Res.mix p.1.1.1.1 p.1.1.1.2]) (fun p => [PV (.ref p.1.1.1.1), PD K (drawnD p.1.1.2.1 p.1.1.2.2), PD K (.int p.1.2)])
  (fun p => PEx (fun q : Row × Int => q.1.Lo p.1.1.2.1 ∧ 0 ≤ q.2 ∧ q.2 ≤ p.1.1.2.1.length) fun q => PT2 K (PD K (.tuple q.1.ds)) (PD K (.int q.2)))
theorem ok_law_row (T : Txt K mg) : FnOk P w K mg base CX0 2 T.f__law_row T.d__law_row ["_law_h", "_law_drawn", "_law_floor"] (spLRow K) := by
  refine fn_F T.F__law_row sc__law_row (fun _ => rfl) fun ⟨⟨⟨⟨bx, l⟩, g, b⟩, f⟩, hh, hf⟩ Z0 Z Q X qX hQ => ?_
  obtain ⟨cdv, A, outer, s, E, rfl, hr⟩ := qX
  have hh2 : LowHouse g b := hh
  have hh' : HouseOk g b := hh2.1
  have hf' : 0 ≤ f ∧ f ≤ g.length := hf
  have h9 := hh'.gaps.nine
  have h1 := hh'.gaps.one
  have hcnt : ((g.length : Int) + 1).toNat = g.length + 1 := by omega
  have hlen : ((li g).length : Int) + 1 = g.length + 1 := by simp [li]
  refine xs_par 3 4 (P := PD K (.int ((g.length : Int) + 1))) (Q := PIn K 0 12) (xa_cons (YE.dat (xe_add (xe_lenT T.z_len (xe_ixT (d := .tuple (li g)) (xe_var 1) xe_int rfl)) xe_int) (congrArg PyData.int hlen)) (xa_1 (xe_next T hr (xe_var 0) xe_int (by decide) (by decide) (fun _ h => h)))) ?_ sc__law_row.nd
  refine xs_slot 4 rfl fun kd hkd => ?_
  refine xs_if (xt_lt (K := K) (xe_var 4) xe_int) (fun _ => ?_) fun _ => xs_then ?_
  · refine xs_asgE 5 (xe_ixLE (B := fun d => ∃ o, d = .int o ∧ o ∈ (rgI 0 (g.length + 1)).filter fun o => !decide (o = f)) (YE.dat (xe_filtI 6 (fun n => .int n) (fun o => !decide (o = f)) (xi_range1 T.z_range (xe_var 3) (by omega)) (fun n hn s0 H0 C cl fp => by
        exact xt_neI (K := K) (xe_var 6) (xe_var 2)) (fun n hn _ s0 H0 C cl fp => by exact xe_var 6) sc__law_row.nd (blkOk_by rfl) (by simp only [rgI_len]; omega) cov_mix (fun _ _ _ _ _ => pg_name (i := 6) sc__law_row.nd rfl (Or.inl rfl))) (by rw [hcnt] : _ = PyData.list (li ((rgI 0 (g.length + 1)).filter fun o => !decide (o = f))))) (xe_next T hr (xe_var 0) (xe_sub (xe_var 3) xe_int) (by omega) (by omega) (fun _ h => h)) (fun k hk => ixE_li ⟨hk.1, by
          have q1 : k < (g.length : Int) + 1 - 1 := hk.2
          have q2 := others_len (f := f) (n := g.length + 1)
          omega⟩)) (fun d hd => ?_) sc__law_row.nd
    obtain ⟨o, rfl, ho⟩ := hd
    obtain ⟨ho1, ho2⟩ := List.mem_filter.mp ho
    have ho3 := fl_in ho1
    have hb := far_low hh2 hf' ho3 (by simpa using ho2)
    refine xs_asg 7 (P := PD K (.int (far g f o))) (xe_callD (ok_law_far T) ⟨(g, f, o), hf'.1, ho3.1⟩ hr T.g__law_far T.F__law_far.kp T.b__law_far (xa_cons (xe_ixT (d := .tuple (li g)) (xe_var 1) xe_int rfl) (xa_cons (xe_var 2) (xa_1 (xe_var 5))))) ?_ sc__law_row.nd
    refine xs_ret (YE.imp (xe_tupP (K := K) (Ps := [POk K g, PD K (.int o)]) (xa_cons (YE.imp (xe_tupP (K := K) (Ps := [PD K (.str "go"), PIn K 1 41]) (xa_cons xe_str (xa_1 (xe_ifx (xt_gtIn (xe_next T hr (xe_var 0) xe_int (by decide) (by decide) (fun _ h => h)) (xe_int (K := K))) (fun _ => YE.imp (xe_var 7) fun v H h => ⟨far g f o, ⟨hb.1, by have := hb.2; omega⟩, h⟩) fun _ => YE.imp (xe_addIn xe_int (xe_next T hr (xe_var 0) xe_int (by decide) (by decide) (fun _ h => h))) fun v H ⟨k, hk, hv⟩ => ⟨k, ⟨by have := hk.1; omega, by have := hk.2; omega⟩, hv⟩))) (by simp)) fun v H h => ?_) (xa_1 (xe_var 5))) (by simp)) fun v H h => one_row ho3 h) fun v H0 H s k hv => hQ v H0 H s k hv
    obtain ⟨a, x, y, e, q1, q2, ⟨k, hk, q3⟩⟩ := PTs.two h
    exact ⟨.go k, ⟨by have := hk.1; omega, by have := hk.2; omega⟩, a, [x, y], e, q1, x, [y], rfl, q2, y, [], rfl, q3, rfl⟩
  refine xs_if (xt_lt (K := K) (xe_var 4) xe_int) (fun _ => ?_) fun _ => xs_then ?_
  · refine xs_ret (YE.imp (xe_tupP (K := K) (Ps := [POk K g, PD K (.int f)]) (xa_cons (YE.imp (xe_tupP (K := K) (Ps := [PD K (.str "bell"), PB K fun _ => True]) (xa_cons xe_str (xa_1 (xe_eqBE (xe_inT (xe_var 2) (xe_ixT (d := .tuple (li b)) (xe_var 1) xe_int rfl)) (xe_gtIn (xe_next T hr (xe_var 0) xe_int (by decide) (by decide) (fun _ h => h)) (xe_int (K := K)))))) (by simp)) fun v H h => ?_) (xa_1 (xe_var 2))) (by simp)) fun v H h => one_row hf' h) fun v H0 H s k hv => hQ v H0 H s k hv
    obtain ⟨a, x, y, e, q1, q2, ⟨u, _, q3⟩⟩ := PTs.two h
    exact ⟨.bell u, True.intro, a, [x, y], e, q1, x, [y], rfl, q2, y, [], rfl, q3, rfl⟩
  refine xs_if (xt_lt (K := K) (xe_var 4) xe_int) (fun _ => ?_) fun _ => xs_then ?_
  · refine xs_ret (YE.imp (xe_tupP (K := K) (Ps := [POk K g, PD K (.int f)]) (xa_cons (YE.imp (xe_tup (K := K) (ds := [.str "door"]) (xa_1 xe_str) (by simp)) fun v H h => ⟨.door, True.intro, h⟩) (xa_1 (xe_var 2))) (by simp)) fun v H h => one_row hf' h) fun v H0 H s k hv => hQ v H0 H s k hv
  refine xs_if (xt_eqI (K := K) (xe_var 4) xe_int) (fun _ => ?_) fun _ => xs_then ?_
  · refine xs_asgE 8 (A := fun x : List Int => x.Sublist (rgI 0 (g.length + 1))) (P := fun x => PD K (.tuple (li x))) (xe_tupLE T.z_tuple (YE.imp (xe_lcIf (K := K) 6 (xi_range1 T.z_range (xe_var 3) (by omega)) (SubR (-1) (rgI 0 (g.length + 1))) SubR.zero (fun i Q hq => ?_) sc__law_row.nd (blkOk_by rfl) (by simp only [li, List.length_map, rgI_len]; omega) cov_mix (fun _ _ _ _ _ => pg_name (i := 6) sc__law_row.nd rfl (Or.inl rfl))) (fun v H h => ?_))) (fun x hx => ?_) sc__law_row.nd
    · rw [hcnt] at hq
      obtain ⟨d, hd, rfl⟩ := map_at hq
      obtain ⟨n, hn, rfl⟩ := li_at hd
      refine ⟨fun _ => True, fun s0 H0 C cl fp => ?_, fun _ s0 H0 C cl fp => ?_, fun hb ds hR => ?_⟩
      · exact YT.imp (xt_or (xt_and (xt_eqI (K := K) (xe_var 6) (xe_var 2)) fun _ => xt_gtIn (xe_next T hr (xe_var 0) xe_int (by decide) (by decide) (fun _ h => h)) (xe_int (K := K))) fun _ => xt_eqIn (xe_next T hr (xe_var 0) xe_int (by decide) (by decide) (fun _ h => h)) (xe_int (K := K))) fun _ _ => True.intro
      · exact YE.imp (xe_var 6) fun v H h => ⟨.int n, fun ds _ hR => hR.yes hn, h⟩
      · refine hR.no hn ?_
        have := mem_rgI.mp (List.mem_of_getElem? hn)
        omega
    · obtain ⟨ds, ⟨hR, _⟩, hv⟩ := h
      obtain ⟨x, rfl, h1, _⟩ := hR.fin (by rw [hcnt]; simp [li])
      exact ⟨x, h1, hv⟩
    · have hxl : x.length ≤ 10 := by
        have := hx.length_le
        rw [rgI_len] at this
        omega
      refine xs_ret (YE.imp (xe_tupP (K := K) (Ps := [POk K g, PD K (.int f)]) (xa_cons (YE.imp (xe_tupP (K := K) (Ps := [PD K (.str "look"), PEx (fun y : List Int => (∀ z ∈ y, 0 ≤ z ∧ z ≤ (g.length : Int)) ∧ y.length ≤ 1000) fun y => PD K (.tuple (li y))]) (xa_cons xe_str (xa_1 (xe_ifx (xt_neTu hr (xe_var 8) (YE.dat (d' := .tuple (li [])) (xe_tup (ds := []) xa_nil (by simp)) rfl)) (fun _ => YE.imp (xe_var 8) fun v H h => ⟨x, ⟨fun z hz => fl_in (hx.subset hz), by omega⟩, h⟩) fun _ => YE.imp (xe_tup (K := K) (ds := [.int f]) (xa_1 (xe_var 2)) (by simp)) fun v H h => ⟨[f], ⟨fun z hz => by
          have e : z = f := by simpa using hz
          rw [e]
          exact hf', by simp⟩, h⟩))) (by simp)) fun v H h => ?_) (xa_1 (xe_var 2))) (by simp)) fun v H h => one_row hf' h) fun v H0 H s k hv => hQ v H0 H s k hv
      obtain ⟨a, x', y, e, q1, q2, ⟨xs, hxs, q3⟩⟩ := PTs.two h
      exact ⟨Row.look xs, hxs, a, [x', y], e, q1, x', [y], rfl, q2, y, [], rfl, q3, rfl⟩
  · refine xs_ret (YE.imp (xe_tupP (K := K) (Ps := [POk K g, PIn K 0 ((g.length : Int) + 1)]) (xa_cons (YE.imp (xe_tup (K := K) (ds := [.str "gap"]) (xa_1 xe_str) (by simp)) fun v H h => ⟨.gap, True.intro, h⟩) (xa_1 (xe_next T hr (xe_var 0) (xe_var 3) (by omega) (by omega) (fun _ h => h)))) (by simp)) fun v H h => ?_) fun v H0 H s k hv => hQ v H0 H s k hv
    obtain ⟨a, x, y, e, q1, ⟨r, hr', q2⟩, ⟨k, hk, q3⟩⟩ := PTs.two h
    have k1 : k < (g.length : Int) + 1 := hk.2
    have k2 : k ≤ (g.length : Int) := by omega
    exact ⟨(r, k), ⟨hr', hk.1, k2⟩, a, x, y, e, q1, q2, q3⟩
end
end K42
namespace K42
open PySem L2 Lh
open Evl (Ex ex_l ex_t ex_rd fresh_back)
abbrev rowD (r : Row) : PyData := .tuple r.ds
theorem canLay_row (r : Row) : PyData.canLay0 (rowD r) = true ∧ PyData.depth (rowD r) ≤ 10 := by
  cases r with
  | look l =>
    have hx := shaped_li l
    have hx1 : PyData.canLay0 (.tuple (li l)) = true := SeqAt.canLay_of_shaped (d := .tuple (li l)) hx
    have hx2 : PyData.depthAll (li l) ≤ 1 := PySem.W.depthAll_ints l
    refine ⟨?_, ?_⟩
    · simp only [rowD, Row.ds, PyData.canLay0, PyData.canLayAll0] at hx1 ⊢
      simp [hx1, (by decide +kernel : PyData.strOk (Str.ofString "look") = true)]
    · simp only [rowD, Row.ds, PyData.depth, PyData.depthAll]
      omega
  | go s => exact ⟨by simp [rowD, Row.ds, PyData.canLay0, PyData.canLayAll0, (by decide +kernel : PyData.strOk (Str.ofString "go") = true)], by simp [rowD, Row.ds, PyData.depth, PyData.depthAll]⟩
  | bell u => exact ⟨by simp [rowD, Row.ds, PyData.canLay0, PyData.canLayAll0, (by decide +kernel : PyData.strOk (Str.ofString "bell") = true)], by simp [rowD, Row.ds, PyData.depth, PyData.depthAll]⟩
  | door => exact ⟨by simp [rowD, Row.ds, PyData.canLay0, PyData.canLayAll0, (by decide +kernel : PyData.strOk (Str.ofString "door") = true)], by simp [rowD, Row.ds, PyData.depth, PyData.depthAll]⟩
  | gap => exact ⟨by simp [rowD, Row.ds, PyData.canLay0, PyData.canLayAll0, (by decide +kernel : PyData.strOk (Str.ofString "gap") = true)], by simp [rowD, Row.ds, PyData.depth, PyData.depthAll]⟩
theorem canLay_rows : ∀ a : List Row, PyData.canLayAll0 (a.map rowD) = true ∧ PyData.depthAll (a.map rowD) ≤ 10
  | [] => by simp [PyData.canLayAll0, PyData.depthAll]
  | x :: xs => by
    obtain ⟨h1, h2⟩ := canLay_rows xs
    obtain ⟨h3, h4⟩ := canLay_row x
    refine ⟨?_, ?_⟩
    · simp only [List.map_cons, PyData.canLayAll0, h3, h1]
      rfl
    · simp only [List.map_cons, PyData.depthAll]
      omega
theorem shaped_rows (a : List Row) : SeqAt.shaped (.list (a.map rowD)) = true := by
  obtain ⟨h1, h2⟩ := canLay_rows a
  have h3 : PyData.depth (.list (a.map rowD)) ≤ 64 := by simp only [PyData.depth]; omega
  show (PyData.canLay0 (.list (a.map rowD)) && decide (PyData.depth (.list (a.map rowD)) ≤ 64)) = true
  rw [Bool.and_eq_true]
  exact ⟨by simp only [PyData.canLay0]; exact h1, decide_eq_true h3⟩
section
variable {M : Addr → Prop} {Γ Γ' : Ct} {Rs : List Res} {X : Cx} {Z0 Z Hl : Hp} {D : Ends} {K : PySem.W.Frag} {rest : List Stmt} {a b c e : Expr} {pos p : Pos}
theorem ye_swap {r1 r2 : Res} {t : TE} {P : Pd} (h : YE M Γ (r2 :: r1 :: Rs) t P) : YE M Γ (r1 :: r2 :: Rs) t P := fun σ H0 H l e k Q q => h σ H0 H l e (Rok.swap k) Q fun v H0' H' s k' p => q v H0' H' s (Rok.swap k') p
theorem yt_swap {r1 r2 : Res} {t : TT} {B : Bool → Prop} (h : YT M Γ (r2 :: r1 :: Rs) t B) : YT M Γ (r1 :: r2 :: Rs) t B := fun σ H0 H l e k Q q => h σ H0 H l e (Rok.swap k) Q fun v H0' H' s k' p => q v H0' H' s (Rok.swap k') p
/-- d in a list at hand -/
theorem xt_inM {q : Addr} {d : PyData} {ds : List PyData} {n : Nat} (hr : Room n X.A) (ha : XE M Γ (Res.lst Z q (ds.map (PD X.K)) :: Rs) X a (PD X.K d)) (hb : XE M Γ (Res.lst Z q (ds.map (PD X.K)) :: Rs) X b (PV (.ref q))) (h1 : SeqAt.shaped d = true) (h2 : SeqAt.shaped (.list ds) = true) (hm : behindInMarks .In b = false := by rfl) :
    XT M Γ (Res.lst Z q (ds.map (PD X.K)) :: Rs) X (.Compare a [.In] [b] pos) (fun _ => True) :=
  xt_cmp (K := X.K) (op_inD (by have := hr.un; omega)) ha hb (fun x y H0 H hx hy e r => by
    obtain ⟨_, _, xs, hq, hd⟩ := r.2 _ List.mem_cons_self
    have hy' : y = .ref q := hy
    have d2 : Dd X.K H (.list ds) y := ⟨q, xs, hy', hq, DdAll.ex e _ _ hd.dd⟩
    exact fun Q k => (Yld.val (z := .bl (ds.any fun z => PyData.eqv z d)) (C := PD X.K (.bool (ds.any fun z => PyData.eqv z d))) e rfl fun Q k => ⟨d, ds, Dd.dp d x (Dd.ex e _ _ hx), Dd.dp (.list ds) y d2, h1, h2, k⟩) Q fun v H0' H' s p => k v H0' H' s ⟨_, True.intro, p⟩) hm
/-- at a drawn place of a tuple -/
theorem xe_ixTE {ds : List PyData} {A : Int → Prop} {B : PyData → Prop} (ha : XE M Γ Rs X a (PD X.K (.tuple ds))) (hb : XE M Γ Rs X b (PEx A fun k => PD X.K (.int k))) (h : ∀ k, A k → ∃ d, atI ds k = some d ∧ B d) (hs : PlainIx b := by exact fun _ _ => rfl) : XE M Γ Rs X (.Subscript a b pos) (PEx B fun d => PD X.K d) :=
  YE.wp (pe_ix ix_tup pe_wp pe_wp hs) (ye_op ha hb fun x y H0 H hx ⟨k, hk, hy⟩ e _ => by
    obtain ⟨d, h1, h2⟩ := h k hk
    exact fun Q q => yl_ixT h1 hx hy e Q fun v A G s p => q v A G s ⟨d, h2, p⟩)
end
section
variable {K : PySem.W.Frag} {mg : Str → Option Value} {base : Heap} {P : Program} {w : World}
abbrev spLLog (K : PySem.W.Frag) : Sp := SpF (α := { p : ((Addr × Addr) × List Int × List Int) × List Int × Int // LowHouse p.1.2.1 p.1.2.2 ∧ (p.2.1.Sublist (rgI 0 (p.1.2.1.length + 1)) ∧ p.2.1 ≠ []) ∧ 0 ≤ p.2.2 ∧ p.2.2 ≤ 900 }) (fun p => MB p.1.1.1.1 p.1.1.1.2) (fun p => [Res.mix p.1.1.1.1 p.1.1.1.2]) (fun p => [PV (.ref p.1.1.1.1), PD K (drawnD p.1.1.2.1 p.1.1.2.2), PD K (.tuple (li p.1.2.1)), PD K (.int p.1.2.2)])
  (fun p => PEx (fun rows : List Row => (∀ r ∈ rows, r.Lo p.1.1.2.1) ∧ (rows.length : Int) ≤ p.1.2.2) fun rows => PD K (logD rows))
theorem ok_law_log (T : Txt K mg) : FnOk P w K mg base CX0 3 T.f__law_log T.d__law_log ["_law_h", "_law_drawn", "_law_start_here", "_law_many"] (spLLog K) := by
  refine fn_F T.F__law_log sc__law_log (fun _ => rfl) fun ⟨⟨⟨⟨bx, l⟩, g, b⟩, st, mo⟩, hh, hst, hm⟩ Z0 Z Q X qX hQ => ?_
  obtain ⟨cdv, A, outer, s, E, rfl, hr⟩ := qX
  have hh2 : LowHouse g b := hh
  have hh' : HouseOk g b := hh2.1
  have hst' : st.Sublist (rgI 0 (g.length + 1)) ∧ st ≠ [] := hst
  have hm' : 0 ≤ mo ∧ mo ≤ 900 := hm
  have h9 := hh'.gaps.nine
  have hsl : st.length ≤ 10 := by
    have := hst'.1.length_le
    rw [rgI_len] at this
    omega
  have hsp : 1 ≤ st.length := List.length_pos_iff.mpr hst'.2
  have hln : ((li st).length : Int) = st.length := by simp [li]
  refine xs_parL 4 5 (P := PEx (fun f : Int => 0 ≤ f ∧ f ≤ g.length) fun f => PD K (.int f)) (YE.imp (xe_ixTE (B := fun d => ∃ f, d = .int f ∧ f ∈ st) (xe_var 2) (xe_next T (hr.mono (by decide)) (xe_var 0) (xe_lenT T.z_len (xe_var 2)) (by rw [hln]; omega) (by rw [hln]; omega) (fun _ h => h)) (fun k hk => ixE_li ⟨hk.1, by have := hk.2; rw [hln] at this; exact this⟩)) fun v H h => ?_) (fun q => ?_) sc__law_log.nd
  · obtain ⟨d, ⟨f, rfl, hf⟩, hv⟩ := h
    exact ⟨f, fl_in (hst'.1.subset hf), hv⟩
  refine xs_slot 4 rfl fun f0 hf0 => ?_
  refine xs_swap (xs_forNE 6 (xi_rangeE T.z_range (xe_next T (hr.mono (by decide)) (xe_var 0) (xe_add (xe_var 3) xe_int) (by show 1 ≤ mo + 1; omega) (by show mo + 1 < 1000000; omega) (fun _ h => h)) (fun n hn => by
      obtain ⟨a, c⟩ := hn
      have c' : n < mo + 1 := c
      constructor <;> omega)) (fun t Γ1 Rs1 => ∃ (rows : List Row) (f : Int) (a6 a7 a8 : Option Pd), (∀ r ∈ rows, r.Lo g) ∧ rows.length = t ∧ (0 ≤ f ∧ f ≤ g.length) ∧
      Γ1 = [some (PV (.ref bx)), some (PD K (drawnD g b)), some (PD K (.tuple (li st))), some (PD K (.int mo)), some (PD K (.int f)), some (PV (.ref q)), a6, a7, a8] ∧ Rs1 = [Res.mix bx l, Res.lst Z q ((rows.map rowD).map (PD K))]) ⟨[], f0, none, none, none, (fun r hr => by cases hr), rfl, hf0, rfl, rfl⟩ ?_ ?_ sc__law_log.nd)
  · rintro n hn t Qt Γ1 Rs1 hq ⟨rows, f, a6, a7, a8, hok, hlen, hf, rfl, rfl⟩ Hs
    have htn : t < n.toNat := by
      have := (List.getElem?_eq_some_iff.mp hq).1
      simpa [li, rgI_len] using this
    obtain ⟨hn1, hn2⟩ := hn
    have hn2' : n < mo + 1 := hn2
    refine xs_unpE 7 8 (xe_callM (ok_law_row T) (C := PEx (fun q : Row × Int => q.1.Lo g ∧ 0 ≤ q.2 ∧ q.2 ≤ g.length) fun q => PT2 K (PD K (.tuple q.1.ds)) (PD K (.int q.2))) hr T.g__law_row T.F__law_row.kp T.b__law_row (xa_cons (xe_var 0) (xa_cons (xe_var 1) (xa_1 (xe_var 4)))) (fun vs H h => ⟨⟨(((bx, l), g, b), f), hh2, hf⟩, h, rfl, fun _ h => h, fun a ha => by
      have ha' : a = bx ∨ a = l := ha
      simpa [Res.mix] using ha', fun _ _ h => h⟩)) (fun q1 hq1 => ?_) sc__law_log.nd
    obtain ⟨r, f1⟩ := q1
    obtain ⟨hr1, hf1⟩ := hq1
    have hr1' : r.Lo g := hr1
    have hf1' : 0 ≤ f1 ∧ f1 ≤ g.length := hf1
    refine xs_unpE 7 4 (A := fun q : Row × Int => q.1.Lo g ∧ 0 ≤ q.2 ∧ q.2 ≤ g.length) (P := fun q => PD K (.tuple q.1.ds)) (Q := fun q => PD K (.int q.2)) (xe_ifx (B := fun _ => True) (YT.imp (xt_and (xt_eqS (K := K) (xe_ixT (xe_var 7) xe_int r.k0) xe_str) fun _ => yt_swap (xt_inM (ds := rows.map rowD) hr (xe_tup (K := K) (ds := [.str "gap"]) (xa_1 xe_str) (by simp)) (xe_var 5) (by decide +kernel) (shaped_rows rows))) fun _ _ => True.intro) (fun _ => ?_) fun _ => ?_) (fun q2 hq2 => ?_) sc__law_log.nd
    · refine YE.imp (xe_tupP (K := K) (Ps := [PD K (.tuple [.str "door"]), PD K (.int f)]) (xa_cons (xe_tup (K := K) (ds := [.str "door"]) (xa_1 xe_str) (by simp)) (xa_1 (xe_var 4))) (by simp)) fun v H h => ?_
      exact ⟨(.door, f), ⟨True.intro, hf⟩, PTs.two h⟩
    · refine YE.imp (xe_tupP (K := K) (Ps := [PD K (.tuple r.ds), PD K (.int f1)]) (xa_cons (xe_var 7) (xa_1 (xe_var 8))) (by simp)) fun v H h => ?_
      exact ⟨(r, f1), ⟨hr1', hf1'⟩, PTs.two h⟩
    obtain ⟨r2, f2⟩ := q2
    obtain ⟨hr2, hf2⟩ := hq2
    have hr2' : r2.Lo g := hr2
    refine xs_swap (xs_app (q := q) (P := PD K (rowD r2)) (xe_var 5) (xe_var 7) (by rw [List.length_map, List.length_map]; omega) (xs_swap (xs_turn (fun σ H h => h) ⟨rows ++ [r2], f2, _, _, _, fun r' hr => ?_, by simp [hlen], hf2, rfl, by simp⟩)) (pe_bm PySem.F.plainAttrs_list PySem.F.slot_list_append PySem.F.type_list_append mt_append pe_wp (pa_cons pe_wp pa_nil)))
    rcases List.mem_append.mp hr with h | h
    · exact hok r' h
    · have e : r' = r2 := by simpa using h
      subst e
      exact hr2'
  · rintro n hn Γ1 Rs1 ⟨rows, f, a6, a7, a8, hok, hlen, hf, rfl, rfl⟩
    obtain ⟨hn1, hn2⟩ := hn
    have hn2' : n < mo + 1 := hn2
    have hz : (rows.length : Int) ≤ mo := by
      rw [hlen]
      simp only [li, List.length_map, rgI_len]
      omega
    refine xs_swap (xs_frzK 5 rfl rfl ?_)
    exact xs_ret (xe_var 5) fun v H0 H s k hv => hQ v H0 H s k ⟨rows, ⟨hok, hz⟩, hv⟩
end
end K42
namespace K42
open PySem L2 Lh
/-- the floor in whose share the number lies, and what is left of the number -/
def pickM : List Int → List Int → Int → Int × Int
  | [], _, i => (0, i)
  | f :: fs, v, i => if gtI v f ≤ i then pickM fs v (i - gtI v f) else (f, i)
theorem sumAt_cons (v : List Int) (f : Int) (fs : List Int) : sumAt v (f :: fs) = gtI v f + sumAt v fs := by
  simp [sumAt]
theorem pickM_ok {v : List Int} : ∀ {fl : List Int} {i : Int}, 0 ≤ i → i < sumAt v fl → (pickM fl v i).1 ∈ fl ∧ 0 ≤ (pickM fl v i).2 ∧ (pickM fl v i).2 < gtI v (pickM fl v i).1
  | [], i, h0, h1 => by
    have : sumAt v [] = 0 := rfl
    omega
  | f :: fs, i, h0, h1 => by
    rw [sumAt_cons] at h1
    unfold pickM
    split
    · obtain ⟨a, b⟩ := pickM_ok (v := v) (fl := fs) (i := i - gtI v f) (by omega) (by omega)
      exact ⟨List.mem_cons_of_mem _ a, b⟩
    · have h : i < gtI v f := by omega
      exact ⟨List.mem_cons_self, h0, h⟩
abbrev rowAt (l : List (List Int)) (f : Int) : List Int := l.getD f.toNat []
/-- the way with a number, floor by floor -/
def wayM (n : Nat) : List (List (List Int)) → Int → Int → List Int
  | [], _, _ => []
  | l :: ls, f, i => (pickM (rowAt l f) ((numsM n ls).headD []) i).1 :: wayM n ls (pickM (rowAt l f) ((numsM n ls).headD []) i).1 (pickM (rowAt l f) ((numsM n ls).headD []) i).2
def numberedM (n : Nat) (st : List Int) (ls : List (List (List Int))) (i : Int) : List Int :=
  (pickM st ((numsM n ls).headD []) i).1 :: wayM n ls (pickM st ((numsM n ls).headD []) i).1 (pickM st ((numsM n ls).headD []) i).2
theorem stepM_at {l : List (List Int)} {beh : List Int} {f : Int} (h0 : 0 ≤ f) (h1 : f < l.length) : gtI (stepM l beh) f = sumAt beh (rowAt l f) := by
  have h : f.toNat < l.length := by omega
  unfold gtI stepM rowAt
  simp [h]
theorem numsM_at (n : Nat) : ∀ (ls : List (List (List Int))) (k : Nat), k ≤ ls.length → (numsM n ls)[k]? = some ((numsM n (ls.drop k)).headD [])
  | [], k, h => by
    have : k = 0 := by simpa using h
    subst this
    rfl
  | l :: ls, 0, _ => rfl
  | l :: ls, k + 1, h => by
    show (numsM n ls)[k]? = _
    rw [numsM_at n ls k (by simpa using h)]
    rfl
theorem rowAt_ok {n : Nat} {ls : List (List (List Int))} (h : LinksOk n ls) {l : List (List Int)} (hl : l ∈ ls) {f : Int} (h0 : 0 ≤ f) (h1 : f < n) : rowAt l f ∈ l := by
  have := h.wide l hl
  have h : f.toNat < l.length := by omega
  unfold rowAt
  rw [List.getD_eq_getElem?_getD, List.getElem?_eq_getElem h]
  exact List.getElem_mem h
theorem atI_row {l : List (List Int)} {f : Int} (h0 : 0 ≤ f) (h1 : f < l.length) : atI (l.map eL) f = some (eL (rowAt l f)) := by
  have hlt : f.toNat < l.length := by omega
  have e : f = (f.toNat : Int) := by omega
  have q : (l.map eL)[f.toNat]? = some (eL (rowAt l f)) := by simp [rowAt, hlt]
  have r := atI_nat q
  rw [← e] at r
  exact r
section
variable {K : PySem.W.Frag} {mg : Str → Option Value} {base : Heap} {P : Program} {w : World}
abbrev spNumberFrom (K : PySem.W.Frag) : Sp := SpP (α := { p : List Int × List Int × List (List Int) // p.1.length ≤ 1000 ∧ ∀ x ∈ p.1, 0 ≤ x ∧ x < p.2.1.length }) (fun p => [PD K (.tuple (li p.1.1)), PD K (eLL (p.1.2.1 :: p.1.2.2))]) (fun p => PD K (.int (sumAt p.1.2.1 p.1.1)))
abbrev spPicked (K : PySem.W.Frag) : Sp := SpP (α := { p : List Int × List Int × Int // (∀ x ∈ p.1, 0 ≤ x ∧ x < p.2.1.length) ∧ 0 ≤ p.2.2 ∧ p.2.2 < sumAt p.2.1 p.1 }) (fun p => [PSeq K (li p.1.1), PD K (eL p.1.2.1), PD K (.int p.1.2.2)]) (fun p => PD K (.tuple [.int (pickM p.1.1 p.1.2.1 p.1.2.2).1, .int (pickM p.1.1 p.1.2.1 p.1.2.2).2]))
abbrev spNumbered (K : PySem.W.Frag) (n : Nat) : Sp := SpP (α := { p : List Int × List (List (List Int)) × Int // LinksOk n p.2.1 ∧ (∀ x ∈ p.1, 0 ≤ x ∧ x < (n : Int)) ∧ 0 ≤ p.2.2 ∧ p.2.2 < sumAt ((numsM n p.2.1).headD []) p.1 }) (fun p => [PD K (.tuple (li p.1.1)), PD K (eLLL p.1.2.1), PD K (eLL (numsM n p.1.2.1)), PD K (.int p.1.2.2)]) (fun p => PD K (.tuple (li (numberedM n p.1.1 p.1.2.1 p.1.2.2))))
end
end K42
namespace K42
open PySem L2 Lh
structure HearOk (g : List Int) (st : List Int) (rows : List Row) : Prop where
  nine : g.length ≤ 9
  start : ∀ x ∈ st, 0 ≤ x ∧ x ≤ g.length
  size : st.length ≤ 1000
  log : ∀ r ∈ rows, r.Ok g
  rows : rows.length ≤ 1000
def headM (g b : List Int) (rows : List Row) : List Int := (numsM (g.length + 1) (linksM g b rows)).headD []
def countM (g b st : List Int) (rows : List Row) : Int := sumAt (headM g b rows) st
def atM (g b st : List Int) (rows : List Row) (i : Int) : List Int := numberedM (g.length + 1) st (linksM g b rows) i
theorem headM_len {g b : List Int} {rows : List Row} (h : rows.length ≤ 1000) : (headM g b rows).length = g.length + 1 := head_wide (linksM_ok h).wide
section
variable {K : PySem.W.Frag} {mg : Str → Option Value} {base : Heap} {P : Program} {w : World}
abbrev spCount (K : PySem.W.Frag) (C : Addr) : Sp := SpP (α := { p : (List Int × List Int) × List Int × List Row // HearOk p.1.1 p.2.1 p.2.2 }) (fun p => [PHo K C p.1.1.1 p.1.1.2, PD K (.tuple (li p.1.2.1)), PD K (logD p.1.2.2)]) (fun p => PD K (.int (countM p.1.1.1 p.1.1.2 p.1.2.1 p.1.2.2)))
abbrev spAt (K : PySem.W.Frag) (C : Addr) : Sp := SpP (α := { p : (List Int × List Int) × (List Int × List Row) × Int // HearOk p.1.1 p.2.1.1 p.2.1.2 ∧ 0 ≤ p.2.2 ∧ p.2.2 < countM p.1.1 p.1.2 p.2.1.1 p.2.1.2 }) (fun p => [PHo K C p.1.1.1 p.1.1.2, PD K (.tuple (li p.1.2.1.1)), PD K (logD p.1.2.1.2), PD K (.int p.1.2.2)]) (fun p => PD K (.tuple (li (atM p.1.1.1 p.1.1.2 p.1.2.1.1 p.1.2.1.2 p.1.2.2))))
end
end K42
namespace K42
open PySem L2 Lh
/-- the floors behind a row, from some floors -/
def behR (g b : List Int) (r : Row) (fl : List Int) : List Int := (rgI 0 (g.length + 1)).filter fun o => fl.any fun f => decide (o ∈ nextF g b r f)
def behM (g b : List Int) (rows : List Row) (fl : List Int) : List Int := rows.foldl (fun fl r => behR g b r fl) fl
theorem behR_in {g b : List Int} {r : Row} {fl : List Int} : ∀ x ∈ behR g b r fl, 0 ≤ x ∧ x ≤ g.length := fun x hx => fl_in (List.mem_filter.mp hx).1
theorem behR_len {g b : List Int} {r : Row} {fl : List Int} : (behR g b r fl).length ≤ g.length + 1 := by
  have := List.length_filter_le (fun o => fl.any fun f => decide (o ∈ nextF g b r f)) (rgI 0 (g.length + 1))
  rw [rgI_len] at this
  exact this
theorem behM_take {g b : List Int} {rows : List Row} {fl : List Int} {t : Nat} {r : Row} (h : rows[t]? = some r) : behM g b (rows.take (t + 1)) fl = behR g b r (behM g b (rows.take t) fl) := by
  unfold behM
  rw [List.take_add_one, h]
  simp
section
variable {K : PySem.W.Frag} {mg : Str → Option Value} {base : Heap} {P : Program} {w : World}
abbrev spBehR (K : PySem.W.Frag) (C : Addr) : Sp := SpP (α := { p : (List Int × List Int) × Row × List Int // p.1.1.length ≤ 9 ∧ p.2.2.length ≤ 1000 ∧ ∀ x ∈ p.2.2, 0 ≤ x ∧ x ≤ p.1.1.length }) (fun p => [PHo K C p.1.1.1 p.1.1.2, PD K (rowD p.1.2.1), PD K (eL p.1.2.2)]) (fun p => PD K (eL (behR p.1.1.1 p.1.1.2 p.1.2.1 p.1.2.2)))
abbrev spBeh (K : PySem.W.Frag) (C : Addr) : Sp := SpP (α := { p : (List Int × List Int) × List Int × List Row // HearOk p.1.1 p.2.1 p.2.2 }) (fun p => [PHo K C p.1.1.1 p.1.1.2, PD K (.tuple (li p.1.2.1)), PD K (logD p.1.2.2)]) (fun p => PD K (eL (behM p.1.1.1 p.1.1.2 p.1.2.2 p.1.2.1)))
/-- what the floors are on the way -/
theorem behM_ok {g b st : List Int} {rows : List Row} (hk : HearOk g st rows) : ∀ t, (behM g b (rows.take t) st).length ≤ 1000 ∧ ∀ x ∈ behM g b (rows.take t) st, 0 ≤ x ∧ x ≤ g.length
  | 0 => ⟨hk.size, hk.start⟩
  | t + 1 => by
    cases h : rows[t]? with
    | none =>
      have e : rows.take (t + 1) = rows.take t := by
        rw [List.take_add_one, h]
        simp
      rw [e]
      exact behM_ok hk t
    | some r =>
      rw [behM_take h]
      exact ⟨by have := behR_len (g := g) (b := b) (r := r) (fl := behM g b (rows.take t) st); have := hk.nine; omega, behR_in⟩
end
end K42
namespace K42
open PySem L2 Lh
theorem gtI_nn {v : List Int} (h : ∀ x ∈ v, 0 ≤ x) (i : Int) : 0 ≤ gtI v i := by
  unfold gtI
  rw [List.getD_eq_getElem?_getD]
  cases e : v[i.toNat]? with
  | none => simp
  | some x => exact h x (List.mem_of_getElem? e)
theorem sum_nn : ∀ {l : List Int}, (∀ x ∈ l, 0 ≤ x) → 0 ≤ l.sum
  | [], _ => by simp
  | x :: l, h => by
    have h1 := h x List.mem_cons_self
    have h2 := sum_nn (l := l) fun y hy => h y (List.mem_cons_of_mem _ hy)
    rw [List.sum_cons]
    omega
theorem sumAt_nn {v : List Int} (h : ∀ x ∈ v, 0 ≤ x) (fl : List Int) : 0 ≤ sumAt v fl := sum_nn fun x hx => by
  obtain ⟨f, _, rfl⟩ := List.mem_map.mp hx
  exact gtI_nn h f
theorem rowAt_map {n : Nat} (h : Int → List Int) {f : Int} (h0 : 0 ≤ f) (h1 : f < n) : rowAt ((rgI 0 n).map h) f = h f := by
  have hlt : f.toNat < n := by omega
  have e : max f 0 = f := by omega
  unfold rowAt rgI
  simp [hlt, h0, e]
theorem headM_cons {g b : List Int} {r : Row} {rs : List Row} : headM g b (r :: rs) = stepM ((rgI 0 (g.length + 1)).map fun f => nextF g b r f) (headM g b rs) := rfl
theorem headM_at {g b : List Int} {r : Row} {rs : List Row} {f : Int} (h0 : 0 ≤ f) (h1 : f ≤ g.length) : gtI (headM g b (r :: rs)) f = sumAt (headM g b rs) (nextF g b r f) := by
  rw [headM_cons, stepM_at h0 (by rw [List.length_map, rgI_len]; omega), rowAt_map _ h0 (by omega)]
theorem headM_nn {g b : List Int} : ∀ rows, ∀ x ∈ headM g b rows, 0 ≤ x
  | [], x, hx => by
    have := List.eq_of_mem_replicate (show x ∈ List.replicate (g.length + 1) (1 : Int) from hx)
    omega
  | r :: rs, x, hx => by
    rw [headM_cons] at hx
    obtain ⟨es, _, rfl⟩ := List.mem_map.mp hx
    exact sumAt_nn (headM_nn rs) es
theorem headM_nil_at {g b : List Int} {f : Int} (h0 : 0 ≤ f) (h1 : f ≤ g.length) : gtI (headM g b []) f = 1 := by
  have hlt : f.toNat < g.length + 1 := by omega
  show gtI (List.replicate (g.length + 1) 1) f = 1
  unfold gtI
  simp [hlt]
theorem nextF_sub {g b : List Int} {r : Row} {f : Int} (hf : 0 ≤ f ∧ f ≤ g.length) : (nextF g b r f).Sublist (rgI 0 (g.length + 1)) := by
  have hm : f ∈ rgI 0 (g.length + 1) := mem_rgI.mpr (by omega)
  have h1 : [f].Sublist (rgI 0 (g.length + 1)) := List.singleton_sublist.mpr hm
  cases r with
  | go s => exact List.filter_sublist
  | gap => exact List.Sublist.refl _
  | door => exact h1
  | bell u =>
    show (if decide (f ∈ b) = u then [f] else []).Sublist _
    split
    · exact h1
    · exact List.nil_sublist _
  | look l =>
    show (if f ∈ l then [f] else []).Sublist _
    split
    · exact h1
    · exact List.nil_sublist _
theorem nextF_up {g b : List Int} {r : Row} {f : Int} (hf : 0 ≤ f ∧ f ≤ g.length) : (nextF g b r f).Pairwise (· < ·) := (rgI_up _).sublist (nextF_sub hf)
theorem filter_of_sub : ∀ {s l : List Int}, s.Sublist l → l.Nodup → l.filter (fun x => decide (x ∈ s)) = s
  | _, _, .slnil, _ => rfl
  | s, x :: l, .cons _ h, nd => by
    obtain ⟨h1, h2⟩ := List.nodup_cons.mp nd
    have : x ∉ s := fun hx => h1 (h.subset hx)
    rw [List.filter_cons, if_neg (by simpa using this)]
    exact filter_of_sub h h2
  | x :: s, _ :: l, .cons₂ _ h, nd => by
    obtain ⟨h1, h2⟩ := List.nodup_cons.mp nd
    rw [List.filter_cons, if_pos (by simp)]
    congr 1
    have e : l.filter (fun y => decide (y ∈ x :: s)) = l.filter (fun y => decide (y ∈ s)) := by
      refine List.filter_congr fun y hy => ?_
      have : y ≠ x := fun e => h1 (e ▸ hy)
      simp [this]
    rw [e]
    exact filter_of_sub h h2
theorem sum_bits (S : Int → Int) (p : Int → Bool) : ∀ l : List Int, (l.map fun m => b2n (p m) * S m).sum = ((l.filter p).map S).sum
  | [] => rfl
  | x :: l => by
    rw [List.map_cons, List.sum_cons, sum_bits S p l, List.filter_cons]
    cases p x with
    | true =>
      rw [if_pos rfl, List.map_cons, List.sum_cons]
      show (1 : Int) * S x + _ = _
      omega
    | false =>
      rw [if_neg (by simp)]
      show (0 : Int) * S x + _ = _
      omega
theorem sum_add (f h : Int → Int) : ∀ l : List Int, (l.map fun x => f x + h x).sum = (l.map f).sum + (l.map h).sum
  | [] => rfl
  | x :: l => by
    rw [List.map_cons, List.map_cons, List.map_cons, List.sum_cons, List.sum_cons, List.sum_cons, sum_add f h l]
    omega
theorem sum_mul (c : Int) (f : Int → Int) : ∀ l : List Int, (l.map fun x => c * f x).sum = c * (l.map f).sum
  | [] => by simp
  | x :: l => by
    rw [List.map_cons, List.map_cons, List.sum_cons, List.sum_cons, sum_mul c f l, Int.mul_add]
theorem sum_zero : ∀ l : List Int, (l.map fun _ => (0 : Int)).sum = 0
  | [] => rfl
  | x :: l => by
    rw [List.map_cons, List.sum_cons, sum_zero l]
    rfl
theorem sum_swap (c : Int → Int) (d : Int → Int → Int) (ks : List Int) : ∀ ms : List Int, (ks.map fun k => (ms.map fun m => c m * d m k).sum).sum = (ms.map fun m => c m * (ks.map (d m)).sum).sum
  | [] => sum_zero ks
  | m :: ms => by
    have e : (ks.map fun k => ((m :: ms).map fun m => c m * d m k).sum) = ks.map fun k => c m * d m k + (ms.map fun m => c m * d m k).sum := by
      refine List.map_congr_left fun k _ => ?_
      rw [List.map_cons, List.sum_cons]
    rw [e, sum_add (fun k => c m * d m k), sum_mul, sum_swap c d ks ms, List.map_cons, List.sum_cons]
/-! ### the number of a way -/
def before (v fl : List Int) (f : Int) : Int := ((fl.filter fun x => decide (x < f)).map (gtI v)).sum
theorem before_nn {v : List Int} (hv : ∀ x ∈ v, 0 ≤ x) (fl : List Int) (f : Int) : 0 ≤ before v fl f := sumAt_nn hv _
theorem before_cons_lt {v fl : List Int} {x f : Int} (h : x < f) : before v (x :: fl) f = gtI v x + before v fl f := by
  unfold before
  rw [List.filter_cons, if_pos (decide_eq_true h), List.map_cons, List.sum_cons]
theorem before_ge {v : List Int} {f : Int} : ∀ {fl : List Int}, (∀ x ∈ fl, f ≤ x) → before v fl f = 0
  | [], _ => rfl
  | x :: fl, h => by
    have h1 := h x List.mem_cons_self
    unfold before
    rw [List.filter_cons, if_neg (by simp; omega)]
    exact before_ge fun y hy => h y (List.mem_cons_of_mem _ hy)
theorem pick_at {v : List Int} (hv : ∀ x ∈ v, 0 ≤ x) : ∀ {fl : List Int} {f i : Int}, fl.Pairwise (· < ·) → f ∈ fl → 0 ≤ i → i < gtI v f → pickM fl v (before v fl f + i) = (f, i) ∧ before v fl f + gtI v f ≤ sumAt v fl
  | [], f, i, _, hf, _, _ => by cases hf
  | x :: fl, f, i, hp, hf, h0, h1 => by
    obtain ⟨hp1, hp2⟩ := List.pairwise_cons.mp hp
    rcases List.mem_cons.mp hf with e | hf
    · subst e
      have hb : before v (f :: fl) f = 0 := before_ge fun y hy => by
        rcases List.mem_cons.mp hy with e | hy
        · omega
        · have := hp1 y hy
          omega
      have := sumAt_nn hv fl
      rw [hb, sumAt_cons]
      refine ⟨?_, by omega⟩
      show (if gtI v f ≤ 0 + i then _ else _) = _
      rw [if_neg (by omega)]
      congr 1
      omega
    · have hx := hp1 f hf
      obtain ⟨q1, q2⟩ := pick_at hv hp2 hf h0 h1
      have hb := before_nn hv fl f
      rw [before_cons_lt hx, sumAt_cons]
      refine ⟨?_, by omega⟩
      show (if gtI v x ≤ gtI v x + before v fl f + i then pickM fl v (gtI v x + before v fl f + i - gtI v x) else _) = _
      rw [if_pos (by omega), show gtI v x + before v fl f + i - gtI v x = before v fl f + i by omega]
      exact q1
theorem pick_next {v : List Int} : ∀ {fl : List Int} {i : Int}, fl.Pairwise (· < ·) → 0 ≤ i → i + 1 < sumAt v fl → ((pickM fl v (i + 1)).1 = (pickM fl v i).1 ∧ (pickM fl v (i + 1)).2 = (pickM fl v i).2 + 1) ∨ (pickM fl v i).1 < (pickM fl v (i + 1)).1
  | [], i, _, h0, h1 => by
    have : sumAt v [] = 0 := rfl
    omega
  | x :: fl, i, hp, h0, h1 => by
    obtain ⟨hp1, hp2⟩ := List.pairwise_cons.mp hp
    rw [sumAt_cons] at h1
    have e : ∀ j, pickM (x :: fl) v j = if gtI v x ≤ j then pickM fl v (j - gtI v x) else (x, j) := fun j => rfl
    rw [e, e]
    by_cases c : gtI v x ≤ i
    · rw [if_pos c, if_pos (by omega), show i + 1 - gtI v x = i - gtI v x + 1 by omega]
      exact pick_next hp2 (by omega) (by omega)
    · rw [if_neg c]
      by_cases c2 : gtI v x ≤ i + 1
      · rw [if_pos c2]
        refine .inr (hp1 _ (pickM_ok (v := v) (fl := fl) (i := i + 1 - gtI v x) (by omega) (by omega)).1)
      · rw [if_neg c2]
        exact .inl ⟨rfl, rfl⟩
theorem LexGt.cons {a : Int} {p q : List Int} (h : LexGt p q) : LexGt (a :: p) (a :: q) := by
  obtain ⟨j, h1, h2, h3, h4⟩ := h
  refine ⟨j + 1, by simpa using h1, by simpa using h2, fun i hi => ?_, by simpa using h4⟩
  cases i with
  | zero => rfl
  | succ i => simpa using h3 i (by omega)
theorem LexGt.head {a c : Int} {p q : List Int} (h : c < a) : LexGt (a :: p) (c :: q) := ⟨0, by simp, by simp, fun i hi => by omega, by simpa using h⟩
theorem wayM_cons {g b : List Int} {r : Row} {rs : List Row} {f j : Int} (h0 : 0 ≤ f) (h1 : f ≤ g.length) : wayM (g.length + 1) (linksM g b (r :: rs)) f j = (pickM (nextF g b r f) (headM g b rs) j).1 :: wayM (g.length + 1) (linksM g b rs) (pickM (nextF g b r f) (headM g b rs) j).1 (pickM (nextF g b r f) (headM g b rs) j).2 := by
  have e : rowAt ((rgI 0 (g.length + 1)).map fun f => nextF g b r f) f = nextF g b r f := rowAt_map _ h0 (by omega)
  show (pickM (rowAt ((rgI 0 (g.length + 1)).map fun f => nextF g b r f) f) (headM g b rs) j).1 :: _ = _
  rw [← e]
  rfl
theorem way_next {g b : List Int} : ∀ (rows : List Row) {f j : Int}, 0 ≤ f → f ≤ g.length → 0 ≤ j → j + 1 < gtI (headM g b rows) f → LexGt (wayM (g.length + 1) (linksM g b rows) f (j + 1)) (wayM (g.length + 1) (linksM g b rows) f j)
  | [], f, j, h0, h1, h2, h3 => by
    rw [headM_nil_at h0 h1] at h3
    omega
  | r :: rs, f, j, h0, h1, h2, h3 => by
    rw [headM_at h0 h1] at h3
    rw [wayM_cons h0 h1, wayM_cons h0 h1]
    have up := nextF_up (b := b) (r := r) ⟨h0, h1⟩
    have k1 := pickM_ok (v := headM g b rs) (fl := nextF g b r f) (i := j + 1) (by omega) h3
    rcases pick_next up h2 h3 with ⟨e1, e2⟩ | h
    · rw [e1, e2]
      have hr := nextF_in ⟨h0, h1⟩ k1.1
      rw [e1] at k1 hr
      rw [e2] at k1
      have k0 := pickM_ok (v := headM g b rs) (fl := nextF g b r f) (i := j) h2 (by omega)
      exact LexGt.cons (way_next rs hr.1 hr.2 k0.2.1 k1.2.2)
    · exact LexGt.head h
theorem at_next {g b st : List Int} {rows : List Row} (hs : st.Pairwise (· < ·)) (hr : ∀ x ∈ st, 0 ≤ x ∧ x ≤ g.length) {i : Int} (h0 : 0 ≤ i) (h1 : i + 1 < countM g b st rows) : LexGt (atM g b st rows (i + 1)) (atM g b st rows i) := by
  have h1' : i + 1 < sumAt (headM g b rows) st := h1
  have e : ∀ j, atM g b st rows j = (pickM st (headM g b rows) j).1 :: wayM (g.length + 1) (linksM g b rows) (pickM st (headM g b rows) j).1 (pickM st (headM g b rows) j).2 := fun j => rfl
  rw [e, e]
  have k1 := pickM_ok (v := headM g b rows) (fl := st) (i := i + 1) (by omega) h1'
  rcases pick_next hs h0 h1' with ⟨e1, e2⟩ | h
  · rw [e1, e2]
    have q := hr _ k1.1
    rw [e1] at k1 q
    rw [e2] at k1
    have k0 := pickM_ok (v := headM g b rows) (fl := st) (i := i) h0 (by omega)
    exact LexGt.cons (way_next rows q.1 q.2 k0.2.1 k1.2.2)
  · exact LexGt.head h
/-- what is known of a way that is drawn: its number so far -/
structure Trail (g b st : List Int) (rows : List Row) (t : Nat) (way : List Int) (w N : Int) : Prop where
  len : way.length = t + 1
  last : way.getLast? = some w
  rng : 0 ≤ w ∧ w ≤ g.length
  nn : 0 ≤ N
  pos : 0 < gtI (headM g b (rows.drop t)) w
  top : N + gtI (headM g b (rows.drop t)) w ≤ countM g b st rows
  num : ∀ i, 0 ≤ i → i < gtI (headM g b (rows.drop t)) w → atM g b st rows (N + i) = way ++ wayM (g.length + 1) (linksM g b (rows.drop t)) w i
theorem Trail.start {g b st : List Int} {rows : List Row} (hs : st.Pairwise (· < ·)) (hr : ∀ x ∈ st, 0 ≤ x ∧ x ≤ g.length) {w : Int} (hw : w ∈ st) (hp : 0 < gtI (headM g b rows) w) : Trail g b st rows 0 [w] w (before (headM g b rows) st w) where
  len := rfl
  last := rfl
  rng := hr w hw
  nn := before_nn (headM_nn rows) st w
  pos := hp
  top := (pick_at (headM_nn rows) hs hw (Int.le_refl 0) hp).2
  num := fun i h0 h1 => by
    have k := (pick_at (headM_nn rows) hs hw h0 h1).1
    show (pickM st (headM g b rows) (before (headM g b rows) st w + i)).1 :: wayM (g.length + 1) (linksM g b rows) (pickM st (headM g b rows) (before (headM g b rows) st w + i)).1 (pickM st (headM g b rows) (before (headM g b rows) st w + i)).2 = _
    rw [k]
    rfl
theorem Trail.step {g b st : List Int} {rows : List Row} {t : Nat} {way : List Int} {w N : Int} (T : Trail g b st rows t way w N) {r : Row} (hr : rows[t]? = some r) {x : Int} (hx : x ∈ nextF g b r w) (hp : 0 < gtI (headM g b (rows.drop (t + 1))) x) :
    Trail g b st rows (t + 1) (way ++ [x]) x (N + before (headM g b (rows.drop (t + 1))) (nextF g b r w) x) := by
  have hlt : t < rows.length := (List.getElem?_eq_some_iff.mp hr).1
  have hd : rows.drop t = r :: rows.drop (t + 1) := by
    rw [List.drop_eq_getElem_cons hlt]
    rw [List.getElem?_eq_getElem hlt] at hr
    rw [Option.some.inj hr]
  have hw := T.rng
  have up := nextF_up (b := b) (r := r) hw
  have hS : gtI (headM g b (rows.drop t)) w = sumAt (headM g b (rows.drop (t + 1))) (nextF g b r w) := by
    rw [hd, headM_at hw.1 hw.2]
  have nnv := headM_nn (g := g) (b := b) (rows.drop (t + 1))
  have hb := before_nn nnv (nextF g b r w) x
  have hk := (pick_at nnv up hx (Int.le_refl 0) hp).2
  refine ⟨by rw [List.length_append, T.len]; rfl, by simp, nextF_in hw hx, by have := T.nn; omega, hp, ?_, fun i h0 h1 => ?_⟩
  · have := T.top
    omega
  · have k := (pick_at nnv up hx h0 h1).1
    have q := T.num (before (headM g b (rows.drop (t + 1))) (nextF g b r w) x + i) (by omega) (by rw [hS]; omega)
    rw [hd, wayM_cons hw.1 hw.2, k] at q
    rw [Int.add_assoc, q, List.append_assoc]
    rfl
/-- those with no way left do not count -/
theorem before_some {v : List Int} (hv : ∀ x ∈ v, 0 ≤ x) (f : Int) : ∀ fl : List Int, before v (fl.filter fun x => decide (0 < gtI v x)) f = before v fl f
  | [] => rfl
  | x :: fl => by
    have ih := before_some hv f fl
    have hx := gtI_nn hv x
    rw [List.filter_cons]
    by_cases c : 0 < gtI v x
    · rw [if_pos (decide_eq_true c)]
      unfold before at ih ⊢
      rw [List.filter_cons, List.filter_cons]
      by_cases d : x < f
      · rw [if_pos (decide_eq_true d), if_pos (decide_eq_true d), List.map_cons, List.map_cons, List.sum_cons, List.sum_cons, ih]
      · rw [if_neg (by simpa using d), if_neg (by simpa using d), ih]
    · rw [if_neg (by simpa using c), ih]
      unfold before
      rw [List.filter_cons]
      by_cases d : x < f
      · rw [if_pos (decide_eq_true d), List.map_cons, List.sum_cons]
        omega
      · rw [if_neg (by simpa using d)]
theorem some_pos {v : List Int} : ∀ {fl : List Int}, 0 < sumAt v fl → fl.filter (fun x => decide (0 < gtI v x)) ≠ []
  | [], h, _ => by
    have : sumAt v [] = 0 := rfl
    omega
  | x :: fl, h, e => by
    rw [sumAt_cons] at h
    rw [List.filter_cons] at e
    by_cases c : 0 < gtI v x
    · rw [if_pos (decide_eq_true c)] at e
      cases e
    · rw [if_neg (by simpa using c)] at e
      exact some_pos (fl := fl) (by omega) e
end K42
namespace K42
open PySem L2 Lh
/-- the ways of a log from a floor -/
abbrev S (g b : List Int) (rows : List Row) (f : Int) : Int := gtI (headM g b rows) f
theorem sum_swap2 (a : Int → Int → Int) (c : Int → Int) (ms : List Int) : ∀ ls : List Int, (ls.map fun o => (ms.map fun m => a o m * c m).sum).sum = (ms.map fun m => (ls.map fun o => a o m).sum * c m).sum
  | [] => by
    have e : (ms.map fun m => (([] : List Int).map fun o => a o m).sum * c m) = ms.map fun _ => (0 : Int) := List.map_congr_left fun m _ => by simp
    rw [e, sum_zero]
    rfl
  | o :: ls => by
    rw [List.map_cons, List.sum_cons, sum_swap2 a c ms ls]
    have e : (ms.map fun m => ((o :: ls).map fun o => a o m).sum * c m) = ms.map fun m => a o m * c m + (ls.map fun o => a o m).sum * c m := List.map_congr_left fun m _ => by
      rw [List.map_cons, List.sum_cons, Int.add_mul]
    rw [e, sum_add (fun m => a o m * c m)]
theorem pick_one (c : Int → Int) {m : Int} : ∀ {l : List Int}, l.Nodup → m ∈ l → (l.map fun x => (if m = x then (1 : Int) else 0) * c x).sum = c m
  | [], _, h => by cases h
  | x :: l, nd, h => by
    obtain ⟨h1, h2⟩ := List.nodup_cons.mp nd
    rw [List.map_cons, List.sum_cons]
    by_cases e : m = x
    · subst e
      have z : (l.map fun x => (if m = x then (1 : Int) else 0) * c x) = l.map fun _ => (0 : Int) := List.map_congr_left fun y hy => by
        have : ¬ m = y := fun e => h1 (e ▸ hy)
        simp [this]
      rw [z, sum_zero, if_pos rfl]
      omega
    · rw [if_neg e, pick_one c h2 ((List.mem_cons.mp h).resolve_left e)]
      omega
/-- to look at one floor only -/
theorem S_look {g b : List Int} {m f : Int} (hf : 0 ≤ f ∧ f ≤ g.length) : S g b [.look [m]] f = if f = m then 1 else 0 := by
  show gtI (headM g b [.look [m]]) f = _
  rw [headM_at hf.1 hf.2]
  by_cases e : f = m
  · subst e
    have : nextF g b (.look [f]) f = [f] := by
      show (if f ∈ [f] then [f] else []) = _
      simp
    rw [this, if_pos rfl]
    show (([f] : List Int).map fun x => gtI (headM g b []) x).sum = 1
    simp only [List.map_cons, List.map_nil, List.sum_cons, List.sum_nil]
    rw [headM_nil_at hf.1 hf.2]
    rfl
  · have : nextF g b (.look [m]) f = [] := by
      show (if f ∈ [m] then [f] else []) = _
      simp [e]
    rw [this, if_neg e]
    rfl
/-- a log in two parts, by the floor between -/
theorem S_parts {g b : List Int} {other : List Row} : ∀ (one : List Row) {f : Int}, 0 ≤ f ∧ f ≤ g.length → S g b (one ++ other) f = ((rgI 0 (g.length + 1)).map fun m => S g b (one ++ [.look [m]]) f * S g b other m).sum
  | [], f, hf => by
    have e : ((rgI 0 (g.length + 1)).map fun m => S g b ([] ++ [.look [m]]) f * S g b other m) = (rgI 0 (g.length + 1)).map fun m => (if f = m then (1 : Int) else 0) * S g b other m := List.map_congr_left fun m _ => by
      show S g b [.look [m]] f * S g b other m = _
      rw [S_look hf]
    rw [e, pick_one (S g b other) ((rgI_up _).imp fun h e => by omega) (mem_rgI.mpr (by omega))]
    rfl
  | r :: one, f, hf => by
    show gtI (headM g b (r :: (one ++ other))) f = _
    rw [headM_at hf.1 hf.2]
    have e : ((nextF g b r f).map fun o => S g b (one ++ other) o) = (nextF g b r f).map fun o => ((rgI 0 (g.length + 1)).map fun m => S g b (one ++ [.look [m]]) o * S g b other m).sum := List.map_congr_left fun o ho => S_parts one (nextF_in hf ho)
    show ((nextF g b r f).map fun o => S g b (one ++ other) o).sum = _
    rw [e, sum_swap2]
    congr 1
    refine List.map_congr_left fun m _ => ?_
    have e2 : S g b (r :: one ++ [.look [m]]) f = ((nextF g b r f).map fun o => S g b (one ++ [.look [m]]) o).sum := by
      show gtI (headM g b (r :: (one ++ [.look [m]]))) f = _
      rw [headM_at hf.1 hf.2]
      rfl
    rw [e2]
theorem count_parts {g b st : List Int} {one other : List Row} (hs : ∀ x ∈ st, 0 ≤ x ∧ x ≤ g.length) : countM g b st (one ++ other) = ((rgI 0 (g.length + 1)).map fun m => countM g b st (one ++ [.look [m]]) * countM g b [m] other).sum := by
  have e : (st.map fun f => S g b (one ++ other) f) = st.map fun f => ((rgI 0 (g.length + 1)).map fun m => S g b (one ++ [.look [m]]) f * S g b other m).sum := List.map_congr_left fun f hf => S_parts one (hs f hf)
  show (st.map fun f => S g b (one ++ other) f).sum = _
  rw [e, sum_swap2]
  congr 1
  refine List.map_congr_left fun m _ => ?_
  have e2 : countM g b [m] other = S g b other m := by
    show (([m] : List Int).map fun f => S g b other f).sum = _
    simp
  rw [e2]
  rfl
end K42
namespace K42
open PySem L2 Lh
theorem far_comm (g : List Int) (i j : Int) : far g i j = far g j i := by
  unfold far
  rw [Int.min_comm, Int.max_comm]
theorem one_iff {P : Prop} [Decidable P] {o f : Int} : o ∈ (if P then [f] else []) ↔ o = f ∧ P := by
  by_cases h : P
  · rw [if_pos h]
    simp [h]
  · rw [if_neg h]
    simp [h]
theorem next_sym {g b : List Int} {r : Row} {f o : Int} (hf : 0 ≤ f ∧ f ≤ g.length) (ho : o ∈ nextF g b r f) : f ∈ nextF g b r o := by
  have hfm : f ∈ rgI 0 (g.length + 1) := mem_rgI.mpr (by omega)
  cases r with
  | go s =>
    obtain ⟨h1, h2⟩ := List.mem_filter.mp (show o ∈ (rgI 0 (g.length + 1)).filter fun o => decide (far g f o = s) from ho)
    refine List.mem_filter.mpr ⟨hfm, ?_⟩
    have h3 : far g f o = s := of_decide_eq_true h2
    show decide (far g o f = s) = true
    rw [far_comm, h3]
    simp
  | gap => exact hfm
  | door =>
    have e : o = f := by simpa [nextF] using ho
    subst e
    exact ho
  | bell u =>
    obtain ⟨e, h⟩ := one_iff.mp (show o ∈ (if decide (f ∈ b) = u then [f] else []) from ho)
    subst e
    exact one_iff.mpr ⟨rfl, h⟩
  | look l =>
    obtain ⟨e, h⟩ := one_iff.mp (show o ∈ (if f ∈ l then [f] else []) from ho)
    subst e
    exact one_iff.mpr ⟨rfl, h⟩
/-- the ways of a log from a floor to a floor -/
abbrev Pt (g b : List Int) (rows : List Row) (f m : Int) : Int := S g b (rows ++ [.look [m]]) f
theorem Pt_cons {g b : List Int} {r : Row} {rows : List Row} {f m : Int} (hf : 0 ≤ f ∧ f ≤ g.length) : Pt g b (r :: rows) f m = ((nextF g b r f).map fun o => Pt g b rows o m).sum := by
  show gtI (headM g b (r :: (rows ++ [.look [m]]))) f = _
  rw [headM_at hf.1 hf.2]
  rfl
/-- one row: is it a step -/
theorem Pt_one {g b : List Int} {r : Row} {f m : Int} (hf : 0 ≤ f ∧ f ≤ g.length) : Pt g b [r] f m = if m ∈ nextF g b r f then 1 else 0 := by
  rw [Pt_cons hf]
  have e : ((nextF g b r f).map fun o => Pt g b [] o m) = (nextF g b r f).map fun o => (if m = o then (1 : Int) else 0) * 1 := List.map_congr_left fun o ho => by
    show S g b [.look [m]] o = _
    rw [S_look (nextF_in hf ho)]
    by_cases h : o = m
    · rw [if_pos h, if_pos h.symm]
      rfl
    · rw [if_neg h, if_neg fun e => h e.symm]
      rfl
  rw [e]
  have nd : (nextF g b r f).Nodup := (nextF_up hf).imp fun h e => by omega
  by_cases h : m ∈ nextF g b r f
  · rw [if_pos h, pick_one (fun _ => 1) nd h]
  · rw [if_neg h]
    have z : ((nextF g b r f).map fun o => (if m = o then (1 : Int) else 0) * 1) = (nextF g b r f).map fun _ => (0 : Int) := List.map_congr_left fun o ho => by
      have : ¬ m = o := fun e => h (e ▸ ho)
      simp [this]
    rw [z, sum_zero]
theorem Pt_app {g b : List Int} {one other : List Row} {f m : Int} (hf : 0 ≤ f ∧ f ≤ g.length) : Pt g b (one ++ other) f m = ((rgI 0 (g.length + 1)).map fun o => Pt g b one f o * Pt g b other o m).sum := by
  show S g b (one ++ other ++ [.look [m]]) f = _
  rw [List.append_assoc]
  exact S_parts one hf
/-- the log from its end -/
theorem Pt_rev {g b : List Int} : ∀ (rows : List Row) {f m : Int}, 0 ≤ f ∧ f ≤ g.length → 0 ≤ m ∧ m ≤ g.length → Pt g b rows.reverse m f = Pt g b rows f m
  | [], f, m, hf, hm => by
    show S g b [.look [f]] m = S g b [.look [m]] f
    rw [S_look hm, S_look hf]
    by_cases h : m = f
    · rw [if_pos h, if_pos h.symm]
    · rw [if_neg h, if_neg fun e => h e.symm]
  | r :: rows, f, m, hf, hm => by
    rw [List.reverse_cons, Pt_app hm, Pt_cons hf]
    have e : ((rgI 0 (g.length + 1)).map fun o => Pt g b rows.reverse m o * Pt g b [r] o f) = (rgI 0 (g.length + 1)).map fun o => b2n (decide (o ∈ nextF g b r f)) * Pt g b rows o m := List.map_congr_left fun o ho => by
      have ho' := fl_in ho
      rw [Pt_rev rows ho' hm, Pt_one ho', Int.mul_comm]
      congr 1
      by_cases h : o ∈ nextF g b r f
      · rw [if_pos (next_sym hf h), decide_eq_true h]
        rfl
      · rw [if_neg fun q => h (next_sym ho' q), decide_eq_false h]
        rfl
    rw [e, sum_bits (fun o => Pt g b rows o m) (fun o => decide (o ∈ nextF g b r f)), filter_of_sub (nextF_sub hf) ((rgI_up _).imp fun h e => by omega)]
theorem S_Pt {g b : List Int} {rows : List Row} {f : Int} (hf : 0 ≤ f ∧ f ≤ g.length) : S g b rows f = ((rgI 0 (g.length + 1)).map fun m => Pt g b rows f m).sum := by
  have h := S_parts (g := g) (b := b) (other := []) rows hf
  rw [List.append_nil] at h
  rw [h]
  congr 1
  refine List.map_congr_left fun m hm => ?_
  have hm' := fl_in hm
  show Pt g b rows f m * gtI (headM g b []) m = _
  rw [headM_nil_at hm'.1 hm'.2]
  omega
theorem sum_comm2 (a : Int → Int → Int) (ms : List Int) : ∀ ls : List Int, (ls.map fun o => (ms.map fun m => a o m).sum).sum = (ms.map fun m => (ls.map fun o => a o m).sum).sum := fun ls => by
  have h := sum_swap2 a (fun _ => 1) ms ls
  simpa using h
/-- from all floors: as many ways from the end -/
theorem count_rev {g b : List Int} (rows : List Row) : countM g b (rgI 0 (g.length + 1)) rows.reverse = countM g b (rgI 0 (g.length + 1)) rows := by
  have e : ∀ rs : List Row, countM g b (rgI 0 (g.length + 1)) rs = ((rgI 0 (g.length + 1)).map fun f => ((rgI 0 (g.length + 1)).map fun m => Pt g b rs f m).sum).sum := fun rs => by
    show ((rgI 0 (g.length + 1)).map fun f => S g b rs f).sum = _
    congr 1
    exact List.map_congr_left fun f hf => S_Pt (fl_in hf)
  rw [e, e, sum_comm2]
  congr 1
  refine List.map_congr_left fun f hf => ?_
  congr 1
  exact List.map_congr_left fun m hm => Pt_rev rows (fl_in hf) (fl_in hm)
end K42
namespace K42
open PySem L2 Lh
theorem sum_pos {c : Int → Int} : ∀ {l : List Int}, (∀ x ∈ l, 0 ≤ c x) → (0 < (l.map c).sum ↔ ∃ x ∈ l, 0 < c x)
  | [], _ => by simp
  | x :: l, h => by
    have h1 := h x List.mem_cons_self
    have h2 := sum_pos (c := c) (l := l) fun y hy => h y (List.mem_cons_of_mem _ hy)
    have h3 : 0 ≤ (l.map c).sum := sum_nn fun y hy => by
      obtain ⟨z, hz, rfl⟩ := List.mem_map.mp hy
      exact h z (List.mem_cons_of_mem _ hz)
    rw [List.map_cons, List.sum_cons]
    constructor
    · intro q
      by_cases e : 0 < c x
      · exact ⟨x, List.mem_cons_self, e⟩
      · obtain ⟨y, hy, hp⟩ := h2.mp (by omega)
        exact ⟨y, List.mem_cons_of_mem _ hy, hp⟩
    · rintro ⟨y, hy, hp⟩
      rcases List.mem_cons.mp hy with e | hy2
      · subst e
        omega
      · have := h2.mpr ⟨y, hy2, hp⟩
        omega
theorem S_nn {g b : List Int} {rows : List Row} (f : Int) : 0 ≤ S g b rows f := gtI_nn (headM_nn rows) f
theorem behR_mem {g b : List Int} {r : Row} {fl : List Int} (hfl : ∀ f ∈ fl, 0 ≤ f ∧ f ≤ g.length) {o : Int} : o ∈ behR g b r fl ↔ ∃ f ∈ fl, o ∈ nextF g b r f := by
  unfold behR
  rw [List.mem_filter, List.any_eq_true]
  constructor
  · rintro ⟨_, f, hf, h⟩
    exact ⟨f, hf, of_decide_eq_true h⟩
  · rintro ⟨f, hf, h⟩
    have := nextF_in (hfl f hf) h
    exact ⟨mem_rgI.mpr (by omega), f, hf, decide_eq_true h⟩
/-- the floors behind a log are those to which a way leads -/
theorem beh_iff {g b : List Int} {m : Int} : ∀ (rows : List Row) {fl : List Int}, (∀ f ∈ fl, 0 ≤ f ∧ f ≤ g.length) → (m ∈ behM g b rows fl ↔ 0 < countM g b fl (rows ++ [.look [m]]))
  | [], fl, hfl => by
    show m ∈ fl ↔ 0 < (fl.map fun f => S g b [.look [m]] f).sum
    rw [sum_pos fun x _ => S_nn x]
    constructor
    · intro h
      refine ⟨m, h, ?_⟩
      show 0 < S g b [.look [m]] m
      rw [S_look (hfl m h), if_pos rfl]
      decide
    · rintro ⟨f, hf, hp⟩
      have hp' : 0 < S g b [.look [m]] f := hp
      rw [S_look (hfl f hf)] at hp'
      by_cases e : f = m
      · exact e ▸ hf
      · rw [if_neg e] at hp'
        exact absurd hp' (by decide)
  | r :: rows, fl, hfl => by
    have ih := beh_iff (g := g) (b := b) (m := m) rows (fl := behR g b r fl) behR_in
    have e1 : behM g b (r :: rows) fl = behM g b rows (behR g b r fl) := rfl
    rw [e1, ih]
    show 0 < ((behR g b r fl).map fun o => Pt g b rows o m).sum ↔ 0 < (fl.map fun f => Pt g b (r :: rows) f m).sum
    rw [sum_pos fun x _ => S_nn x, sum_pos fun x _ => S_nn x]
    constructor
    · rintro ⟨o, ho, hp⟩
      obtain ⟨f, hf, hn⟩ := (behR_mem hfl).mp ho
      refine ⟨f, hf, ?_⟩
      show 0 < Pt g b (r :: rows) f m
      rw [Pt_cons (hfl f hf), sum_pos fun x _ => S_nn x]
      exact ⟨o, hn, hp⟩
    · rintro ⟨f, hf, hp⟩
      have hp1 : 0 < Pt g b (r :: rows) f m := hp
      rw [Pt_cons (hfl f hf), sum_pos fun x _ => S_nn x] at hp1
      obtain ⟨o, hn, hp2⟩ := hp1
      exact ⟨o, (behR_mem hfl).mpr ⟨f, hf, hn⟩, hp2⟩
theorem beh_app {g b : List Int} {one other : List Row} {fl : List Int} : behM g b (one ++ other) fl = behM g b other (behM g b one fl) := by
  unfold behM
  rw [List.foldl_append]
end K42
namespace K42
open PySem L2 Lh
/-! ### the first row that cannot be -/
theorem behM_nil {g b : List Int} : ∀ rows : List Row, behM g b rows [] = []
  | [] => rfl
  | r :: rows => by
    have e : behR g b r [] = [] := by
      unfold behR
      simp
    show behM g b rows (behR g b r []) = []
    rw [e]
    exact behM_nil rows
theorem count_pos {g b st : List Int} {rows : List Row} (hs : ∀ x ∈ st, 0 ≤ x ∧ x ≤ g.length) : 0 < countM g b st rows ↔ behM g b rows st ≠ [] := by
  have nn : ∀ m, 0 ≤ countM g b st (rows ++ [.look [m]]) := fun m => sumAt_nn (headM_nn _) st
  have e := count_parts (g := g) (b := b) (st := st) (one := rows) (other := []) hs
  rw [List.append_nil] at e
  have e1 : ((rgI 0 (g.length + 1)).map fun m => countM g b st (rows ++ [.look [m]]) * countM g b [m] []) = (rgI 0 (g.length + 1)).map fun m => countM g b st (rows ++ [.look [m]]) := List.map_congr_left fun m hm => by
    have hm' := fl_in hm
    have : countM g b [m] [] = 1 := by
      show (([m] : List Int).map fun f => gtI (headM g b []) f).sum = 1
      simp only [List.sum_cons, List.sum_nil, List.map_cons, List.map_nil]
      rw [headM_nil_at hm'.1 hm'.2]
      rfl
    rw [this, Int.mul_one]
  rw [e1] at e
  rw [e, sum_pos fun m _ => nn m]
  constructor
  · rintro ⟨m, _, h⟩ z
    have := (beh_iff rows hs).2 h
    rw [z] at this
    cases this
  · intro h
    obtain ⟨m, hm⟩ := List.exists_mem_of_ne_nil _ h
    have h2 : 0 ≤ m ∧ m ≤ g.length := by
      cases rows with
      | nil => exact hs m hm
      | cons r rows =>
        rw [show r :: rows = (r :: rows).dropLast ++ [(r :: rows).getLast (by simp)] from (List.dropLast_concat_getLast (by simp)).symm, beh_app] at hm
        exact behR_in m hm
    exact ⟨m, mem_rgI.mpr (by omega), (beh_iff rows hs).1 hm⟩
/-! ### a way -/
/-- from a floor: the floors behind the rows, one by one -/
def Way (g b : List Int) : List Row → Int → List Int → Prop
  | [], _, l => l = []
  | r :: rs, f, l => ∃ o l', l = o :: l' ∧ o ∈ nextF g b r f ∧ Way g b rs o l'
theorem wayM_way {g b : List Int} : ∀ (rows : List Row) {f j : Int}, 0 ≤ f → f ≤ g.length → 0 ≤ j → j < gtI (headM g b rows) f → Way g b rows f (wayM (g.length + 1) (linksM g b rows) f j)
  | [], f, j, h0, h1, h2, h3 => rfl
  | r :: rs, f, j, h0, h1, h2, h3 => by
    rw [headM_at h0 h1] at h3
    rw [wayM_cons h0 h1]
    obtain ⟨q1, q2, q3⟩ := pickM_ok (v := headM g b rs) (fl := nextF g b r f) h2 h3
    have hr := nextF_in ⟨h0, h1⟩ q1
    exact ⟨_, _, rfl, q1, wayM_way rs hr.1 hr.2 q2 q3⟩
theorem at_way {g b st : List Int} {rows : List Row} (hs : ∀ x ∈ st, 0 ≤ x ∧ x ≤ g.length) {i : Int} (h0 : 0 ≤ i) (h1 : i < countM g b st rows) : ∃ f l, atM g b st rows i = f :: l ∧ f ∈ st ∧ Way g b rows f l := by
  have h1' : i < sumAt (headM g b rows) st := h1
  obtain ⟨q1, q2, q3⟩ := pickM_ok (v := headM g b rows) (fl := st) h0 h1'
  exact ⟨_, _, rfl, q1, wayM_way rows (hs _ q1).1 (hs _ q1).2 q2 q3⟩
theorem Way.len {g b : List Int} : ∀ {rows : List Row} {f : Int} {l : List Int}, Way g b rows f l → l.length = rows.length
  | [], _, _, h => by
    have h' : _ = [] := h
    rw [h']
    rfl
  | r :: rs, f, l, ⟨o, l', e, _, h⟩ => by
    rw [e, List.length_cons, h.len]
    rfl
/-- its floor at a moment lies in the floors behind the rows until then -/
theorem Way.beh {g b : List Int} : ∀ {rows : List Row} {f : Int} {l fl : List Int}, Way g b rows f l → f ∈ fl → (∀ x ∈ fl, 0 ≤ x ∧ x ≤ g.length) → ∀ (k : Nat) (x : Int), (f :: l)[k]? = some x → x ∈ behM g b (rows.take k) fl
  | rows, f, l, fl, _, hf, _, 0, x, h => by
    have e : f = x := Option.some.inj h
    rw [List.take_zero]
    exact e ▸ hf
  | [], f, l, fl, h, hf, _, k + 1, x, hk => by
    have h' : l = [] := h
    rw [h'] at hk
    simp at hk
  | r :: rs, f, l, fl, ⟨o, l', e, ho, h⟩, hf, hr, k + 1, x, hk => by
    rw [e] at hk
    have hk' : (o :: l')[k]? = some x := hk
    show x ∈ behM g b (rs.take k) (behR g b r fl)
    exact h.beh ((behR_mem hr).2 ⟨f, hf, ho⟩) behR_in k x hk'
theorem Way.pos {g b : List Int} : ∀ {rows : List Row} {f : Int} {l : List Int}, (0 ≤ f ∧ f ≤ g.length) → Way g b rows f l → 0 < S g b rows f
  | [], f, l, hf, _ => by
    show 0 < gtI (headM g b []) f
    rw [headM_nil_at hf.1 hf.2]
    decide
  | r :: rs, f, l, hf, ⟨o, l', _, ho, h⟩ => by
    show 0 < gtI (headM g b (r :: rs)) f
    rw [headM_at hf.1 hf.2]
    exact (sum_pos fun x _ => S_nn x).2 ⟨o, ho, h.pos (nextF_in hf ho)⟩
/-- back from its end -/
theorem Way.back {g b st : List Int} {rows : List Row} {f : Int} {l : List Int} (h : Way g b rows f l) (hf : 0 ≤ f ∧ f ≤ g.length) (hst : f ∈ st) {x : Int} (hx : (f :: l)[rows.length]? = some x) : 0 < countM g b [x] (rows.reverse ++ [.look st]) := by
  have hr1 : ∀ z ∈ [f], 0 ≤ z ∧ z ≤ g.length := fun z hz => by
    have e : z = f := by simpa using hz
    rw [e]
    exact hf
  have h1 := h.beh (fl := [f]) (by simp) hr1 _ _ hx
  rw [List.take_length] at h1
  have hxr : 0 ≤ x ∧ x ≤ g.length := by
    rcases Nat.eq_zero_or_pos rows.length with z | z
    · have e : rows = [] := List.length_eq_zero_iff.mp z
      subst e
      have : x ∈ [f] := h1
      exact hr1 x this
    · obtain ⟨r, rs, e⟩ : ∃ r rs, rows = rs ++ [r] := ⟨rows.getLast (List.length_pos_iff.mp z), rows.dropLast, (List.dropLast_concat_getLast _).symm⟩
      rw [e, beh_app] at h1
      exact behR_in x h1
  have h2 : 0 < Pt g b rows f x := by
    have := (beh_iff (m := x) rows hr1).1 h1
    have e : countM g b [f] (rows ++ [.look [x]]) = Pt g b rows f x := by
      show (([f] : List Int).map fun f => S g b (rows ++ [.look [x]]) f).sum = _
      simp
    rw [e] at this
    exact this
  have e : countM g b [x] (rows.reverse ++ [.look st]) = S g b (rows.reverse ++ [.look st]) x := by
    show (([x] : List Int).map fun f => S g b (rows.reverse ++ [.look st]) f).sum = _
    simp
  rw [e, S_parts rows.reverse hxr, sum_pos fun m _ => Int.mul_nonneg (S_nn _) (S_nn m)]
  refine ⟨f, mem_rgI.mpr (by omega), Int.mul_pos ?_ ?_⟩
  · have q := Pt_rev (b := b) rows hf hxr
    show 0 < Pt g b rows.reverse x f
    rw [q]
    exact h2
  · show 0 < gtI (headM g b [.look st]) f
    rw [headM_at hf.1 hf.2]
    have e : nextF g b (.look st) f = [f] := by
      show (if f ∈ st then [f] else []) = _
      rw [if_pos hst]
    rw [e]
    exact (sum_pos fun z _ => S_nn (g := g) (b := b) (rows := []) z).2 ⟨f, by simp, by
      show 0 < gtI (headM g b []) f
      rw [headM_nil_at hf.1 hf.2]
      decide⟩
theorem sum_le {c d : Int → Int} : ∀ {l : List Int}, (∀ x ∈ l, c x ≤ d x) → (l.map c).sum ≤ (l.map d).sum
  | [], _ => Int.le_refl _
  | x :: l, h => by
    have h1 := h x List.mem_cons_self
    have h2 := sum_le (l := l) fun y hy => h y (List.mem_cons_of_mem _ hy)
    rw [List.map_cons, List.map_cons, List.sum_cons, List.sum_cons]
    omega
theorem sum_lt {c d : Int → Int} {a : Int} : ∀ {l : List Int}, (∀ x ∈ l, c x ≤ d x) → a ∈ l → c a < d a → (l.map c).sum < (l.map d).sum
  | x :: l, h, ha, hlt => by
    have h1 := h x List.mem_cons_self
    have h2 := sum_le (l := l) fun y hy => h y (List.mem_cons_of_mem _ hy)
    rw [List.map_cons, List.map_cons, List.sum_cons, List.sum_cons]
    rcases List.mem_cons.mp ha with q | ha
    · subst q
      omega
    · have h3 := sum_lt (l := l) (fun y hy => h y (List.mem_cons_of_mem _ hy)) ha hlt
      omega
/-- without a floor: as a sum over all of them -/
theorem sum_without (c : Int → Int) (x : Int) : ∀ l : List Int, ((l.filter fun o => !decide (o = x)).map c).sum = (l.map fun o => if o = x then 0 else c o).sum
  | [] => rfl
  | o :: l => by
    have ih := sum_without c x l
    rw [List.filter_cons, List.map_cons, List.sum_cons, ← ih]
    by_cases e : o = x
    · rw [if_neg (by simp [e]), if_pos e]
      omega
    · rw [if_pos (by simp [e]), if_neg e, List.map_cons, List.sum_cons]
/-! ### how many there can be -/
theorem sum_cap {c : Int → Int} {m : Int} : ∀ {l : List Int}, (∀ x ∈ l, c x ≤ m) → (l.map c).sum ≤ l.length * m
  | [], _ => by simp
  | x :: l, h => by
    have h1 := h x List.mem_cons_self
    have h2 := sum_cap (l := l) fun y hy => h y (List.mem_cons_of_mem _ hy)
    rw [List.map_cons, List.sum_cons, List.length_cons]
    have e : ((l.length + 1 : Nat) : Int) * m = l.length * m + m := by
      rw [Int.natCast_add, Int.add_mul]
      simp
    rw [e]
    omega
theorem S_cap {g b : List Int} (h9 : g.length ≤ 9) : ∀ (rows : List Row) {f : Int}, (0 ≤ f ∧ f ≤ g.length) → S g b rows f ≤ (10 : Int) ^ rows.length
  | [], f, hf => by
    show gtI (headM g b []) f ≤ 1
    rw [headM_nil_at hf.1 hf.2]
    omega
  | r :: rs, f, hf => by
    show gtI (headM g b (r :: rs)) f ≤ _
    rw [headM_at hf.1 hf.2]
    have h1 := sum_cap (c := fun o => S g b rs o) (m := (10 : Int) ^ rs.length) (l := nextF g b r f) fun o ho => S_cap h9 rs (nextF_in hf ho)
    have h2 : (nextF g b r f).length ≤ 10 := by
      have := nextF_len (g := g) (b := b) (r := r) (f := f)
      omega
    have h3 : (0 : Int) ≤ (10 : Int) ^ rs.length := Int.pow_nonneg (by decide)
    rw [List.length_cons, Int.pow_succ, Int.mul_comm]
    exact Int.le_trans h1 (Int.mul_le_mul_of_nonneg_right (by omega) h3)
theorem count_cap {g b st : List Int} {rows : List Row} (h9 : g.length ≤ 9) (hs : ∀ x ∈ st, 0 ≤ x ∧ x ≤ g.length) (hz : st.length ≤ 10) : countM g b st rows ≤ (10 : Int) ^ (rows.length + 1) := by
  have h1 := sum_cap (c := fun o => S g b rows o) (m := (10 : Int) ^ rows.length) (l := st) fun o ho => S_cap h9 rows (hs o ho)
  have h3 : (0 : Int) ≤ (10 : Int) ^ rows.length := Int.pow_nonneg (by decide)
  rw [Int.pow_succ, Int.mul_comm]
  exact Int.le_trans h1 (Int.mul_le_mul_of_nonneg_right (by omega) h3)
theorem log_cap {c : Int} {n : Nat} (h0 : 0 < c) (h : c ≤ (10 : Int) ^ (n + 1)) (hn : n ≤ 2000) : c.natAbs.log2 < 9000 := by
  have h1 : c.natAbs < 2 ^ (4 * (n + 1)) := by
    have e : (2 : Nat) ^ (4 * (n + 1)) = 16 ^ (n + 1) := by rw [Nat.pow_mul]
    have h2 : (10 : Nat) ^ (n + 1) < 16 ^ (n + 1) := Nat.pow_lt_pow_left (by decide) (by omega)
    have h3 : c.natAbs ≤ 10 ^ (n + 1) := by
      have : (c.natAbs : Int) ≤ ((10 ^ (n + 1) : Nat) : Int) := by
        rw [Int.natCast_pow]
        have : (c.natAbs : Int) = c := by omega
        rw [this]
        exact h
      exact Int.ofNat_le.mp this
    omega
  exact (wide_div (i := 0) h0 h1 (by omega) (by omega)).2
end K42
namespace K42
open PySem L2 Lh
section
variable {K : PySem.W.Frag} {mg : Str → Option Value} {base : Heap} {P : Program} {w : World}
end
end K42
namespace K42
open PySem L2 Lh
/-! ### how many ways lead to each floor -/
def addAll (k : Int) (es : List Int) (v : List Int) : List Int := es.foldl (fun v e => v.set e.toNat (v.getD e.toNat 0 + k)) v
/-- behind a row: from the numbers v, by the ends l -/
def stepB (n : Nat) (ps : List (Int × List Int)) : List Int := ps.foldl (fun w p => addAll p.1 p.2 w) (List.replicate n 0)
theorem addAll_len (k : Int) : ∀ (es v : List Int), (addAll k es v).length = v.length
  | [], v => rfl
  | e :: es, v => by
    show (addAll k es (v.set e.toNat (v.getD e.toNat 0 + k))).length = _
    rw [addAll_len k es, List.length_set]
theorem addAll_snoc {k : Int} {es v : List Int} {e : Int} : addAll k (es ++ [e]) v = (addAll k es v).set e.toNat ((addAll k es v).getD e.toNat 0 + k) := by
  unfold addAll
  rw [List.foldl_append]
  rfl
theorem gt_set {v : List Int} {e x k : Int} (he : 0 ≤ e ∧ e < v.length) (hx : 0 ≤ x ∧ x < v.length) : gtI (v.set e.toNat k) x = if x = e then k else gtI v x := by
  have h1 : e.toNat < v.length := by omega
  have h2 : x.toNat < v.length := by omega
  unfold gtI
  rw [List.getD_eq_getElem?_getD, List.getD_eq_getElem?_getD, List.getElem?_set]
  by_cases h : x = e
  · subst h
    rw [if_pos rfl, if_pos rfl, if_pos h1]
    rfl
  · rw [if_neg (by omega), if_neg h]
theorem addAll_at {k : Int} : ∀ {es v : List Int} {x : Int}, es.Nodup → (∀ e ∈ es, 0 ≤ e ∧ e < v.length) → (0 ≤ x ∧ x < v.length) → gtI (addAll k es v) x = gtI v x + if x ∈ es then k else 0
  | [], v, x, _, _, _ => by
    show gtI v x = _
    rw [if_neg (by simp)]
    omega
  | e :: es, v, x, hn, he, hx => by
    obtain ⟨n1, n2⟩ := List.nodup_cons.mp hn
    have h1 := he e List.mem_cons_self
    have ih := addAll_at (k := k) (es := es) (v := v.set e.toNat (v.getD e.toNat 0 + k)) (x := x) n2 (fun y hy => by
      rw [List.length_set]
      exact he y (List.mem_cons_of_mem _ hy)) (by rw [List.length_set]; exact hx)
    show gtI (addAll k es (v.set e.toNat (v.getD e.toNat 0 + k))) x = _
    rw [ih, gt_set h1 hx]
    by_cases h : x = e
    · subst h
      rw [if_pos rfl, if_neg n1, if_pos List.mem_cons_self]
      show gtI v x + k + 0 = gtI v x + k
      omega
    · rw [if_neg h]
      by_cases h2 : x ∈ es
      · rw [if_pos h2, if_pos (List.mem_cons_of_mem _ h2)]
      · rw [if_neg h2, if_neg fun q => (List.mem_cons.mp q).elim h h2]
theorem foldB_len : ∀ (ps : List (Int × List Int)) (w : List Int), (ps.foldl (fun w p => addAll p.1 p.2 w) w).length = w.length
  | [], w => rfl
  | p :: ps, w => by
    show (ps.foldl (fun w p => addAll p.1 p.2 w) (addAll p.1 p.2 w)).length = _
    rw [foldB_len ps, addAll_len]
theorem stepB_len {n : Nat} {ps : List (Int × List Int)} : (stepB n ps).length = n := by
  unfold stepB
  rw [foldB_len, List.length_replicate]
theorem foldB_at {x : Int} : ∀ {ps : List (Int × List Int)} {w : List Int}, (∀ p ∈ ps, p.2.Nodup ∧ ∀ e ∈ p.2, 0 ≤ e ∧ e < w.length) → (0 ≤ x ∧ x < w.length) → gtI (ps.foldl (fun w p => addAll p.1 p.2 w) w) x = gtI w x + (ps.map fun p => if x ∈ p.2 then p.1 else 0).sum
  | [], w, _, _ => by
    show gtI w x = _
    simp
  | p :: ps, w, h, hx => by
    obtain ⟨h1, h2⟩ := h p List.mem_cons_self
    have ih := foldB_at (x := x) (ps := ps) (w := addAll p.1 p.2 w) (fun q hq => by
      rw [addAll_len]
      exact h q (List.mem_cons_of_mem _ hq)) (by rw [addAll_len]; exact hx)
    show gtI (ps.foldl (fun w p => addAll p.1 p.2 w) (addAll p.1 p.2 w)) x = _
    rw [ih, addAll_at h1 h2 hx, List.map_cons, List.sum_cons]
    omega
theorem gt_rep {n : Nat} {x : Int} : gtI (List.replicate n 0) x = 0 := by
  unfold gtI
  rw [List.getD_eq_getElem?_getD]
  by_cases h : x.toNat < n
  · simp [h]
  · rw [List.getElem?_eq_none (by simpa using h)]
    rfl
theorem as_map {n : Nat} {w : List Int} (h : w.length = n) : w = (rgI 0 n).map (gtI w) := by
  refine List.ext_getElem? fun i => ?_
  rw [List.getElem?_map]
  by_cases hi : i < n
  · have e : (rgI 0 n)[i]? = some (i : Int) := by
      unfold rgI
      simp [hi]
    rw [e, List.getElem?_eq_getElem (by omega)]
    show _ = some (gtI w (i : Int))
    unfold gtI
    rw [List.getD_eq_getElem?_getD, Int.toNat_natCast, List.getElem?_eq_getElem (by omega)]
    rfl
  · rw [List.getElem?_eq_none (by omega), List.getElem?_eq_none (by rw [rgI_len]; omega)]
    rfl
/-- the ways that lead to a floor at a moment -/
def upM (g b st : List Int) (rows : List Row) (t : Nat) (f : Int) : Int := countM g b st (rows.take t ++ [Row.look [f]])
def upL (g b st : List Int) (rows : List Row) (t : Nat) : List Int := (rgI 0 (g.length + 1)).map (upM g b st rows t)
theorem upL_len {g b st : List Int} {rows : List Row} {t : Nat} : (upL g b st rows t).length = g.length + 1 := by
  unfold upL
  rw [List.length_map, rgI_len]
theorem rg_at {n : Nat} {h : Int → Int} {f : Int} (h0 : 0 ≤ f) (h1 : f < n) : gtI ((rgI 0 n).map h) f = h f := by
  have hlt : f.toNat < n := by omega
  have e : (rgI 0 n)[f.toNat]? = some f := by
    unfold rgI
    simp [hlt]
    omega
  unfold gtI
  rw [List.getD_eq_getElem?_getD, List.getElem?_map, e]
  rfl
theorem upL_at {g b st : List Int} {rows : List Row} {t : Nat} {f : Int} (h0 : 0 ≤ f) (h1 : f ≤ g.length) : gtI (upL g b st rows t) f = upM g b st rows t f := rg_at h0 (by omega)
theorem up_zero {g b st : List Int} {rows : List Row} {f : Int} (hs : ∀ x ∈ st, 0 ≤ x ∧ x ≤ g.length) (nd : st.Nodup) (hf : 0 ≤ f ∧ f ≤ g.length) : upM g b st rows 0 f = if f ∈ st then 1 else 0 := by
  show (st.map fun x => S g b [Row.look [f]] x).sum = _
  have e : (st.map fun x => S g b [Row.look [f]] x) = st.map fun x => (if f = x then (1 : Int) else 0) * 1 := List.map_congr_left fun x hx => by
    rw [S_look (hs x hx)]
    by_cases h : x = f
    · rw [if_pos h, if_pos h.symm]
      rfl
    · rw [if_neg h, if_neg fun q => h q.symm]
      rfl
  rw [e]
  by_cases h : f ∈ st
  · rw [if_pos h, pick_one (fun _ => 1) nd h]
  · rw [if_neg h]
    have z : (st.map fun x => (if f = x then (1 : Int) else 0) * 1) = st.map fun _ => (0 : Int) := List.map_congr_left fun x hx => by
      have : ¬ f = x := fun q => h (q ▸ hx)
      simp [this]
    rw [z, sum_zero]
theorem up_step {g b st : List Int} {rows : List Row} {t : Nat} {r : Row} (hs : ∀ x ∈ st, 0 ≤ x ∧ x ≤ g.length) (hr : rows[t]? = some r) {f : Int} : upM g b st rows (t + 1) f = ((rgI 0 (g.length + 1)).map fun m => if f ∈ nextF g b r m then upM g b st rows t m else 0).sum := by
  unfold upM
  rw [List.take_add_one, hr, List.append_assoc, count_parts hs]
  congr 1
  refine List.map_congr_left fun m hm => ?_
  have hm' := fl_in hm
  have e : countM g b [m] ((some r).toList ++ [Row.look [f]]) = Pt g b [r] m f := by
    show (([m] : List Int).map fun x => S g b [r, Row.look [f]] x).sum = S g b ([r] ++ [Row.look [f]]) m
    simp
  rw [e, Pt_one hm']
  by_cases h : f ∈ nextF g b r m
  · rw [if_pos h, if_pos h, Int.mul_one]
  · rw [if_neg h, if_neg h, Int.mul_zero]
theorem upL_step {g b st : List Int} {rows : List Row} {t : Nat} {r : Row} (hs : ∀ x ∈ st, 0 ≤ x ∧ x ≤ g.length) (hr : rows[t]? = some r) : stepB (g.length + 1) ((upL g b st rows t).zip ((rgI 0 (g.length + 1)).map fun f => nextF g b r f)) = upL g b st rows (t + 1) := by
  rw [as_map (stepB_len (n := g.length + 1) (ps := (upL g b st rows t).zip ((rgI 0 (g.length + 1)).map fun f => nextF g b r f)))]
  unfold upL
  refine List.map_congr_left fun f hf => ?_
  have hf' := fl_in hf
  rw [up_step hs hr, List.zip_map']
  unfold stepB
  rw [foldB_at (fun p hp => ?_) (by rw [List.length_replicate]; omega), gt_rep, List.map_map, Int.zero_add]
  · congr 1
  · obtain ⟨m, hm, rfl⟩ := List.mem_map.mp hp
    refine ⟨(nextF_up (fl_in hm)).imp fun h e => by omega, fun e he => ?_⟩
    have := nextF_in (fl_in hm) he
    rw [List.length_replicate]
    omega
end K42
namespace K42
open PySem L2 Lh
/-- the numbers so far -/
def upLs (g b st : List Int) (rows : List Row) (n : Nat) : List (List Int) := (List.range n).map fun t => upL g b st rows t
theorem upLs_snoc {g b st : List Int} {rows : List Row} {n : Nat} : upLs g b st rows (n + 1) = upLs g b st rows n ++ [upL g b st rows n] := by
  unfold upLs
  rw [List.range_succ, List.map_append]
  rfl
theorem links_at {g b : List Int} {rows : List Row} {t : Nat} {l : List (List Int)} (h : (linksM g b rows)[t]? = some l) : ∃ r, rows[t]? = some r ∧ l = (rgI 0 (g.length + 1)).map fun f => nextF g b r f := by
  unfold linksM at h
  rw [List.getElem?_map] at h
  obtain ⟨r, h1, h2⟩ := Option.map_eq_some_iff.mp h
  exact ⟨r, h1, h2.symm⟩
structure UpOk (g st : List Int) (rows : List Row) : Prop where
  nine : g.length ≤ 9
  size : rows.length ≤ 1000
  start : ∀ x ∈ st, 0 ≤ x ∧ x ≤ g.length
  once : st.Nodup
  few : st.length ≤ 10
section
variable {K : PySem.W.Frag} {mg : Str → Option Value} {base : Heap} {P : Program} {w : World}
abbrev spNB (K : PySem.W.Frag) (C : Addr) : Sp := SpP (α := { p : (List Int × List Int) × List Int × List Row // UpOk p.1.1 p.2.1 p.2.2 }) (fun p => [PHo K C p.1.1.1 p.1.1.2, PD K (.tuple (li p.1.2.1)), PD K (eLLL (linksM p.1.1.1 p.1.1.2 p.1.2.2))]) (fun p => PD K (eLL (upLs p.1.1.1 p.1.1.2 p.1.2.1 p.1.2.2 (p.1.2.2.length + 1))))
theorem ok_numbers_behind (T : Txt K mg) : FnOk P w K mg base CX0 3 T.f_numbers_behind T.d_numbers_behind ["house", "start", "links"] (spNB K T.C_House) := by
  refine fn_F T.F_numbers_behind sc_numbers_behind (fun _ => rfl) fun ⟨⟨⟨g, b⟩, st, rows⟩, hok⟩ Z0 Z Q X qX hQ => ?_
  obtain ⟨cdv, A, outer, s, E, rfl, hr⟩ := qX
  have hk : UpOk g st rows := hok
  have h9 := hk.nine
  refine xs_newL 3 (ds := [eL (upL g b st rows 0)]) (xa_1 (YE.dat (xe_mapI 4 (fun f => .int (upM g b st rows 0 f)) (xi_tup (xe_prop (ok_House_floors T) (g, b) (xe_var 0) rfl T.c_House T.m_House_floors (hr.mono (by decide)) T.b_House_floors)) (fun f hf s0 H0 C cl fp => by
      have hf' := fl_in hf
      have e := up_zero (b := b) (rows := rows) hk.start hk.once hf'
      refine xe_ifx (xt_inT (xe_var 4) (xe_var 1)) (fun h => ?_) fun h => ?_
      · have h' : f ∈ st := of_decide_eq_true h.symm
        exact YE.dat xe_int (congrArg PyData.int (by rw [e, if_pos h']))
      · have h' : ¬ f ∈ st := of_decide_eq_false h.symm
        exact YE.dat xe_int (congrArg PyData.int (by rw [e, if_neg h']))) sc_numbers_behind.nd (blkOk_by rfl) (by simp only [rgI_len]; omega) cov0 (fun _ _ _ _ _ => pg_name (i := 4) sc_numbers_behind.nd rfl (Or.inl rfl))) ?_)) (by simp) (fun qn => ?_) cov0 sc_numbers_behind.nd
  · show PyData.list _ = PyData.list _
    unfold upL li
    rw [List.map_map]
    rfl
  refine xs_forN 5 (xi_list (xe_var 2)) (fun t Γ1 Rs1 => (∃ a4 a5 a6 a7 a8 a9, Γ1 = [some (PHo K T.C_House g b), some (PD K (.tuple (li st))), some (PD K (eLLL (linksM g b rows))), some (PV (.ref qn)), a4, a5, a6, a7, a8, a9]) ∧ Rs1 = [Res.lst Z qn (((upLs g b st rows (t + 1)).map eL).map (PD K))]) ⟨⟨none, none, none, none, none, none, rfl⟩, rfl⟩ ?_ ?_ sc_numbers_behind.nd
  · rintro t Qt Γ1 Rs1 hq ⟨⟨a4, a5, a6, a7, a8, a9, rfl⟩, rfl⟩ Hs
    obtain ⟨d, hd, rfl⟩ := map_at hq
    obtain ⟨l, hl, rfl⟩ := enc_at hd
    obtain ⟨r, hrt, el⟩ := links_at hl
    have hlt : t < rows.length := (List.getElem?_eq_some_iff.mp hrt).1
    have hlen : l.length = g.length + 1 := by rw [el, List.length_map, rgI_len]
    have hl1000 : rows.length ≤ 1000 := hk.size
    have hz : ∀ v : List Int, v = upL g b st rows t → v.length = g.length + 1 := fun v e => by rw [e, upL_len]
    obtain ⟨v, hv⟩ : ∃ v, v = upL g b st rows t := ⟨_, rfl⟩
    have hvl := hz v hv
    have hes : ∀ (m : Nat) (es : List Int), l[m]? = some es → es.Nodup ∧ ∀ e ∈ es, 0 ≤ e ∧ e ≤ g.length := fun m es hm => by
      rw [el] at hm
      rw [List.getElem?_map] at hm
      obtain ⟨f, hf, e⟩ := Option.map_eq_some_iff.mp hm
      have hf' := fl_in (List.mem_of_getElem? hf)
      rw [← e]
      exact ⟨(nextF_up hf').imp fun h e => by omega, fun x hx => nextF_in hf' hx⟩
    refine xs_newF 6 (fe_rep (k := (g.length : Int) + 1) (xe_lst (ds := [.int 0]) (xa_1 xe_int) (by simp)) (xe_lenO (ok_House_len T) (g, b) T.z_len (xe_var 0) rfl rfl (by omega) T.m_House_len.at_ T.m_House_len.fn (hr.mono (by decide)) T.b_House_len) (by omega) (by simp; omega)) (fun qb => ?_) cov0 sc_numbers_behind.nd
    have hrep : ((List.replicate ((g.length : Int) + 1).toNat [PyData.int 0]).flatten.map (PD K)) = (li (List.replicate (g.length + 1) 0)).map (PD K) := by
      have e : ((g.length : Int) + 1).toNat = g.length + 1 := by omega
      rw [e, rep_one]
      simp [li]
    refine xs_swap ?_
    refine xs_forP 7 8 (xi_zip T.z_zip (YE.dat (d' := eL v) (xe_ixM (q := qn) (P := PD K (eL (upL g b st rows t))) (xe_var 3) (xe_neg xe_int) ?_) (by rw [hv])) (xe_var 5)) (fun u Γ2 Rs2 => (∃ a7 a8 a9, Γ2 = [some (PHo K T.C_House g b), some (PD K (.tuple (li st))), some (PD K (eLLL (linksM g b rows))), some (PV (.ref qn)), a4, some (PD K (eLL l)), some (PV (.ref qb)), a7, a8, a9]) ∧ Rs2 = [Res.lst Z qn (((upLs g b st rows (t + 1)).map eL).map (PD K)), Res.lst Z qb ((li (stepB (g.length + 1) ((v.zip l).take u))).map (PD K))]) ⟨⟨_, _, _, rfl⟩, ?_⟩ ?_ ?_ sc_numbers_behind.nd
    · rw [upLs_snoc, List.map_append, List.map_append]
      exact atI_last _ _
    · exact congrArg (fun z => [Res.lst Z qn (((upLs g b st rows (t + 1)).map eL).map (PD K)), Res.lst Z qb z]) hrep
    · rintro u Qu Γ2 Rs2 hq2 ⟨⟨a7, a8, a9, rfl⟩, rfl⟩
      obtain ⟨d1, d2, hd1, hd2, rfl⟩ := zip_at hq2
      obtain ⟨k, hk1, rfl⟩ := li_at hd1
      obtain ⟨es, hk2, rfl⟩ := enc_at hd2
      refine ⟨_, _, rfl, fun Hs2 => ?_⟩
      obtain ⟨hnd, hrg⟩ := hes u es hk2
      have hwl : (stepB (g.length + 1) ((v.zip l).take u)).length = g.length + 1 := stepB_len
      have hzip : (v.zip l).take (u + 1) = (v.zip l).take u ++ [(k, es)] := by
        have e : (v.zip l)[u]? = some (k, es) := by rw [List.getElem?_zip_eq_some]; exact ⟨hk1, hk2⟩
        rw [List.take_add_one, e]
        rfl
      have hnx : addAll k es (stepB (g.length + 1) ((v.zip l).take u)) = stepB (g.length + 1) ((v.zip l).take (u + 1)) := by
        rw [hzip]
        unfold stepB
        rw [List.foldl_append]
        rfl
      generalize stepB (g.length + 1) ((v.zip l).take u) = w0 at hwl hnx
      refine xs_swap ?_
      refine xs_forN 9 (xi_list (xe_var 8)) (fun c Γ3 Rs3 => (∃ a9, Γ3 = [some (PHo K T.C_House g b), some (PD K (.tuple (li st))), some (PD K (eLLL (linksM g b rows))), some (PV (.ref qn)), a4, some (PD K (eLL l)), some (PV (.ref qb)), some (PD K (.int k)), some (PD K (eL es)), a9]) ∧ Rs3 = [Res.lst Z qb ((li (addAll k (es.take c) w0)).map (PD K)), Res.lst Z qn (((upLs g b st rows (t + 1)).map eL).map (PD K))]) ⟨⟨_, rfl⟩, rfl⟩ ?_ ?_ sc_numbers_behind.nd
      · rintro c Qc Γ3 Rs3 hq3 ⟨⟨a9, rfl⟩, rfl⟩ Hs3
        obtain ⟨d3, hd3, rfl⟩ := map_at hq3
        obtain ⟨e, he, rfl⟩ := li_at hd3
        have her := hrg e (List.mem_of_getElem? he)
        refine xs_addS (k := e) (n := k) rfl (xe_var 6) (xe_var 9) (xe_var 7) (by rw [addAll_len, hwl]; omega) (xs_turn (fun σ H h => h) ⟨⟨_, rfl⟩, ?_⟩)
        rw [List.take_add_one, he]
        show _ = [Res.lst Z qb ((li (addAll k (es.take c ++ [e]) w0)).map (PD K)), _]
        rw [addAll_snoc]
        rfl
      · rintro Γ3 Rs3 ⟨⟨a9, rfl⟩, rfl⟩
        refine xs_swap (xs_turn (fun σ H h => h) ⟨⟨_, _, _, rfl⟩, ?_⟩)
        have e : ((li es).map (PD K)).length = es.length := by simp [li]
        show [_, Res.lst Z qb ((li (addAll k (es.take ((li es).map (PD K)).length) w0)).map (PD K))] = _
        rw [e, List.take_length, hnx]
    · rintro Γ2 Rs2 ⟨⟨a7, a8, a9, rfl⟩, rfl⟩
      have e : (List.zipWith (fun d e => PT2 K (PD K d) (PD K e)) (li v) (l.map eL)).length = g.length + 1 := by
        rw [List.length_zipWith, List.length_map, List.length_map, hvl, hlen]
        omega
      have hfin : stepB (g.length + 1) ((v.zip l).take (List.zipWith (fun d e => PT2 K (PD K d) (PD K e)) (li v) (l.map eL)).length) = upL g b st rows (t + 1) := by
        rw [e, List.take_of_length_le (by rw [List.length_zip, hvl, hlen]; omega), hv, el]
        exact upL_step hk.start hrt
      refine xs_swap (xs_frzK 6 rfl rfl ?_)
      refine xs_app (q := qn) (P := PD K (eL (upL g b st rows (t + 1)))) (xe_var 3) (YE.dat (xe_var 6) (congrArg eL hfin)) (by rw [List.length_map, List.length_map]; unfold upLs; rw [List.length_map, List.length_range]; omega) (xs_turn (fun σ H h => h) ⟨⟨_, _, _, _, _, _, rfl⟩, ?_⟩) (pe_bm PySem.F.plainAttrs_list PySem.F.slot_list_append PySem.F.type_list_append mt_append pe_wp (pa_cons pe_wp pa_nil))
      rw [upLs_snoc (n := t + 1)]
      simp
  · rintro Γ1 Rs1 ⟨⟨a4, a5, a6, a7, a8, a9, rfl⟩, rfl⟩
    refine xs_frzK 3 rfl rfl ?_
    refine xs_ret (YE.dat (xe_var 3) ?_) fun v H0 H s k hv => hQ v H0 H s k hv
    have e : (((linksM g b rows).map eLL).map (PD K)).length = rows.length := by
      unfold linksM
      simp
    show PyData.list ((upLs g b st rows ((((linksM g b rows).map eLL).map (PD K)).length + 1)).map eL) = _
    rw [e]
end
end K42
namespace K42
open PySem L2 Lh
theorem count_log {g b st : List Int} {rows : List Row} (h9 : g.length ≤ 9) (hs : ∀ x ∈ st, 0 ≤ x ∧ x ≤ g.length) (hz : st.length ≤ 10) (hn : rows.length ≤ 2000) : (countM g b st rows).natAbs.log2 < 9000 := by
  have h0 : 0 ≤ countM g b st rows := sumAt_nn (headM_nn rows) st
  by_cases h : countM g b st rows = 0
  · rw [h]
    decide
  · exact log_cap (by omega) (count_cap h9 hs hz) hn
/-- the ways through a floor at a moment -/
def thrM (g b st : List Int) (rows : List Row) (t : Nat) (f : Int) : Int := upM g b st rows t f * S g b (rows.drop t) f
def thrL (g b st : List Int) (rows : List Row) (t : Nat) : List Int := (rgI 0 (g.length + 1)).map (thrM g b st rows t)
def thrLs (g b st : List Int) (rows : List Row) (n : Nat) : List (List Int) := (List.range n).map fun t => thrL g b st rows t
theorem thrLs_snoc {g b st : List Int} {rows : List Row} {n : Nat} : thrLs g b st rows (n + 1) = thrLs g b st rows n ++ [thrL g b st rows n] := by
  unfold thrLs
  rw [List.range_succ, List.map_append]
  rfl
theorem ahead_at {g b : List Int} {rows : List Row} {t : Nat} (h : t ≤ rows.length) : (numsM (g.length + 1) (linksM g b rows))[t]? = some (headM g b (rows.drop t)) := by
  have e := numsM_at (g.length + 1) (linksM g b rows) t (by unfold linksM; rw [List.length_map]; exact h)
  rw [e]
  have e2 : (linksM g b rows).drop t = linksM g b (rows.drop t) := by
    unfold linksM
    rw [List.map_drop]
  rw [e2]
  rfl
theorem one_count {g b : List Int} {rows : List Row} {f : Int} : countM g b [f] rows = S g b rows f := by
  show (([f] : List Int).map fun x => S g b rows x).sum = _
  simp
section
variable {K : PySem.W.Frag} {mg : Str → Option Value} {base : Heap} {P : Program} {w : World}
abbrev spThr (K : PySem.W.Frag) (C : Addr) : Sp := SpP (α := { p : (List Int × List Int) × List Int × List Row // UpOk p.1.1 p.2.1 p.2.2 }) (fun p => [PHo K C p.1.1.1 p.1.1.2, PD K (.tuple (li p.1.2.1)), PD K (eLLL (linksM p.1.1.1 p.1.1.2 p.1.2.2))]) (fun p => PD K (eLL (thrLs p.1.1.1 p.1.1.2 p.1.2.1 p.1.2.2 (p.1.2.2.length + 1))))
theorem ok_numbers_through (T : Txt K mg) : FnOk P w K mg base CX0 7 T.f_numbers_through T.d_numbers_through ["house", "start", "links"] (spThr K T.C_House) := by
  refine fn_F T.F_numbers_through sc_numbers_through (fun _ => rfl) fun ⟨⟨⟨g, b⟩, st, rows⟩, hok⟩ Z0 Z Q X qX hQ => ?_
  obtain ⟨cdv, A, outer, s, E, rfl, hr⟩ := qX
  have hk : UpOk g st rows := hok
  have h9 := hk.nine
  have hsz := hk.size
  have hl := linksM_ok (g := g) (b := b) hk.size
  refine xs_newL 3 (ds := []) xa_nil (by simp) (fun q => ?_) cov0 sc_numbers_through.nd
  refine xs_forP 4 5 (xi_zip T.z_zip (xe_callD (ok_numbers_behind T) ⟨((g, b), st, rows), hk⟩ (hr.mono (by decide)) T.g_numbers_behind T.F_numbers_behind.kp T.b_numbers_behind (xa_cons (xe_var 0) (xa_cons (xe_var 1) (xa_1 (xe_var 2))))) (xe_callD (ok_numbers_ahead T) ⟨((g, b), linksM g b rows), hk.nine, hl⟩ (hr.mono (by decide)) T.g_numbers_ahead T.F_numbers_ahead.kp T.b_numbers_ahead (xa_cons (xe_var 0) (xa_1 (xe_var 2))))) (fun t Γ1 Rs1 => (∃ a5 a6 a7 a8, Γ1 = [some (PHo K T.C_House g b), some (PD K (.tuple (li st))), some (PD K (eLLL (linksM g b rows))), some (PV (.ref q)), a5, a6, a7, a8]) ∧ Rs1 = [Res.lst Z q (((thrLs g b st rows t).map eL).map (PD K))]) ⟨⟨none, none, none, none, rfl⟩, rfl⟩ ?_ ?_ sc_numbers_through.nd
  · rintro t Qt Γ1 Rs1 hq ⟨⟨a5, a6, a7, a8, rfl⟩, rfl⟩
    obtain ⟨d, e, hd, he, rfl⟩ := zip_at hq
    obtain ⟨u, hu, rfl⟩ := enc_at hd
    obtain ⟨v, hv, rfl⟩ := enc_at he
    refine ⟨_, _, rfl, fun Hs => ?_⟩
    have hlt : t ≤ rows.length := by
      have h := (List.getElem?_eq_some_iff.mp hu).1
      have e : (upLs g b st rows (rows.length + 1)).length = rows.length + 1 := by
        unfold upLs
        rw [List.length_map, List.length_range]
      have h' : t < (upLs g b st rows (rows.length + 1)).length := h
      omega
    have eu : u = upL g b st rows t := by
      have h : (upLs g b st rows (rows.length + 1))[t]? = some u := hu
      unfold upLs at h
      rw [List.getElem?_map, List.getElem?_range (by omega)] at h
      exact (Option.some.inj h).symm
    have ev : v = headM g b (rows.drop t) := by
      have h : (numsM (g.length + 1) (linksM g b rows))[t]? = some v := hv
      rw [ahead_at hlt] at h
      exact (Option.some.inj h).symm
    have hul : u.length = g.length + 1 := by rw [eu, upL_len]
    have hvl : v.length = g.length + 1 := by rw [ev, headM_len (by rw [List.length_drop]; omega)]
    have hthr : (thrL g b st rows t).length = g.length + 1 := by
      unfold thrL
      rw [List.length_map, rgI_len]
    have hzl : (List.zipWith (fun d e => PT2 K (PD K d) (PD K e)) (li u) (li v)).length = g.length + 1 := by
      rw [List.length_zipWith, List.length_map, List.length_map, hul, hvl]
      omega
    refine xs_app (q := q) (P := PD K (eL (thrL g b st rows t))) (xe_var 3) (YE.imp (xe_lcP (K := K) 6 7 (by decide) (xi_zip T.z_zip (xe_var 4) (xe_var 5)) (fun i ds => ds = li ((thrL g b st rows t).take i)) rfl (fun i Qi hqi => ?_) sc_numbers_through.nd (blkOk_by rfl) (by rw [List.length_zipWith, List.length_map, List.length_map, hul, hvl]; omega) cov0 (fun _ _ _ _ _ => pg_tup rfl (pgs_cons (pg_name (i := 6) sc_numbers_through.nd rfl (Or.inl rfl)) (pgs_cons (pg_name (i := 7) sc_numbers_through.nd rfl (Or.inl rfl)) pgs_nil)))) (fun v1 H h => ?_)) (by
        rw [List.length_map, List.length_map]
        unfold thrLs
        rw [List.length_map, List.length_range]
        omega) (xs_turn (fun σ H h => h) ⟨⟨_, _, _, _, rfl⟩, ?_⟩) (pe_bm PySem.F.plainAttrs_list PySem.F.slot_list_append PySem.F.type_list_append mt_append pe_wp (pa_cons pe_wp pa_nil))
    · obtain ⟨d2, e2, hd2, he2, rfl⟩ := zip_at hqi
      obtain ⟨x, hx, rfl⟩ := li_at hd2
      obtain ⟨y, hy, rfl⟩ := li_at he2
      refine ⟨_, _, rfl, fun s0 H0 C cl fp => ?_⟩
      have hi : i < g.length + 1 := by
        have h := (List.getElem?_eq_some_iff.mp hx).1
        have h' : i < u.length := h
        omega
      have ex : x = upM g b st rows t (i : Int) := by
        have h : gtI u (i : Int) = x := by
          unfold gtI
          rw [List.getD_eq_getElem?_getD, Int.toNat_natCast, hx]
          rfl
        rw [← h, eu, upL_at (by omega) (by omega)]
      have ey : y = S g b (rows.drop t) (i : Int) := by
        have h : gtI v (i : Int) = y := by
          unfold gtI
          rw [List.getD_eq_getElem?_getD, Int.toNat_natCast, hy]
          rfl
        rw [← h, ev]
      have hmul : CMulW x y := by
        have h1 := count_log (b := b) (rows := rows.take t ++ [Row.look [(i : Int)]]) h9 hk.start hk.few (by rw [List.length_append, List.length_take]; simp; omega)
        have h2 := count_log (b := b) (st := [(i : Int)]) (rows := rows.drop t) h9 (fun z hz => by
          have e : z = (i : Int) := by simpa using hz
          rw [e]
          omega) (by simp) (by rw [List.length_drop]; omega)
        rw [one_count] at h2
        rw [ex, ey]
        unfold CMulW
        have h1' : (upM g b st rows t (i : Int)).natAbs.log2 < 9000 := h1
        omega
      have hat : (thrL g b st rows t)[i]? = some (x * y) := by
        unfold thrL
        rw [List.getElem?_map]
        have e : (rgI 0 (g.length + 1))[i]? = some (i : Int) := by
          unfold rgI
          simp [hi]
        rw [e, ex, ey]
        rfl
      refine YE.imp (xe_mul (xe_var 6) (xe_var 7) hmul) fun v2 H h => ⟨_, fun ds _ e => ?_, h⟩
      have e' : ds = li ((thrL g b st rows t).take i) := e
      show ds ++ [PyData.int (x * y)] = li ((thrL g b st rows t).take (i + 1))
      rw [e', List.take_add_one, hat]
      simp [li]
    · obtain ⟨ds, ⟨e, _⟩, h2⟩ := h
      have e2 : ds = li ((thrL g b st rows t).take (List.zipWith (fun d e => PT2 K (PD K d) (PD K e)) (li u) (li v)).length) := e
      rw [hzl, ← hthr, List.take_length] at e2
      subst e2
      exact h2
    · rw [thrLs_snoc]
      simp
  · rintro Γ1 Rs1 ⟨⟨a5, a6, a7, a8, rfl⟩, rfl⟩
    refine xs_frzK 3 rfl rfl ?_
    refine xs_ret (YE.dat (xe_var 3) ?_) fun v H0 H s k hv => hQ v H0 H s k hv
    have e : (List.zipWith (fun d e => PT2 K (PD K d) (PD K e)) ((upLs g b st rows (rows.length + 1)).map eL) ((numsM (g.length + 1) (linksM g b rows)).map eL)).length = rows.length + 1 := by
      rw [List.length_zipWith, List.length_map, List.length_map, numsM_len]
      unfold upLs linksM
      simp
    show PyData.list ((thrLs g b st rows (List.zipWith (fun d e => PT2 K (PD K d) (PD K e)) ((upLs g b st rows (rows.length + 1)).map eL) ((numsM (g.length + 1) (linksM g b rows)).map eL)).length).map eL) = _
    rw [e]
end
end K42
namespace Lh
open PySem L2
open Evl (Ex ex_l ex_t ex_rd fresh_back)
/-- the tuple of two classes that was just laid -/
def PTys (n m : String) : Pd := ⟨fun v H => ∃ a, v = .ref a ∧ H a = some (.tup [.ty n, .ty m]), fun e ⟨a, h1, h2⟩ => ⟨a, h1, e _ _ h2⟩⟩
section
variable {M : Addr → Prop} {Γ Γ' : Ct} {Rs : List Res} {X : Cx} {Z0 Z Hl : Hp} {D : Ends} {K : PySem.W.Frag} {rest : List Stmt} {a b e : Expr} {es : List Expr} {pos p : Pos} {i j k : Int}
theorem xe_tys {n m : String} {x1} (h : XA M Γ Rs X es [PV (.ty n), PV (.ty m)]) : XE M Γ Rs X (.Tuple es x1 pos) (PTys n m) :=
  YE.wp (pe_tup pa_wp) fun σ H0 H l ex k Q q => h σ H0 H l ex k _ fun xs H1 G1 s1 k1 a1 => ⟨by have := a1.1; rw [this]; exact Nat.le_trans (show 2 ≤ 1000 by decide) (by decide), fun p hp => by
    obtain ⟨x, r, e1, h1, h3⟩ := a1.inv
    obtain ⟨y, r', e2, h2, h4⟩ := h3.inv
    have e3 := h4.nil_inv
    have h1' : x = .ty n := h1
    have h2' : y = .ty m := h2
    subst e1 e2 e3 h1' h2'
    exact q _ (upd H1 p (.tup [.ty n, .ty m])) _ (s1.trans (Step.new s1.le hp)) (k1.step0 (Step.new s1.le hp)) ⟨p, rfl, upd_same⟩⟩
/-- isinstance(a, (tuple, list)) -/
theorem xe_isiTL {d : PyData} {u : Bool} {p1 p2 tpos : Pos} {kt} (hm : X.mg "isinstance" = none) (hm1 : X.mg "tuple" = none) (hm2 : X.mg "list" = none) (hk : PySem.W.kitAny X.K (.type (tyS d)) [.type "tuple", .type "list"] = some u) (h : XE M Γ Rs X a (PD X.K d)) (hb : bootBuiltins "isinstance" = some (.builtin "isinstance") := by decide +kernel) (hg : Gl X "isinstance" := by rfl) (hg1 : Gl X "tuple" := by rfl) (hg2 : Gl X "list" := by rfl)
    (he : starEach [a, .Tuple [.Name "tuple" p1, .Name "list" p2] kt tpos] X.env = (false, eval a X.env) :: starEach [.Tuple [.Name "tuple" p1, .Name "list" p2] kt tpos] X.env := by rfl) (he2 : starEach [.Tuple [.Name "tuple" p1, .Name "list" p2] kt tpos] X.env = (false, eval (.Tuple [.Name "tuple" p1, .Name "list" p2] kt tpos) X.env) :: starEach [] X.env := by rfl)
    (he3 : starEach [.Name "tuple" p1, .Name "list" p2] X.env = (false, eval (.Name "tuple" p1) X.env) :: starEach [.Name "list" p2] X.env := by rfl) (he4 : starEach [.Name "list" p2] X.env = (false, eval (.Name "list" p2) X.env) :: starEach [] X.env := by rfl) (hpl : (backTo pos (starEach [.Tuple [.Name "tuple" p1, .Name "list" p2] kt tpos] X.env)).any (·.1) = false := by rfl) :
    XE M Γ Rs X (.Call (.Name "isinstance" p) [a, .Tuple [.Name "tuple" p1, .Name "list" p2] kt tpos] [] pos) (PD X.K (.bool u)) :=
  xe_callB call_isiT hm hb (xa_cons h (xa_1 (xe_tys (xa_cons (xe_bltn (v := .ty "tuple") hm1 (by decide +kernel) rfl hg1 (by decide) (by decide)) (xa_1 (xe_bltn (v := .ty "list") hm2 (by decide +kernel) rfl hg2 (by decide) (by decide)) he4) he3)) he2) he) (fun xs H0 H hx e _ => by
    obtain ⟨x, r, e1, h1, h3⟩ := hx.inv
    obtain ⟨y, r', e2, ⟨t, e4, h2⟩, h4⟩ := h3.inv
    have e3 := h4.nil_inv
    subst e1 e2 e3 e4
    exact Yld.val (z := .bl u) e rfl fun Q k => ⟨x, t, _, _, _, u, rfl, e _ _ h2, .cons (.ty _) (.cons (.ty _) .nil), ty_of (Dd.ex e _ _ h1), hk, k⟩) hg (by decide) (by decide) he hpl
end
end Lh
namespace Lh
open PySem L2 PySem.Spec PyProof.Rows
abbrev set0 (w : World) : Obj := { cls := .type "set", dict := none, data := .set #[] 0 (.fresh 0 0 (!w.params.followText "set-order")) }
theorem set0_R {w : World} {h : Heap} {D : Addr} {ns : List Int} (e : h.get? D = some (set0 w)) : SetR w h D (fun j => decide (j ∈ ns.take 0)) 0 := setR_new_at e
section
variable {s : Shared} {A : Around} {P : Program} {w : World} {E : Value → Shared → Prop}
/-- `__init__` of a new set, of a list of ints -/
theorem init_ints {D l : Addr} {items : Array Value} {ns : List Int} {Q : Value → Shared → Prop} (hh : A.handled = none) (hs : s.heap.get? D = some (set0 w)) (hl : s.heap.IsList l items) (hi : IntsAre items.toList ns) (hz : items.size = ns.length) (hb : ns.length + 1 < scanBound)
    (hQ : ∀ (h : Heap) (k c : Nat), SetR w h D (fun j => decide (j ∈ ns)) c → c ≤ ns.length → (∀ b o, b ≠ D → s.heap.get? b = some o → h.get? b = some o) → Q .none { s with heap := h, toks := k }) :
    codeAny (model P w) A (.call (.builtin "set.__init__") ⟨[.ref D, .ref l], []⟩) (wants Q E) s := by
  have tyD : s.TypeIs (.ref D) "set" := ⟨_, hs, rfl⟩
  refine codeAny_call_builtin F.called_set.init.plain F.entry_set_init (check_set_init_1 tyD ?_)
  have lD : l ≠ D := fun e => by
    obtain ⟨o, ho, hc, _⟩ := hl
    rw [e, hs] at ho
    rw [← Option.some.inj ho] at hc
    exact absurd (Value.type.inj hc) (by decide)
  obtain ⟨o, ho, oc, n, od⟩ := id hl
  obtain ⟨c0, d0, t0, p0⟩ := o
  dsimp only at oc od
  subst oc od
  have nd : (Value.type "list" == Value.type "dict") = false := by decide
  have k1 := F.sub_list_set
  have k2 := F.sub_list_frozenset
  unfold Builtin.«set.__init__»
  unfold Builtin.Frozenset.updateFrom noKeywords
  generalize eI : pyIter = I
  wp_walk
  subst eI
  refine wpAny_pyIter_list hl (wpAny_bind (wpAny_runValue ?_))
  have dI : D ∉ [s.heap.objs.size, l] := fun m => by
    obtain e | e := List.mem_cons.mp m
    · exact absurd (Heap.lt_size hs) (by rw [e]; exact Nat.lt_irrefl _)
    · exact lD (List.mem_singleton.mp e).symm
  have at_ : ∀ (i : Nat) (v : Value), items[i]? = some v → ∃ k t, ns[i]? = some k ∧ v = .int k t := fun i v e => by
    have lt : i < ns.length := hz ▸ (Array.getElem?_eq_some_iff.mp e).1
    obtain ⟨t, e2⟩ := IntsAre.int_at hi i v (by rw [Array.getElem?_toList]; exact e)
    exact ⟨ns[i], t, List.getElem?_eq_getElem lt, by rw [e2, List.getD_eq_getElem?_getD, List.getElem?_eq_getElem lt]; rfl⟩
  refine set_update_ints (n := items.size) ((Walks.list (by simp [hh]) _ l (Nat.ne_of_lt (Heap.lt_size ho)) items).toS) D dI ns hz hb at_ _ 0 _ rfl (Nat.zero_le _) ⟨⟨_, Heap.get?_push_size _ rfl, rfl, rfl⟩, hl.push _⟩ ⟨0, Nat.le_refl 0, set0_R (Heap.get?_push_of_some _ hs)⟩ fun s' c mv hc R => ?_
  obtain ⟨h2, g2, d2, k3, o2⟩ := s'
  obtain rfl : g2 = s.gens := mv.gens
  obtain rfl : d2 = s.drawn := mv.drawn
  obtain rfl : o2 = s.os := mv.os
  refine wpAny_pure (wpAny_pure (hQ h2 k3 c R (hz ▸ hc) fun b o nb e => ?_))
  refine mv.heap b o (fun m => ?_) (Heap.get?_push_of_some _ e)
  rcases List.mem_cons.mp m with e1 | e1
  · exact nb e1
  · exact absurd (Heap.lt_size e) (by rw [List.mem_singleton.mp e1]; exact Nat.lt_irrefl _)
/-- a built-in type called: what `__new__` gives, then `__init__` -/
theorem call_type {T newId initId : String} {xs : List Value} {Q N : Value → Shared → Prop} (ft : TypeCalled T newId initId) (fits : checkTypeCall T ⟨xs, []⟩ = pure ())
    (h1 : codeAny (model P w) A.in1 (.call (.builtin newId) ⟨.type T :: xs, []⟩) (wants N E) s)
    (h2 : ∀ v z, N v z → z.TypeIs v T ∧ codeAny (model P w) A.in1 (.call (.builtin initId) ⟨v :: xs, []⟩) (wants (fun r z' => r = .none ∧ Q v z') E) z) : wpAny (model P w) A (call (.type T) xs) Q E s := by
  obtain ⟨u1, u2, ⟨_, _, u3⟩, u4, _, u5, u6⟩ := ft
  have u7 := u6.lookup
  refine wpAny_call (codeAny_of_tree (show wpAny _ _ (callAny (.type T) _) _ _ _ from ?_))
  refine wpAny_pure (And.intro (Code.quiet_builtin _ (by decide +kernel)) (codeAny_builtin F.entry_type_call ?_))
  rw [Around.under_plain (weight_type_call_type T xs []) (units_type_call_type T xs [])]
  repeat' first | assumption | wp_step
  refine codeAny_mono h1 fun r z hr => ?_
  match r, hr with
  | .error _, hr => exact hr
  | .ok (.ret v), hr =>
    obtain ⟨tv, h3⟩ := h2 v z hr
    have u8 := u6.bind v
    repeat' first | assumption | wp_step
    refine codeAny_mono h3 fun r' z' hr' => ?_
    match r', hr' with
    | .error _, hr' => exact hr'
    | .ok (.ret _), ⟨rfl, hq⟩ => 
      repeat' first | assumption | wp_step
/-- set(l), of a list of ints -/
theorem call_setL {l : Addr} {items : Array Value} {ns : List Int} {Q : Value → Shared → Prop} (hh : A.handled = none) (hl : s.heap.IsList l items) (hi : IntsAre items.toList ns) (hb : ns.length + 1 < scanBound)
    (hQ : ∀ (h : Heap) (k c : Nat), SetR w h s.heap.objs.size (fun j => decide (j ∈ ns)) c → c ≤ ns.length → (∀ b o, s.heap.get? b = some o → h.get? b = some o) → Q (.ref s.heap.objs.size) { s with heap := h, toks := k }) :
    wpAny (model P w) A (call (.type "set") [Value.ref l]) Q E s := by
  refine call_type (N := fun v z => v = .ref s.heap.objs.size ∧ z = { s with heap := s.heap.push (set0 w) }) F.called_set (F.typeCall_set_1 _) (code_set_led1 _ ⟨rfl, rfl⟩) ?_
  rintro v z ⟨rfl, rfl⟩
  exact ⟨⟨_, Heap.get?_push_size _ rfl, rfl⟩, init_ints (ns := ns) (by simp [hh]) (Heap.get?_push_size _ rfl) (hl.push _) hi (by have := IntsAre.length hi; rw [Array.length_toList] at this; exact this) hb fun h k c R hc kp => ⟨rfl, hQ h k c R hc fun b o e => kp b o (Nat.ne_of_lt (Heap.lt_size e)) (Heap.get?_push_of_some _ e)⟩⟩
end
section
variable {X : Cx}
theorem same_len {a b : List Int} (ha : a.Nodup) (hb : b.Nodup) (h : ∀ z, z ∈ a ↔ z ∈ b) : a.length = b.length := ((List.perm_ext_iff_of_nodup ha hb).mpr h).length_eq
theorem vals_ints : ∀ {ns : List Int} {us : List Value}, Vals (ns.map V.int) us → IntsAre us ns
  | [], _, .nil => .nil
  | n :: _, _, .cons ⟨t, e⟩ r => e ▸ .cons n t (vals_ints r)
/-- set(l), l a list of ints: its number is that of any list of the same ones, each once -/
def rSetL (K : PySem.W.Frag) (w : World) : List V → Hp → VK → Prop := fun vs H Q => ∃ (l : Addr) (ns : List Int), vs = [.ref l] ∧ SqL K H l (ns.map V.int) ∧ ns.length + 1 < scanBound ∧
  ∀ (D : Addr) (c : Nat), H D = none → (∀ R : List Int, R.Nodup → (∀ z, z ∈ R ↔ z ∈ ns) → c = R.length) → Q (.ref D) (upd H D (SetO w D (fun j => decide (j ∈ ns)) c))
theorem cr_setL (hc : X.calm = true) : CallR X (.type "set") (rSetL X.K X.w) := by
  intro pins s σ H vs us Q I ra h
  obtain ⟨l, ns, rfl, hl, hb, q⟩ := h
  rw [Vals.ref1 ra]
  obtain ⟨kids, rv, pl, -⟩ := I.list hl
  refine call_setL (ns := ns) (I.ok.hd hc) pl.isList (by simpa using vals_ints rv) hb fun h k c R _ kp => ?_
  refine ⟨.ref s.heap.objs.size, _, I.laid (t' := k) kp (Nat.le_refl _) (setO_new R), rfl, q _ c (I.hok.fresh (Nat.le_refl _)) fun L hn hL => ?_⟩
  obtain ⟨_, es, _, _, _, _, _, _, nd, mem, _, _, rfl, _⟩ := R
  rw [← Array.length_toList, ← List.length_map (f := keyOf)]
  exact same_len nd hn fun z => by rw [hL z, ← mem z, decide_eq_true_eq]
/-- sorted(t), t a tuple of ints -/
def rSortTup (K : PySem.W.Frag) : List V → Hp → VK → Prop := fun vs H Q => ∃ (a : Addr) (ns : List Int), vs = [.ref a] ∧ SqT K H a (ns.map V.int) ∧
  ∀ (ms : List Int) (p : Addr), ms.Perm ns → ms.Pairwise (· ≤ ·) → H p = none → Q (.ref p) (upd H p (.lst (ms.map V.int)))
theorem cr_sortTup : CallR X (.builtin "sorted") (rSortTup X.K) := by
  intro pins s σ H vs us Q I ra h
  obtain ⟨a, ns, rfl, ht, q⟩ := h
  rw [Vals.ref1 ra]
  obtain ⟨its, rv, ⟨o, ho, oc, n, od⟩, hz⟩ := I.tuple ht
  have hi := vals_ints rv
  have hz' : its.length ≤ sizeLine := by rw [← rv.length]; exact hz
  refine Calls.call_function_entry (args := _) kind_sorted plain_sorted entry_sorted (args_sorted1 _) (show wpAny _ _ (Builtin.«sorted» _) _ _ _ from ?_)
  unfold Builtin.«sorted»
  refine wpAny_bind (m := checkCount "sorted" 1 1 _) (wpAny_pure (wpAny_bind (wpAny_collect_seq a (.inr rfl) ho oc od (fun h kp => ?_) (by simpa using hz'))))
  refine wpAny_bind (wpAny_newList ?_ (by simpa using hz'))
  have at_ : (h.push (seqObj "list" its.toArray 0)).get? h.objs.size = some (seqObj "list" its.toArray 0) := Heap.get?_push_size _ rfl
  refine wpAny_bind (wpAny_holding (wpAny_call_entry slot_list_sort ⟨_, at_, rfl⟩ entry_list_sort (SrtO.list_sort_ord SrtO.swo_int at_ hz' (fun h2 => SrtO.ints_sortable hi h2) fun out o1 o2 => ⟨_, rfl, ?_⟩) (args_list_sort _)))
  obtain ⟨e1, e2, e3⟩ := SrtO.ints_out hi o1 o2
  obtain ⟨c, hc⟩ := sortedHeap_at (vs := its) (out := out.toArray) at_
  have I2 : Inv X pins σ H { s with heap := h } := I.kept (t' := s.toks) kp
  refine wpAny_pure ⟨_, rfl, .ref h.objs.size, _, I2.laid (t' := s.toks) (fun b u e => ?_) (Nat.le_refl _) (o := .lst ((out.map SrtO.iv).map V.int)) ⟨by rw [List.length_map, e2.length_eq, ← hi.length]; exact hz', out, c, vals_of_ints e1, hc⟩, rfl, q _ _ e2 e3 (I2.hok.fresh (Nat.le_refl _))⟩
  have lt := Heap.lt_size e
  show (sortedHeap _ _ _ _).get? b = some u
  rw [sortedHeap_old (Nat.ne_of_lt lt) (by rw [size_push']; exact Nat.lt_succ_of_lt lt)]
  exact Heap.get?_push_of_some _ (by exact e)
end
section
open Evl (Ex ex_l ex_t ex_rd fresh_back)
variable {M : Addr → Prop} {Γ Γ' : Ct} {Rs : List Res} {X : Cx} {a : Expr} {p pos p2 pos2 : Pos}
/-- sorted of a tuple of ints -/
theorem xe_sortTup {ns ms : List Int} (hm : X.mg "sorted" = none) (h : XE M Γ Rs X a (PD X.K (.tuple (li ns)))) (hs : ∀ l : List Int, l.Perm ns → l.Pairwise (· ≤ ·) → l = ms) (hg : Gl X "sorted" := by rfl) (he : starEach [a] X.env = (false, eval a X.env) :: starEach [] X.env := by rfl) :
    XE M Γ Rs X (.Call (.Name "sorted" p) [a] [] pos) (PD X.K (.list (li ms))) :=
  xe_callB cr_sortTup hm (by decide +kernel) (xa_1 h he) (fun xs H0 H hx e _ => by
    obtain ⟨x, e1, q, ys, e2, h1, h2⟩ := da1 hx
    have e3 := h2.ints
    subst e1 e2 e3
    exact Yld.newL e (DdAll.of_ints ms) fun Q k => ⟨q, ns, rfl, ex_t e h1, fun l p' hp hw hn => by rw [hs l hp hw]; exact k p' hn⟩) hg (by decide) (by decide) he rfl
/-- sorted(set(l)), l a list of ints -/
theorem xe_sortSet {ns R : List Int} (hm : X.mg "sorted" = none) (hm2 : X.mg "set" = none) (h : XE M Γ Rs X a (PD X.K (.list (li ns)))) (hz : ns.length ≤ 4000) (hR : R.Pairwise (· < ·)) (h64 : R.length < 64) (hmem : ∀ z, z ∈ R ↔ z ∈ ns)
    (hc : X.calm = true := by rfl) (hg : Gl X "sorted" := by rfl) (hg2 : Gl X "set" := by rfl) (he : starEach [a] X.env = (false, eval a X.env) :: starEach [] X.env := by rfl)
    (he2 : starEach [.Call (.Name "set" p2) [a] [] pos2] X.env = (false, eval (.Call (.Name "set" p2) [a] [] pos2) X.env) :: starEach [] X.env := by rfl) :
    XE M Γ Rs X (.Call (.Name "sorted" p) [.Call (.Name "set" p2) [a] [] pos2] [] pos) (PD X.K (.list (li R))) :=
  YE.wp (pe_callB (cr_sortedSet hc) hg hm (by decide +kernel) (pa_cons (pe_callTy (cr_setL hc) hg2 hm2 (by decide +kernel) (pa_cons pe_wp pa_nil he) (by decide) (by decide) he rfl) pa_nil he2) (by decide) (by decide) he2 rfl) fun σ H0 H l ex k Q q => h σ H0 H l ex k _ fun v H1 G1 s1 k1 hv => by
    obtain ⟨t, ys, rfl, h1, h2⟩ := hv
    obtain rfl := h2.ints
    refine ⟨t, ns, rfl, SqL.of (s1.le _ _ h1), by unfold scanBound; omega, fun D c hD hn => ⟨D, _, c, rfl, upd_same, ?_, fun l p' hp hmm hl hfr => ?_⟩⟩
    · rw [hn R (hR.imp fun h => Int.ne_of_lt h) hmem]
      exact h64
    · have el : l = R := asc_ext hp hR fun z => by rw [hmm z, decide_eq_true_eq, hmem z]
      subst el
      have nr : ∀ r ∈ Rs, ∀ a ∈ r.ad, a ≠ D := fun r hr a ha e => by
        obtain ⟨⟨o, h1⟩, _⟩ := r.tr (k1.2 r hr) a ha
        rw [e, hD] at h1
        cases h1
      have hD0 : H D = none := by
        cases e : H D with
        | none => rfl
        | some o =>
          obtain ⟨u, h⟩ := s1.th D o e
          rw [hD] at h
          cases h
      have t2 := s1.side (o := SetO X.w D (fun j => decide (j ∈ ns)) c) hD0 (fresh_back s1.le hD)
      exact q (.ref p') (upd H1 p' (.lst (l.map V.int))) _ (t2.trans (Step.new t2.le hfr)) ((k1.wr nr).step0 (Step.new t2.le hfr)) ⟨p', _, rfl, upd_same, DdAll.of_ints _⟩
end
end Lh
namespace Lh
open PySem L2
open Evl (Ex ex_l ex_t ex_rd fresh_back)
section
variable {M : Addr → Prop} {Γ Γ' : Ct} {Rs : List Res} {X : Cx} {Z0 Z Hl : Hp} {D : Ends} {K : PySem.W.Frag} {rest : List Stmt} {a b c e : Expr} {es : List Expr} {pos p : Pos}
/-- x, y, z = a, b, [], where x, y or z is also read further in -/
theorem xs_parC3 (i j m : Nat) {x y z : Str} {P Q : Pd} {px py pz pt pl : Pos} {kt k2 pt2} (ha : XE M Γ Rs X a P) (hb : XE M Γ Rs X b Q) (h : ∀ q, XS M (((Γ.set i (some P)).set j (some Q)).set m (some (PV (.ref q)))) (Res.lst Z q [] :: Rs) X Z0 Z Hl D rest) (hN : X.N.Nodup) (hc : X.calm = true := by rfl) (hx : X.N[i]? = some x := by rfl) (hy : X.N[j]? = some y := by rfl) (hz : X.N[m]? = some z := by rfl)
    (hl : Loc X.env.scope x := by first | exact Or.inl rfl | exact Or.inr rfl) (hl2 : Loc X.env.scope y := by first | exact Or.inl rfl | exact Or.inr rfl) (hl3 : Loc X.env.scope z := by first | exact Or.inl rfl | exact Or.inr rfl)
    (hf : X.fn x = true ∨ X.env.scope.names.lookup x = some .local := by first | exact .inl rfl | exact .inr rfl) (hf2 : X.fn y = true ∨ X.env.scope.names.lookup y = some .local := by first | exact .inl rfl | exact .inr rfl) (hf3 : X.fn z = true ∨ X.env.scope.names.lookup z = some .local := by first | exact .inl rfl | exact .inr rfl)
    (hs : swapsWithSole [.Tuple [.Name x px, .Name y py, .Name z pz] kt pt] (.Tuple [a, b, .List [] pl] k2 pt2) pos.line X.env = pure false := by rfl) (hw : swappedStores [.Tuple [.Name x px, .Name y py, .Name z pz] kt pt] (.Tuple [a, b, .List [] pl] k2 pt2) X.env = pure none := by rfl)
    (h1 : (assignEach [.Tuple [.Name x px, .Name y py, .Name z pz] kt pt] X.env).map (·.2) = [assign (.Tuple [.Name x px, .Name y py, .Name z pz] kt pt) X.env] := by rfl)
    (he : starEach [a, b, .List [] pl] X.env = (false, eval a X.env) :: starEach [b, .List [] pl] X.env := by rfl) (he1 : starEach [b, .List [] pl] X.env = (false, eval b X.env) :: starEach [.List [] pl] X.env := by rfl) (he2 : starEach [.List [] pl] X.env = (false, eval (.List [] pl) X.env) :: starEach [] X.env := by rfl) :
    XS M Γ Rs X Z0 Z Hl D (.Assign [.Tuple [.Name x px, .Name y py, .Name z pz] kt pt] (.Tuple [a, b, .List [] pl] k2 pt2) pos :: rest) :=
  xs_cons (ps_asg (pe_tup (pa_cons pe_wp (pa_cons pe_wp (pa_cons (pe_lst pa_nil) pa_nil he2) he1) he)) (pg_tup hc (pgs_cons (pg_name hN hx hl hf) (pgs_cons (pg_name hN hy hl2 hf2) (pgs_cons (pg_name hN hz hl3 hf3) pgs_nil)))) hs hw h1) fun σ H0 H l s k0 r => ha σ H0 H l s.le r _ fun v H1 G1 s1 k1 a1 => hb σ H1 G1 (l.ex s1.ex) s1.le k1 _ fun u H2 G2 s2 k2 a2 => ⟨show 0 ≤ sizeLine by decide, fun p hp => ⟨show 3 ≤ sizeLine by decide, fun t ht => by
    have t2 := (s.trans s1).trans s2
    have ne : ∀ r ∈ Rs, ∀ a ∈ r.ad, a ≠ p := fun r hr a ha e => by
      obtain ⟨⟨o, h1⟩, _⟩ := r.tr (k2.2 r hr) a ha
      rw [e, hp] at h1
      cases h1
    have hZ : Z p = none := by
      cases e : Z p with
      | none => rfl
      | some o =>
        obtain ⟨o', h'⟩ := t2.th p o e
        rw [hp] at h'
        cases h'
    have t3 : Step M Z0 Z H2 (upd G2 p (.lst [])) := ⟨fun a o hm ha => by
        rw [upd_ne (ne_of_none ha hZ)]
        exact t2.un a o hm ha, fun a o ha => by
        obtain ⟨o', h'⟩ := t2.th a o ha
        exact ⟨o', by rw [upd_ne (ne_of_none h' hp)]; exact h'⟩, t2.ex, fun a o ha => by
        rw [upd_ne (ne_of_none (t2.le a o ha) hp)]
        exact t2.le a o ha, t2.nw⟩
    have k3 : Rok (Res.lst Z p [] :: Rs) H2 (upd G2 p (.lst [])) := ⟨by
        rw [List.flatMap_cons, List.nodup_append]
        refine ⟨by simp [Res.lst], k2.1, fun a ha c hc e => ?_⟩
        have e1 : a = p := by simpa [Res.lst] using ha
        obtain ⟨r, hr, hc⟩ := List.mem_flatMap.mp hc
        exact ne r hr c hc (e ▸ e1), fun r hr => by
        obtain e | hr := List.mem_cons.mp hr
        · subst e
          exact ⟨hZ, fresh_back t2.le hp, [], upd_same, DAll.nil⟩
        · exact (k2.wr ne).2 r hr⟩
    have s4 := Step.new (M := M) (o := .tup [v, u, .ref p]) t3.le ht
    have s4' := Step.new (M := M0) (o := .tup [v, u, .ref p]) t3.le ht
    have ee := (s1.ex.trans s2.ex).trans s4.ex
    exact ⟨t, [v, u, .ref p], rfl, SqT.of upd_same, rfl, v, [u, .ref p], rfl, u, [.ref p], rfl, .ref p, [], rfl, rfl, h p _ _ _ ((((l.ex ee).set (P.m (s2.ex.trans s4.ex) a1)).set (Q.m s4.ex a2)).set rfl) (t3.trans s4) (k0.trans ee) (k3.step0 s4')⟩⟩⟩
end
end Lh
namespace Lh
open PySem L2
open Evl (Ex ex_l ex_t ex_rd fresh_back)
/-! ### over one of many, of any kind -/
def XIG {α : Type} (M : Addr → Prop) (Γ : Ct) (Rs : List Res) (X : Cx) (tg iter : Expr) (A : α → Prop) (Qf : α → List Pd) : Prop :=
  ∀ (σ : L2.St) (H0 H : Hp), Sl Γ σ H0 → Ex H0 H → Rok Rs H0 H → ∀ R : It → Hp → Prop, (∀ a, A a → ∀ J H0' H', Step M H0 H H0' H' → Rok Rs H0' H' → Wk J (Qf a) H0' → R J H') → wpI X tg iter σ H R
section
variable {M : Addr → Prop} {Γ Γ' : Ct} {Rs : List Res} {X : Cx} {Z0 Z Hl : Hp} {D : Ends} {K : PySem.W.Frag} {rest : List Stmt} {α : Type} {A : α → Prop} {a b c e : Expr} {pos p : Pos} {i j lo hi : Int}
theorem xi_listG {f : α → List PyData} {tg : Expr} (h : XE M Γ Rs X e (PEx A fun a => PD X.K (.list (f a)))) : XIG M Γ Rs X tg e A (fun a => (f a).map (PD X.K)) := fun σ H0 H l ex k R r => PI.wp (pi_list pe_wp) (h σ H0 H l ex k _ fun v H1 G1 s1 k1 ⟨a, ha, q, xs, e1, h1, h2⟩ =>
  ⟨q, e1, ⟨xs, ex_l s1.le (SqL.of h1)⟩, r a ha _ H1 G1 s1 k1 (wk_list (SqL.of h1) h2)⟩)
theorem xi_tupG {f : α → List PyData} {tg : Expr} (h : XE M Γ Rs X e (PEx A fun a => PD X.K (.tuple (f a)))) : XIG M Γ Rs X tg e A (fun a => (f a).map (PD X.K)) := fun σ H0 H l ex k R r => PI.wp (pi_tup pe_wp) (h σ H0 H l ex k _ fun v H1 G1 s1 k1 ⟨a, ha, q, xs, e1, h1, h2⟩ =>
  ⟨q, e1, ⟨xs, ex_t s1.le h1⟩, r a ha _ H1 G1 s1 k1 (wk_tup h1 h2)⟩)
/-- for x in one of many -/
theorem xs_forG (i : Nat) {x : Str} {iter : Expr} {body : List Stmt} {Qf : α → List Pd} {xp : Pos} (hi : XIG M Γ Rs X (.Name x xp) iter A Qf) (J : Nat → Ct → List Res → Prop) (h0 : J 0 Γ Rs)
    (hb : ∀ a, A a → ∀ (t : Nat) (Q : Pd) (Γ1 : Ct) (Rs1 : List Res), (Qf a)[t]? = some Q → J t Γ1 Rs1 → ∀ Hs, XS M (Γ1.set i (some Q)) Rs1 X Z0 Z Hs { D with nx := KJ M Z0 Z Hs J (t + 1), ct := KJ M Z0 Z Hs J (t + 1), bk := wpB X rest D } body)
    (hd : ∀ a, A a → ∀ Γ1 Rs1, J (Qf a).length Γ1 Rs1 → XS M Γ1 Rs1 X Z0 Z Hl D rest) (hN : X.N.Nodup) (hp : PassesOwn (model X.prog X.w) X.A X.env X.xe := by exact PassesOwn.never) (hx : X.N[i]? = some x := by rfl) (hl : Loc X.env.scope x := by first | exact Or.inl rfl | exact Or.inr rfl)
    (hf : X.fn x = true ∨ X.env.scope.names.lookup x = some .local := by first | exact .inl rfl | exact .inr rfl) (hc : X.calm = true := by rfl) (hs : ∀ x, foldedSetIterable iter X.env x = pure x := by intro _; rfl) : XS M Γ Rs X Z0 Z Hl D (.For (.Name x xp) iter body [] pos :: rest) := by
  refine xs_cons (ps_for hp hc pi_wp (pg_name hN hx hl hf) pss_wp hs) fun σ H0 H l s b k => hi σ H0 H l s.le k _ fun a ha I H1 G1 s1 k1 wk => ?_
  refine ⟨fun n m σ' G => m = (Qf a).length - n ∧ n ≤ (Qf a).length ∧ KJ M Z0 Z H1 J n σ' G, ⟨_, rfl, Nat.zero_le _, Γ, Rs, H1, h0, Ex.refl _, l.ex s1.ex, s.trans s1, k1⟩, ?_⟩
  rintro n m σ' G ⟨rfl, hn, Γ1, Rs1, H2, j, e2, l2, s2, k2⟩
  have w := wk H2 G e2 s2.le n
  rcases Nat.lt_or_ge n (Qf a).length with hlt | hge
  · obtain ⟨go, yl⟩ := w.1 _ (List.getElem?_eq_getElem hlt)
    refine .inr ⟨go, KJ M Z0 Z H1 J (n + 1), fun σ3 G3 h3 => ⟨_, Nat.sub_lt_sub_left hlt (Nat.lt_succ_self n), rfl, hlt, h3⟩, fun y G3 yy => ?_⟩
    obtain ⟨H3, s3, hy⟩ := yl y G3 yy
    exact gv_name y σ' H3 G3 (l2.ex s3.ex) s3.le hy _ fun σ4 l4 => hb a ha n _ Γ1 Rs1 (List.getElem?_eq_getElem hlt) j H1 σ4 H3 G3 l4 (s2.trans s3.of0) (e2.trans s3.ex) (k2.step0 s3)
  · have e := Nat.le_antisymm hn hge
    subst e
    exact .inl ⟨w.2 rfl, hd a ha Γ1 Rs1 j σ' H2 G l2 s2 ((b.trans s1.ex).trans e2) k2⟩
/-! ### drawn numbers -/
theorem xe_subIn (ha : XE M Γ Rs X a (PIn K lo hi)) (hb : XE M Γ Rs X b (PD K (.int j))) : XE M Γ Rs X (.BinOp a .Sub b pos) (PIn K (lo - j) (hi - j)) := xe_bin op_sub ha hb fun x y H0 H ⟨n, hn, hx⟩ hy e _ => fun Q q =>
  (yl_I0 (g := fun i j => .int (i - j)) (d := .int (n - j)) (fun _ => rfl) hx hy e) Q fun v H0' H' s p => q v H0' H' s ⟨n - j, ⟨by omega, by omega⟩, p⟩
theorem xe_maxIn (hm : X.mg "max" = none) (h : XE M Γ Rs X a (PD K (.int i))) (h' : XE M Γ Rs X b (PIn K lo hi)) (hc : X.calm = true := by rfl) (hg : Gl X "max" := by rfl) (he : starEach [a, b] X.env = (false, eval a X.env) :: starEach [b] X.env := by rfl) (he2 : starEach [b] X.env = (false, eval b X.env) :: starEach [] X.env := by rfl) (hpl : (backTo pos (starEach [b] X.env)).any (·.1) = false := by rfl) :
    XE M Γ Rs X (.Call (.Name "max" p) [a, b] [] pos) (PEx (fun m : Int => i ≤ m ∧ (m = i ∨ m < hi)) fun m => PD K (.int m)) :=
  xe_callB (call_max2 hc) hm (by decide +kernel) (xa_cons h (xa_1 h' he2) he) (fun xs H0 H hx e _ => by
    obtain ⟨x, y, e1, q1, ⟨n, hn, q2⟩⟩ := da2 hx
    have q1' : x = .int i := q1
    have q2' : y = .int n := q2
    subst e1 q1' q2'
    have h0 : lo ≤ n ∧ n < hi := hn
    exact Yld.val (z := .int (max i n)) e ⟨max i n, by omega, rfl⟩ fun Q k => ⟨i, n, rfl, by rw [show (if n > i then n else i) = max i n by omega]; exact k⟩) hg (by decide) (by decide) he hpl
/-! ### a list at hand: what has come is opened -/
theorem xs_lastE {q : Addr} {Ps : List Pd} {P : α → Pd} (h : ∀ a, A a → XS M Γ (Res.lst Z q (Ps ++ [P a]) :: Rs) X Z0 Z Hl D rest) : XS M Γ (Res.lst Z q (Ps ++ [PEx A P]) :: Rs) X Z0 Z Hl D rest := fun σ H0 H l s b k => by
  obtain ⟨h1, h2, xs, h3, hlen, hat⟩ := k.2 _ List.mem_cons_self
  obtain ⟨v, hv, w, hw, hp⟩ := hat Ps.length (PEx A P) (by simp)
  refine h w hw σ H0 H l s b ⟨k.1, fun r hr => ?_⟩
  rcases List.mem_cons.mp hr with e | hr
  · subst e
    refine ⟨h1, h2, xs, h3, by simpa using hlen, fun n Q hq => ?_⟩
    rcases Nat.lt_or_ge n Ps.length with hn | hn
    · exact hat n Q (by rw [List.getElem?_append_left hn] at hq ⊢; exact hq)
    · have e : n = Ps.length := by
        have := (List.getElem?_eq_some_iff.mp hq).1
        simp at this
        omega
      subst e
      have e2 : P w = Q := by simpa using hq
      subst e2
      exact ⟨v, hv, hp⟩
  · exact k.2 r (List.mem_cons_of_mem _ hr)
end
end Lh
/-! A lambda of one parameter, called amid a built-in's own code. -/
namespace LhL
open PySem L2 LamX PySem.W
structure LamP (sc scope : Scope) (p : Str) : Prop where
  kind : scope.kind = .function
  co : scope.isCoroutine = false
  gen : scope.isGenerator = false
  par : scope.names.lookup p = some .local
  cel : ∀ y ∈ scope.names, y.2 ≠ .cell
  loc : ∀ y ∈ scope.names, y.2 = .local → y.1 = p
  free : ∀ y ∈ scope.names, y.2 = .free → sc.names.lookup y.1 = some .cell ∨ sc.names.lookup y.1 = some .free
def lamPB (sc scope : Scope) (p : Str) : Bool :=
  decide (scope.kind = .function) && (!scope.isCoroutine && (!scope.isGenerator && (decide (scope.names.lookup p = some .local) && scope.names.all fun y => !decide (y.2 = .cell) && ((!decide (y.2 = .local) || decide (y.1 = p)) && (!decide (y.2 = .free) || (decide (sc.names.lookup y.1 = some .cell) || decide (sc.names.lookup y.1 = some .free)))))))
theorem lamP_by {sc scope : Scope} {p : Str} (h : lamPB sc scope p = true) : LamP sc scope p := by
  unfold lamPB at h
  rw [Bool.and_eq_true, Bool.and_eq_true, Bool.and_eq_true, Bool.and_eq_true] at h
  obtain ⟨h1, h2, h3, h4, h5⟩ := h
  have h6 := List.all_eq_true.mp h5
  refine ⟨of_decide_eq_true h1, by simpa using h2, by simpa using h3, of_decide_eq_true h4, fun y hy e => ?_, fun y hy e => ?_, fun y hy e => ?_⟩
  · have q := h6 y hy
    rw [decide_eq_true e] at q
    cases q
  · have q := h6 y hy
    rw [decide_eq_true e, Bool.and_eq_true, Bool.and_eq_true] at q
    simpa using q.2.1
  · have q := h6 y hy
    rw [decide_eq_true e, Bool.and_eq_true, Bool.and_eq_true] at q
    simpa using q.2.2
/-- the body's context: the maker's names, then the parameter -/
def lamPx (X : Cx) (p : Str) (A : Around) (outer : List Env) (s : Shared) (H : Hp) (scope : Scope) (f c' : Addr) : Cx where
  prog := X.prog
  w := X.w
  K := X.K
  mg := X.mg
  base := X.base
  A := A.deeper (lamEnv X scope s.heap.objs.size f c')
  N := X.N ++ [p]
  s_0 := s
  H_0 := H
  env := lamEnv X scope s.heap.objs.size f c'
  outer := outer
  stack := lamEnv X scope s.heap.objs.size f c' :: outer
  ex := []
  fn := fun _ => false
  calm := true
  pn := []
  xe := fun _ _ => False
section
variable {X : Cx} {pins : List (Addr × Obj)} {σ : L2.St} {H : Hp} {s : Shared} {p : Str} {scope : Scope} {f c' : Addr}
theorem clo_of (L : LamP X.env.scope scope p) (ok : X.Ok) : ∀ y ∈ scope.names, y.2 = .free → ∃ c, X.env.cells.lookup y.1 = some c := fun y hy e =>
  ok.has y.1 (L.free y hy e)
theorem clo_mem (L : LamP X.env.scope scope p) (ok : X.Ok) {y : Str} {c : Addr} (e : (cloFrom X.env.cells scope.names []).lookup y = some c) : X.env.cells.lookup y = some c := by
  rcases cloFrom_mem (PySem.mem_of_lookup e) with h | ⟨h1, h2⟩
  · exact absurd h (by simp)
  · obtain ⟨c1, h3⟩ := clo_of L ok _ h1 rfl
    have h3' : X.env.cells.lookup y = some c1 := h3
    rw [h2, h3']
    rfl
theorem clo_look {y : Str} (h : scope.names.lookup y = some .free) : ∃ c, (cloFrom X.env.cells scope.names []).lookup y = some c := mem_lookup (cloFrom_has (cells := X.env.cells) (acc := []) (PySem.mem_of_lookup h))
theorem lamp_start {A : Around} {outer : List Env} {h₁ : Heap} {tk : Nat} {v : V} {u : Value} (I : Inv X pins σ H s) (L : LamP X.env.scope scope p) (e0 : Env0 X.prog X.w X.K X.mg X.base A outer s H) (hd : A.handled = none) (hp : p ∉ X.N)
    (hns : h₁.Ns s.heap.objs.size fun y => [(p, u)].reverse.lookup y) (kp : ∀ b o, s.heap.get? b = some o → h₁.get? b = some o) (rv : RelV v u) : Inv (lamPx X p A outer s H scope f c') [] (σ ++ [some v]) H { s with heap := h₁, toks := tk } where
  ok := {
    mod := e0.mod
    kind := L.kind
    glob := rfl
    blt := rfl
    above := Nat.le_refl _
    inj := fun y z c e1 e2 => I.ok.inj y z c (clo_mem L I.ok e1) (clo_mem L I.ok e2)
    has := fun y hy => hy.elim (fun k => absurd rfl (L.cel _ (PySem.mem_of_lookup (show scope.names.lookup y = some .cell from k)))) fun k => clo_look (show scope.names.lookup y = some .free from k)
    cab := fun y c z _ => Bool.noConfusion (show false = true from z)
    hd := fun _ => hd
    frames := Around.frames_deeper e0.frames
    stk := .inr ⟨rfl, rfl⟩
    exf := fun b z => nomatch (show b ∈ ([] : List Addr) from z)
    bs := e0.bs
    bsz := e0.bsz
    noex := fun b _ _ z => nomatch (show b ∈ ([] : List Addr) from z)
    exfs := fun b z => nomatch (show b ∈ ([] : List Addr) from z)
    funs := e0.funs
    frf := e0.frf }
  os := rfl
  bare := e0.bare
  base := Un.kept kp
  loc := by
    refine ⟨_, hns, fun i y v' e1 e2 e3 => ?_⟩
    have e1' : (X.N ++ [p])[i]? = some y := e1
    have e3' : Vis scope y := e3
    rcases Nat.lt_trichotomy i X.N.length with hi | hi | hi
    · rw [List.getElem?_append_left hi] at e1'
      rw [List.getElem?_append_left (by rw [I.len]; exact hi)] at e2
      rcases e3' with k | k | k
      · have ey : y = p := L.loc _ (PySem.mem_of_lookup k) rfl
        exact absurd (List.mem_of_getElem? (ey ▸ e1')) hp
      · exact absurd rfl (L.cel _ (PySem.mem_of_lookup k))
      · obtain ⟨m, hn, hl⟩ := I.loc
        have hv : Vis X.env.scope y := .inr (L.free _ (PySem.mem_of_lookup k) rfl)
        obtain ⟨u', r', q⟩ := hl i y v' e1' e2 hv
        obtain ⟨c2, h2⟩ := clo_look (X := X) k
        refine ⟨u', r', .inr ⟨.inr k, c2, h2, ?_⟩⟩
        have c1 := clo_mem L I.ok h2
        rcases q with ⟨k', _⟩ | ⟨_, c3, e', o, ho, hd⟩
        · have k2 : X.env.scope.names.lookup y = some .local := k'
          rcases L.free _ (PySem.mem_of_lookup k) rfl with k3 | k3
          · have k3' : X.env.scope.names.lookup y = some .cell := k3
            rw [k2] at k3'
            cases k3'
          · have k3' : X.env.scope.names.lookup y = some .free := k3
            rw [k2] at k3'
            cases k3'
        · rw [c1] at e'
          cases e'
          exact ⟨o, kp _ _ ho, hd⟩
    · subst hi
      rw [List.getElem?_append_right (Nat.le_refl _), Nat.sub_self] at e1'
      rw [List.getElem?_append_right (by rw [I.len]; exact Nat.le_refl _), I.len, Nat.sub_self] at e2
      have ey : p = y := Option.some.inj e1'
      have ev : v = v' := Option.some.inj (Option.some.inj e2)
      subst ey ev
      exact ⟨u, rv, .inl ⟨L.par, by simp⟩⟩
    · have := (List.getElem?_eq_some_iff.mp e1').1
      rw [List.length_append, List.length_singleton] at this
      omega
  cell := fun y c e => by
    obtain ⟨w, o, ho, hd⟩ := I.cell y c (clo_mem L I.ok e)
    exact ⟨w, o, kp _ _ ho, hd⟩
  free := e0.hok.fresh (Nat.le_refl _)
  freeC := fun y c e => I.freeC y c (clo_mem L I.ok e)
  pin := fun q hq => nomatch (show q ∈ ([] : List (Addr × Obj)) from hq)
  hok := e0.hok.kept kp
  len := by
    show (σ ++ [some v]).length = (X.N ++ [p]).length
    rw [List.length_append, List.length_append, I.len]
    rfl
/-- the lambda called -/
theorem lamp_run {A : Around} {outer : List Env} {params : Arguments} {body : Expr} {pm ctv u : Value} {v : V} {k : Nat} {Q : VK} {E : XK} (I : Inv X pins σ H s) (L : LamP X.env.scope scope p) (hp : p ∉ X.N)
    (hf : s.heap.get? f = some (kla_obj "<lambda>" (X.env.qual ++ "<lambda>") params body scope (cloFrom X.env.cells scope.names []) pm c' ctv)) (hc : H c' = some (CodeO c' (X.env.qual ++ "<lambda>"))) (e0 : Env0 X.prog X.w X.K X.mg X.base A outer s H) (hr : Room (k + 1) A)
    (hb : bindArgs (kla_fn "<lambda>" (X.env.qual ++ "<lambda>") params body scope (cloFrom X.env.cells scope.names []) pm (.ref c') ctv) ⟨[u], []⟩ = pure [(p, u)]) (rv : RelV v u)
    (hbody : Room k (A.deeper (lamEnv X scope s.heap.objs.size f c')) → Lh.wpE (lamPx X p A outer s H scope f c') body (σ ++ [some v]) H Q) :
    codeAny (model X.prog X.w) A (.call (.ref f) ⟨[u], []⟩) (CR CX0 outer X.prog X.w H s Q E) s := by
  obtain ⟨⟨oc, vs, t, hoc, hdc, hvc⟩, _, _⟩ := I.hok c' _ hc
  refine kla_callFunE hr.depth hf rfl L.co L.gen rfl ⟨c', oc, vs, t, rfl, hoc, hdc, hvc⟩ ?_
  rw [hb]
  refine wpAny_pure (wpAny_newFunctionEnv L.cel (fun y hy => by rw [List.mem_singleton.mp hy]; exact L.par) (fun h₁ hns hsb => ⟨I.nolimit.fresh _ hsb, ?_⟩) L.kind)
  have kp : ∀ b o, s.heap.get? b = some o → h₁.get? b = some o := fun b o e => hsb.extBut b o (Nat.ne_of_lt (Heap.lt_size e)) (Heap.get?_push_of_some _ e)
  have J := lamp_start (f := f) (c' := c') (tk := s.toks + [(p, u)].length) I L e0 hr.hd hp hns kp rv
  refine kla_codeExpr (wpAny_mono (hbody (hr.deeper _) [] _ J) (fun w z hq => ?_) fun e z hq => False.elim hq)
  obtain ⟨w', H', J', rw', q⟩ := hq
  exact ⟨w', H', J'.os, J'.bare, J'.base, J'.hok, rw', q⟩
end
end LhL
/-! min(xs, key=f), the keys pairs of ints. -/
namespace LhL
open PySem L2 LamX PySem.W PyProof.Rows
def ltK (p q : Int × Int) : Prop := p.1 < q.1 ∨ (p.1 = q.1 ∧ p.2 < q.2)
instance (p q : Int × Int) : Decidable (ltK p q) := inferInstanceAs (Decidable (_ ∨ _))
section
variable {X : Cx} {pins : List (Addr × Obj)} {σ : L2.St} {H : Hp} {s : Shared}
theorem pair_items {t : Addr} {x y : Int} (I : Inv X pins σ H s) (h : SqT X.K H t [.int x, .int y]) : ∃ t1 t2, s.heap.IsTuple t #[.int x t1, .int y t2] := by
  obtain ⟨its, r, p, _⟩ := I.tuple h
  obtain ⟨u1, u2, rfl, ⟨t1, e1⟩, ⟨t2, e2⟩⟩ := vals2 r
  subst e1 e2
  exact ⟨t1, t2, p⟩
theorem pair_lt {A : Around} {t t' : Addr} {p q : Int × Int} (I : Inv X pins σ H s) (h : SqT X.K H t [.int p.1, .int p.2]) (h' : SqT X.K H t' [.int q.1, .int q.2]) (hu : A.units < cLine) : Ob.RcOp .Lt A s (.ref t) (.ref t') (decide (ltK p q)) := by
  obtain ⟨t1, t2, k1⟩ := pair_items I h
  obtain ⟨u1, u2, k2⟩ := pair_items I h'
  have two : ∀ {P : Nat → Prop}, P 0 → P 1 → ∀ j, j < 2 → P j := fun {P} h0 h1 j hj => by
    rcases j with _ | _ | j
    · exact h0
    · exact h1
    · omega
  have eqd : ∀ x y : Int, (x == y) = decide (x = y) := fun x y => by
    by_cases e : x = y
    · rw [decide_eq_true e]
      exact beq_iff_eq.mpr e
    · rw [decide_eq_false e]
      exact beq_eq_false_iff_ne.mpr e
  have r := Ob.RcOp.tuples_lt (A := A) (s := s) (e := fun j => if j = 0 then decide (p.1 = q.1) else decide (p.2 = q.2)) (r := fun j => if j = 0 then decide (p.1 < q.1) else decide (p.2 < q.2)) k1 k2 hu (fun j h1 _ => by
    have hj : j < 2 := h1
    rcases j with _ | _ | j
    · show SeqAt.EqAt A.in1 s (.int p.1 t1) (.int q.1 u1) (decide (p.1 = q.1))
      rw [← eqd]
      exact SeqAt.EqAt.int_int _ _ _ _
    · show SeqAt.EqAt A.in1 s (.int p.2 t2) (.int q.2 u2) (decide (p.2 = q.2))
      rw [← eqd]
      exact SeqAt.EqAt.int_int _ _ _ _
    · omega) (fun j h1 _ _ => by
    have hj : j < 2 := h1
    rcases j with _ | _ | j
    · exact Ob.RcOp.lt_int _ _ _ _
    · exact Ob.RcOp.lt_int _ _ _ _
    · omega)
  have e : Ob.lexAt (fun j => if j = 0 then decide (p.1 = q.1) else decide (p.2 = q.2)) (fun j => if j = 0 then decide (p.1 < q.1) else decide (p.2 < q.2)) (decide ((#[Value.int p.1 t1, Value.int p.2 t2] : Array Value).size < (#[Value.int q.1 u1, Value.int q.2 u2] : Array Value).size)) 0 (min (#[Value.int p.1 t1, Value.int p.2 t2] : Array Value).size (#[Value.int q.1 u1, Value.int q.2 u2] : Array Value).size) = decide (ltK p q) := by
    show (if (decide (p.1 = q.1)) = true then (if (decide (p.2 = q.2)) = true then false else decide (p.2 < q.2)) else decide (p.1 < q.1)) = decide (p.1 < q.1 ∨ (p.1 = q.1 ∧ p.2 < q.2))
    by_cases h1 : p.1 = q.1
    · rw [if_pos (decide_eq_true h1)]
      by_cases h2 : p.2 = q.2
      · rw [if_pos (decide_eq_true h2)]
        exact (decide_eq_false (by omega)).symm
      · rw [if_neg (by simpa using h2)]
        exact decide_eq_decide.mpr (by omega)
    · rw [if_neg (by simpa using h1)]
      exact decide_eq_decide.mpr (by omega)
  rw [e] at r
  exact r
end
/-- one key taken, whatever else is pinned -/
def KeyRun (X : Cx) (pins : List (Addr × Obj)) (σ : L2.St) (f : Addr) (ns : List Int) (kf : Int → Int × Int) (Gd : Hp → Prop) : Prop :=
  ∀ (pl : List (Addr × Obj)) (n : Int), n ∈ ns → ∀ (H : Hp) (s : Shared) (tk : Tok), Inv X (pins ++ pl) σ H s → Gd H →
    wpAny (model X.prog X.w) X.A.in1 (call (.ref f) [.int n tk]) (fun u z => ∃ H', Inv X (pins ++ pl) σ H' z ∧ Gd H' ∧ (∀ b o, H b = some o → H' b = some o) ∧ ∃ t, u = .ref t ∧ SqT X.K H' t [.int (kf n).1, .int (kf n).2]) (fun _ _ => False) s
theorem fp_to {X : Cx} {pins : List (Addr × Obj)} {H H' : Hp} {b : Addr} (h : FpOk X pins H b) (n : H' b = none) : FpOk X pins H' b := ⟨n, h.2⟩
section
variable {X : Cx} {pins : List (Addr × Obj)} {σ : L2.St} {l f a b : Addr} {ns : List Int} {kf : Int → Int × Int} {Gd : Hp → Prop} {R : Result → Shared → Prop}
theorem sqL_ext {K : PySem.W.Frag} {H H' : Hp} {t : Addr} {xs : List V} (e : ∀ b o, H b = some o → H' b = some o) (h : SqL K H t xs) : SqL K H' t xs := Evl.ex_l e h
theorem sqT_ext {K : PySem.W.Frag} {H H' : Hp} {t : Addr} {xs : List V} (e : ∀ b o, H b = some o → H' b = some o) (h : SqT K H t xs) : SqT K H' t xs := Evl.ex_t e h
theorem is_obj {h : Heap} {b : Addr} {vs : Array Value} {c : Nat} (e : h.get? b = some (seqObj "list" vs c)) : ∃ o, h.get? b = some o ∧ ∀ v, o.data ≠ .cell v := ⟨_, e, fun v z => by cases z⟩
theorem it_obj {h : Heap} {i x : Addr} {n : Nat} (e : h.IsListIter i x n) : ∃ o, h.get? i = some o ∧ ∀ v, o.data ≠ .cell v := by
  obtain ⟨o, h1, _, h2⟩ := e
  exact ⟨o, h1, fun v z => by
    rw [h2] at z
    cases z⟩
theorem minK_loop (hh : X.A.handled = none) (hu : X.A.in1.units < cLine) (key : KeyRun X pins σ f ns kf Gd) (hab : a ≠ b) (hla : l ≠ a)
    (hR : ∀ (m : Int) (H : Hp) (z : Shared) (tk : Tok), m ∈ ns → (∀ n ∈ ns, ¬ ltK (kf n) (kf m)) → Inv X pins σ H z → Gd H → R (.ok (.ret (.int m tk))) z) :
    ∀ (r j : Nat) (H : Hp) (s : Shared) (m : Int) (tm : Tok) (kt : Addr) (c : Nat), ns.length - j = r → j ≤ ns.length → Inv X pins σ H s → Gd H → SqL X.K H l (ns.map V.int) → FpOk X pins H a → FpOk X pins H b → s.heap.IsListIter a l j →
      s.heap.get? b = some (seqObj "list" #[.int m tm, .ref kt] c) → SqT X.K H kt [.int (kf m).1, .int (kf m).2] → m ∈ ns → (∀ n ∈ ns.take j, ¬ ltK (kf n) (kf m)) →
      codeAny (model X.prog X.w) X.A (.builtin "min.loop" ⟨[.ref a, .ref f, .ref b], []⟩) R s := by
  intro r
  induction r with
  | zero =>
    intro j H s m tm kt c hr hj I gd hl fa fb hit hb hkt hm hbest
    have ej : j = ns.length := by omega
    obtain ⟨its, rv, pl, _⟩ := I.list hl
    have hsz : its.toArray.size = ns.length := by rw [List.size_toArray, ← rv.length, List.length_map]
    refine codeAny_builtin PySem.F.entry_min_loop ?_
    rw [Around.under_plainId PySem.F.plain_min_loop _]
    show wpAny _ X.A.in1 (seqItems? (.ref b) >>= _) _ _ s
    refine wpAny_bind (wpAny_seqItems hb rfl (show wpAny _ X.A.in1 (tryCatch (pyNext (.ref a)) _ >>= _) _ _ _ from wpAny_bind (wpAny_tryCatch ?_)))
    refine (Walks.list (A := X.A.in1) (by simpa using hh) a l hla its.toArray).done _ _ _ ⟨by rw [hsz, ← ej]; exact hit, pl.isList⟩ fun h' tk hk => ?_
    have I1 : Inv X pins σ H { s with heap := h', toks := tk } := I.turnedL (ch := [a]) hk fun x hx => by
      rw [List.mem_singleton.mp hx]
      exact fa
    have hb' := hk b _ (by simpa using fun e => hab e.symm) hb
    show wpAny _ X.A.in1 (updateSeq b (fun _ => #[]) >>= _) _ _ _
    refine wpAny_bind (wpAny_updateSeq hb' rfl (wpAny_bind (wpAny_letGo (wpAny_pure ?_))))
    have I2 := I1.turnedL (ch := [b]) (h' := h'.update b (Obj.mapSeq fun _ => #[])) (t' := tk) (fun x o hx e => (Heap.get?_update_other _ _ (fun z => hx (by rw [z]; simp))).trans e) fun x hx => by
      rw [List.mem_singleton.mp hx]
      exact fb
    exact hR m H _ tm hm (fun n hn => hbest n (by rw [ej, List.take_length]; exact hn)) I2 gd
  | succ r ih =>
    intro j H s m tm kt c hr hj I gd hl fa fb hit hb hkt hm hbest
    have hlt : j < ns.length := by omega
    obtain ⟨its, rv, pl, _⟩ := I.list hl
    have hi := Lh.vals_ints rv
    have hsz : its.toArray.size = ns.length := by rw [List.size_toArray, ← rv.length, List.length_map]
    refine codeAny_builtin PySem.F.entry_min_loop ?_
    rw [Around.under_plainId PySem.F.plain_min_loop _]
    show wpAny _ X.A.in1 (seqItems? (.ref b) >>= _) _ _ s
    refine wpAny_bind (wpAny_seqItems hb rfl (show wpAny _ X.A.in1 (tryCatch (pyNext (.ref a)) _ >>= _) _ _ _ from wpAny_bind (wpAny_tryCatch ?_)))
    refine (Walks.list (A := X.A.in1) (by simpa using hh) a l hla its.toArray).item j _ _ _ (by rw [hsz]; exact hlt) ⟨hit, pl.isList⟩ fun v h' tk hv hst hk => ?_
    obtain ⟨tn, en⟩ := IntsAre.int_at hi j v (by simpa using hv)
    have en2 : v = .int ns[j] tn := by rw [en, List.getD_eq_getElem?_getD, List.getElem?_eq_getElem hlt]; rfl
    subst en2
    have hn : ns[j] ∈ ns := List.getElem_mem hlt
    have I1 : Inv X pins σ H { s with heap := h', toks := tk } := I.turnedL (ch := [a]) hk fun x hx => by
      rw [List.mem_singleton.mp hx]
      exact fa
    have hb' : h'.get? b = _ := hk b _ (by simpa using fun e => hab e.symm) hb
    have I2 := I1.pinned (fp := [a, b]) (fun x hx => by
      rcases List.mem_cons.mp hx with e | e
      · rw [e]
        exact fa
      · rw [List.mem_singleton.mp e]
        exact fb) fun x hx => by
      rcases List.mem_cons.mp hx with e | e
      · rw [e]
        exact it_obj hst.1
      · rw [List.mem_singleton.mp e]
        exact is_obj hb'
    show wpAny _ X.A.in1 (tryCatch (holding [.int ns[j] tn] (call (.ref f) [.int ns[j] tn])) _ >>= _) _ _ _
    refine wpAny_bind (wpAny_tryCatch (wpAny_holding (wpAny_mono (key _ ns[j] hn H _ tn I2 gd) (fun u z hz => ?_) fun _ _ hF => hF.elim)))
    obtain ⟨H', I3, gd', ext, t, rfl, hT⟩ := hz
    have pin : ∀ x ∈ [a, b], ∀ o, h'.get? x = some o → z.heap.get? x = some o ∧ H' x = none := fun x hx o e =>
      let q := I3.pin (x, o) (List.mem_append_right _ (List.mem_append_right _ (mem_pinsAt hx e)))
      ⟨q.1, q.2.1⟩
    have I4 : Inv X pins σ H' z := I3.unpinned
    have hbz := pin b (by simp) _ hb'
    obtain ⟨oa, ha1, ha2, ha3⟩ := hst.1
    have haz := pin a (by simp) _ ha1
    have hkt' := sqT_ext ext hkt
    show wpAny _ X.A.in1 (tryCatch (holding [.int ns[j] tn, .ref t] (richCompare .Lt (.ref t) (.ref kt) >>= _)) _ >>= _) _ _ _
    refine wpAny_bind (wpAny_tryCatch (wpAny_holding (wpAny_bind (pair_lt I4 hT hkt' hu _ _ _ _ ?_))))
    refine wpAny_bind (wpAny_holding (wpAny_truthy_bool (wpAny_bind (wpAny_letGo (wpAny_pure ?_)))))
    by_cases better : ltK (kf ns[j]) (kf m)
    · simp only [better, decide_true, if_true]
      refine wpAny_bind (wpAny_updateSeq hbz.1 rfl (wpAny_bind (wpAny_letGo ?_)))
      obtain ⟨c2, hc2⟩ : ∃ c2, (z.heap.update b (Obj.mapSeq fun _ => #[.int ns[j] tn, .ref t])).get? b = some (seqObj "list" #[.int ns[j] tn, .ref t] c2) := ⟨_, get?_update_seq hbz.1 fun _ => #[.int ns[j] tn, .ref t]⟩
      have other : ∀ x o, x ≠ b → z.heap.get? x = some o → (z.heap.update b (Obj.mapSeq fun _ => #[.int ns[j] tn, .ref t])).get? x = some o := fun x o hx e => (Heap.get?_update_other _ _ (Ne.symm hx)).trans e
      have I5 := I4.turnedL (ch := [b]) (t' := z.toks) (fun x o hx e => other x o (fun q => hx (by rw [q]; simp)) e) fun x hx => by
        rw [List.mem_singleton.mp hx]
        exact fp_to fb hbz.2
      refine wpAny_pure ⟨plainId_quiet PySem.F.plain_min_loop _, ih (j + 1) H' _ ns[j] tn t c2 (by omega) hlt I5 gd' (sqL_ext ext hl) (fp_to fa haz.2) (fp_to fb hbz.2) ⟨oa, other a _ hab haz.1, ha2, ha3⟩ hc2 hT hn fun n hn' => ?_⟩
      rw [List.take_add_one, List.getElem?_eq_getElem hlt] at hn'
      rcases List.mem_append.mp hn' with q | q
      · have h1 := hbest n q
        unfold ltK at h1 better ⊢
        omega
      · have e : n = ns[j] := by simpa using q
        rw [e]
        unfold ltK
        omega
    · simp only [better, decide_false, Bool.false_eq_true, if_false]
      refine wpAny_bind (wpAny_letGo ?_)
      refine wpAny_pure ⟨plainId_quiet PySem.F.plain_min_loop _, ih (j + 1) H' z m tm kt c (by omega) hlt I4 gd' (sqL_ext ext hl) (fp_to fa haz.2) (fp_to fb hbz.2) ⟨oa, haz.1, ha2, ha3⟩ hbz.1 hkt' hm fun n hn' => ?_⟩
      rw [List.take_add_one, List.getElem?_eq_getElem hlt] at hn'
      rcases List.mem_append.mp hn' with q | q
      · exact hbest n q
      · have e : n = ns[j] := by simpa using q
        rw [e]
        exact better
theorem minK_call {Q E : Value → Shared → Prop} {H : Hp} {s : Shared} (hh : X.A.handled = none) (hu : X.A.in1.units < cLine) (key : KeyRun X pins σ f ns kf Gd) (hne : 0 < ns.length) (I : Inv X pins σ H s) (gd : Gd H) (hl : SqL X.K H l (ns.map V.int))
    (hQ : ∀ (m : Int) (H : Hp) (z : Shared) (tk : Tok), m ∈ ns → (∀ n ∈ ns, ¬ ltK (kf n) (kf m)) → Inv X pins σ H z → Gd H → Q (.int m tk) z) :
    wpAny (model X.prog X.w) X.A (call (.builtin "min") [.ref l] [(Str.ofString "key", .ref f)]) Q E s := by
  obtain ⟨its, rv, pl, _⟩ := I.list hl
  have hi := Lh.vals_ints rv
  have hsz : its.toArray.size = ns.length := by rw [List.size_toArray, ← rv.length, List.length_map]
  have hll : l < s.heap.objs.size := by
    obtain ⟨o, e, _⟩ := pl.isList
    exact Heap.lt_size e
  refine kmk_tree PySem.F.kind_min PySem.F.plain_min PySem.F.entry_min (kmk_min_key _ _) ?_
  show wpAny _ X.A.in1 (Builtin.Builtins.bindParams "min" ["key", "default"] 0 ⟨[], [(Str.ofString "key", .ref f)]⟩ >>= _) _ _ s
  refine wpAny_bind (wpAny_of_eq (show Builtin.Builtins.bindParams "min" ["key", "default"] 0 ⟨[], [(Str.ofString "key", .ref f)]⟩ = pure [some (.ref f), none] from rfl) (wpAny_bind (wpAny_pure (wpAny_bind (wpAny_pyIter_list pl.isList (wpAny_bind (wpAny_newList ?_ (Nat.zero_le _))))))))
  have hname : (toString "min" ++ toString ".loop" : String) = "min.loop" := by decide
  rw [hname]
  have eb : (s.heap.push { cls := .type "list_iterator", data := .fields #[.ref l, .int 0 0] }).objs.size = s.heap.objs.size + 1 := size_push' ..
  rw [eb]
  have grown : ∀ b o, s.heap.get? b = some o → ((s.heap.push { cls := .type "list_iterator", data := .fields #[.ref l, .int 0 0] }).push (seqObj "list" #[] 0)).get? b = some o := fun b o e => Heap.get?_push_of_some _ (Heap.get?_push_of_some _ e)
  have I1 := I.kept (t' := s.toks) grown
  have fa : FpOk X pins H s.heap.objs.size := I.fpOk (Nat.le_refl _) (I.hok.fresh (Nat.le_refl _))
  have fb : FpOk X pins H (s.heap.objs.size + 1) := I.fpOk (Nat.le_succ _) (I.hok.fresh (Nat.le_succ _))
  have ga : ((s.heap.push { cls := .type "list_iterator", data := .fields #[.ref l, .int 0 0] }).push (seqObj "list" #[] 0)).IsListIter s.heap.objs.size l 0 := ⟨_, Heap.get?_push_of_some _ (Heap.get?_push_size _ rfl), rfl, rfl⟩
  have gb : ((s.heap.push { cls := .type "list_iterator", data := .fields #[.ref l, .int 0 0] }).push (seqObj "list" #[] 0)).get? (s.heap.objs.size + 1) = some (seqObj "list" #[] 0) := by
    rw [← eb]
    exact Heap.get?_push_size _ rfl
  obtain ⟨its', rv', pl', _⟩ := I1.list hl
  generalize hs1 : ({ s with heap := (s.heap.push { cls := .type "list_iterator", data := .fields #[.ref l, .int 0 0] }).push (seqObj "list" #[] 0), toks := s.toks } : Shared) = s1 at I1 pl'
  have h1 : s1.heap = (s.heap.push { cls := .type "list_iterator", data := .fields #[.ref l, .int 0 0] }).push (seqObj "list" #[] 0) := by rw [← hs1]
  have nab : s.heap.objs.size ≠ s.heap.objs.size + 1 := Nat.ne_of_lt (Nat.lt_succ_self _)
  rw [← h1] at ga gb
  generalize s.heap.objs.size + 1 = b at nab fb gb ⊢
  generalize hae : s.heap.objs.size = a at nab fa ga ⊢
  have hla : l ≠ a := by
    rw [← hae]
    exact Nat.ne_of_lt hll
  have hi' := Lh.vals_ints rv'
  have hsz' : its'.toArray.size = ns.length := by rw [List.size_toArray, ← rv'.length, List.length_map]
  refine wpAny_pure ⟨plainId_quiet PySem.F.plain_min_loop _, ?_⟩
  show codeAny _ X.A (.builtin "min.loop" ⟨[.ref a, .ref f, .ref b], []⟩) _ s1
  refine codeAny_builtin PySem.F.entry_min_loop ?_
  rw [Around.under_plainId PySem.F.plain_min_loop _]
  show wpAny _ X.A.in1 (seqItems? (.ref b) >>= _) _ _ s1
  refine wpAny_bind (wpAny_seqItems gb rfl (show wpAny _ X.A.in1 (tryCatch (pyNext (.ref a)) _ >>= _) _ _ _ from wpAny_bind (wpAny_tryCatch ?_)))
  refine (Walks.list (A := X.A.in1) (by simpa using hh) a l hla its'.toArray).item 0 _ _ _ (by rw [hsz']; exact hne) ⟨ga, pl'.isList⟩ fun v h' tk hv hst hk => ?_
  obtain ⟨tn, en⟩ := IntsAre.int_at hi' 0 v (by simpa using hv)
  have en2 : v = .int ns[0] tn := by rw [en, List.getD_eq_getElem?_getD, List.getElem?_eq_getElem hne]; rfl
  subst en2
  have hn : ns[0] ∈ ns := List.getElem_mem hne
  have I2 : Inv X pins σ H { s1 with heap := h', toks := tk } := I1.turnedL (ch := [a]) hk fun x hx => by
    rw [List.mem_singleton.mp hx]
    exact fa
  have hb' : h'.get? b = _ := hk b _ (by simpa using fun e => nab e.symm) gb
  have I3 := I2.pinned (fp := [a, b]) (fun x hx => by
    rcases List.mem_cons.mp hx with e | e
    · rw [e]
      exact fa
    · rw [List.mem_singleton.mp e]
      exact fb) fun x hx => by
    rcases List.mem_cons.mp hx with e | e
    · rw [e]
      exact it_obj hst.1
    · rw [List.mem_singleton.mp e]
      exact is_obj hb'
  show wpAny _ X.A.in1 (tryCatch (holding [.int ns[0] tn] (call (.ref f) [.int ns[0] tn])) _ >>= _) _ _ _
  refine wpAny_bind (wpAny_tryCatch (wpAny_holding (wpAny_mono (key _ ns[0] hn H _ tn I3 gd) (fun u z hz => ?_) fun _ _ hF => hF.elim)))
  obtain ⟨H', I4, gd', ext, t, rfl, hT⟩ := hz
  have pin : ∀ x ∈ [a, b], ∀ o, h'.get? x = some o → z.heap.get? x = some o ∧ H' x = none := fun x hx o e =>
    let q := I4.pin (x, o) (List.mem_append_right _ (List.mem_append_right _ (mem_pinsAt hx e)))
    ⟨q.1, q.2.1⟩
  have I5 : Inv X pins σ H' z := I4.unpinned
  have hbz := pin b (by simp) _ hb'
  obtain ⟨oa, ha1, ha2, ha3⟩ := hst.1
  have haz := pin a (by simp) _ ha1
  show wpAny _ X.A.in1 (updateSeq b (fun _ => #[.int ns[0] tn, .ref t]) >>= _) _ _ _
  refine wpAny_bind (wpAny_updateSeq hbz.1 rfl ?_)
  obtain ⟨c2, hc2⟩ : ∃ c2, (z.heap.update b (Obj.mapSeq fun _ => #[.int ns[0] tn, .ref t])).get? b = some (seqObj "list" #[.int ns[0] tn, .ref t] c2) := ⟨_, get?_update_seq hbz.1 fun _ => #[.int ns[0] tn, .ref t]⟩
  have other : ∀ x o, x ≠ b → z.heap.get? x = some o → (z.heap.update b (Obj.mapSeq fun _ => #[.int ns[0] tn, .ref t])).get? x = some o := fun x o hx e => (Heap.get?_update_other _ _ (Ne.symm hx)).trans e
  have I6 := I5.turnedL (ch := [b]) (t' := z.toks) (fun x o hx e => other x o (fun q => hx (by rw [q]; simp)) e) fun x hx => by
    rw [List.mem_singleton.mp hx]
    exact fp_to fb hbz.2
  rw [hname]
  refine wpAny_pure ⟨plainId_quiet PySem.F.plain_min_loop _, minK_loop hh hu key nab hla (fun m H z tk h1 h2 J g => hQ m H z tk h1 h2 J g) _ 1 H' _ ns[0] tn t c2 rfl hne I6 gd' (sqL_ext ext hl) (fp_to fa haz.2) (fp_to fb hbz.2) ⟨oa, other a _ nab haz.1, ha2, ha3⟩ hc2 hT hn fun n hn' => ?_⟩
  have e : n = ns[0] := by
    rw [List.take_one] at hn'
    cases ns with
    | nil => exact absurd hne (by simp)
    | cons x xs => simpa using hn'
  rw [e]
  unfold ltK
  omega
end
end LhL
/-! min(xs, key=lambda x: (.., ..)): the lambda's code object stands in its maker's table. -/
namespace LhL
open PySem L2 LamX PySem.W PyProof.Rows Lh
open Evl (Ex ex_l ex_t ex_rd fresh_back)
/-- each code object that these tell is known and bears the name q -/
def Known (H : Hp) (ps : Array Value) (q : Str) : Prop := TriplesOk ps.toList ∧ ∀ (pos : Pos) (cv : Value), codeAmong pos ps.toList = some cv → ∃ c, cv = .ref c ∧ H c = some (CodeO c q)
/-- a table of code objects of one name -/
def tabR (P : Addr) (q : Str) : Res where
  ad := [P]
  p := fun H0 H => H0 P = none ∧ ∃ ps : Array Value, H P = some (.tbl ps) ∧ Known H0 ps q
  st := fun {H0 H H0' H'} e n k ⟨_, ps, h2, h3, h4⟩ => ⟨n P (by simp), ps, by rw [k P (by simp)]; exact h2, h3, fun pos cv h => by
    obtain ⟨c, e1, e2⟩ := h4 pos cv h
    exact ⟨c, e1, e _ _ e2⟩⟩
  tr := fun {H0 H} ⟨h0, ps, h2, _⟩ a ha => by
    have e : a = P := by simpa using ha
    subst e
    exact ⟨⟨_, h2⟩, h0⟩
section
variable {X : Cx} {pins : List (Addr × Obj)} {σ : L2.St} {H : Hp} {s : Shared}
/-- the heap behind a lambda's making: as it was, or one code object more, and the table tells of it -/
def Made (H H1 : Hp) (P : Addr) (q : Str) (ps : Array Value) : Prop := H1 = H ∨ ∃ (c : Addr) (more : Array Value), H c = none ∧ H1 = upd (upd H P (.tbl (ps ++ more))) c (CodeO c q) ∧ TriplesOk (ps ++ more).toList ∧ ∀ (pos : Pos) (cv : Value), codeAmong pos (ps ++ more).toList = some cv → codeAmong pos ps.toList = some cv ∨ cv = .ref c
theorem lam_new {P c : Addr} {ps : Array Value} {params : Arguments} {body : Expr} {scope : Scope} {lpos : Pos} {Q E : Value → Shared → Prop} (I : Inv X pins σ H s) (TB : TabB X.base X.mg c P) (hcode : X.env.code = .ref c) (hP : H P = some (.tbl ps)) (kn : Known H ps (X.env.qual ++ "<lambda>"))
    (hdef : defaultsOf params X.env = ([], [])) (hfree : ∀ y ∈ scope.names, y.2 = .free → ∃ c, X.env.cells.lookup y.1 = some c)
    (h : ∀ (f c' : Addr) (pm ctv : Value) (H1 : Hp) (z : Shared), Inv X pins σ H1 z → Made H H1 P (X.env.qual ++ "<lambda>") ps → z.heap.get? f = some (kla_obj "<lambda>" (X.env.qual ++ "<lambda>") params body scope (cloFrom X.env.cells scope.names []) pm c' ctv) →
      FpOk X pins H1 f → H1 c' = some (CodeO c' (X.env.qual ++ "<lambda>")) → Q (.ref f) z) :
    wpAny (model X.prog X.w) X.A (eval (.Lambda params body scope lpos) X.env) Q E s := by
  obtain ⟨ht, ha⟩ := kn
  have obP : s.heap.get? P = some { cls := .none, data := .fields ps } := I.hok P _ hP
  have glob := I.mod.glob.keeps I.bk
  have blt := TB.bm.keeps I.bk
  have code := TB.code.keeps I.bk
  refine kla_eval hdef ?_
  cases there : codeAmong lpos ps.toList with
  | some cv =>
    obtain ⟨c', rfl, hc'⟩ := ha lpos cv there
    refine kla_makeFunctionHit (mg := X.mg) (closure_ok hfree) I.ok.glob glob hcode code obP ht there blt fun ctv h' tk keep size => ?_
    have keep' : ∀ b o, s.heap.get? b = some o → (h'.push (kla_obj "<lambda>" (X.env.qual ++ "<lambda>") params body scope (cloFrom X.env.cells scope.names []) ((X.mg "__name__").getD .none) c' ctv)).get? b = some o := fun b o e => Heap.get?_push_of_some _ (keep b o e)
    exact h h'.objs.size c' _ ctv H _ (I.kept (t' := tk) keep') (.inl rfl) (Heap.get?_push_size _ rfl) (I.fpOk size (I.hok.fresh size)) hc'
  | none =>
    refine kla_makeFunction (mg := X.mg) (closure_ok hfree) I.ok.glob glob hcode code obP ht there TB.gP blt fun c' ctv h' tk keep low high record table => ?_
    obtain ⟨c2, oc, vs, t, e2, hoc, hd, hv⟩ := record
    cases e2
    have size : s.heap.objs.size ≤ h'.objs.size := Nat.le_trans low (Nat.le_of_lt high)
    have noC : H c' = none := I.hok.fresh low
    have J := inv_table (t' := tk) (more := #[rawInt lpos.line, rawInt lpos.col, .ref c']) (h' := h'.push (kla_obj "<lambda>" (X.env.qual ++ "<lambda>") params body scope (cloFrom X.env.cells scope.names []) ((X.mg "__name__").getD .none) c' ctv)) I hP
      (fun b o nb e => Heap.get?_push_of_some _ (keep b o nb e)) (Heap.get?_push_of_some _ table) low ⟨oc, vs, t, Heap.get?_push_of_some _ hoc, hd, hv⟩
    have el : (ps ++ #[rawInt lpos.line, rawInt lpos.col, .ref c']).toList = ps.toList ++ [rawInt lpos.line, rawInt lpos.col, .ref c'] := by simp
    have noF : upd (upd H P (.tbl (ps ++ #[rawInt lpos.line, rawInt lpos.col, .ref c']))) c' (CodeO c' (X.env.qual ++ "<lambda>")) h'.objs.size = none := by
      rw [upd_ne (Nat.ne_of_gt high), upd_ne (Nat.ne_of_gt (Nat.lt_of_lt_of_le (Heap.lt_size obP) size))]
      exact I.hok.fresh size
    refine h h'.objs.size c' _ ctv _ _ J (.inr ⟨c', _, noC, rfl, ?_, fun pos cv e => ?_⟩) (Heap.get?_push_size _ rfl) (I.fpOk size noF) upd_same
    · rw [el]
      exact PySem.TriplesOk_snoc _ _ _ _ ht
    · rw [el] at e
      exact among_app _ ht e
end
theorem Sl.snoc {Γ : Ct} {σ : L2.St} {H : Hp} {P : Pd} {v : V} (h : Sl Γ σ H) (hv : P.p v H) : Sl (Γ ++ [some P]) (σ ++ [some v]) H := by
  refine ⟨by rw [List.length_append, List.length_append, h.1]; rfl, fun i Q hq => ?_⟩
  rcases Nat.lt_or_ge i Γ.length with hi | hi
  · rw [List.getElem?_append_left hi] at hq
    obtain ⟨w, h1, h2⟩ := h.2 i Q hq
    exact ⟨w, by rw [List.getElem?_append_left (by rw [h.1]; exact hi)]; exact h1, h2⟩
  · have e : i = Γ.length := by
      have := (List.getElem?_eq_some_iff.mp hq).1
      rw [List.length_append, List.length_singleton] at this
      omega
    subst e
    rw [List.getElem?_append_right (Nat.le_refl _), Nat.sub_self] at hq
    have eq : P = Q := Option.some.inj (Option.some.inj hq)
    subst eq
    exact ⟨v, by rw [List.getElem?_append_right (by rw [h.1]; exact Nat.le_refl _), h.1, Nat.sub_self]; rfl, hv⟩
theorem made_step {M : Addr → Prop} {P : Addr} {q : Str} {ps : Array Value} {Rs : List Res} {K0 G1 G2 : Hp} (hM : M P) (e : Ex K0 G1) (k : Rok (tabR P q :: Rs) K0 G1) (hP : G1 P = some (.tbl ps)) (kn : Known K0 ps q) (m : Made G1 G2 P q ps) : ∃ K1, Step M K0 G1 K1 G2 ∧ Rok (tabR P q :: Rs) K1 G2 := by
  rcases m with rfl | ⟨c, more, nc, rfl, tr, am⟩
  · exact ⟨K0, Step.rfl e, k⟩
  have kc : K0 c = none := fresh_back e nc
  have nPc : P ≠ c := ne_of_none hP nc
  have kP : K0 P = none := (k.2 _ List.mem_cons_self).1
  have ex : Ex K0 (upd K0 c (CodeO c q)) := Ex.new kc
  have away : ∀ a, a ≠ P → a ≠ c → upd (upd G1 P (.tbl (ps ++ more))) c (CodeO c q) a = G1 a := fun a h1 h2 => by rw [upd_ne h2, upd_ne h1]
  refine ⟨upd K0 c (CodeO c q), ⟨fun a o hm h => ?_, fun a o h => ?_, ex, fun a o h => ?_, fun a o h => ?_⟩, k.1, fun r hr => ?_⟩
  · rw [away a (fun z => hm (z ▸ hM)) (ne_of_none h nc)]
    exact h
  · by_cases ha : a = P
    · subst ha
      exact ⟨_, by rw [upd_ne nPc, upd_same]⟩
    · exact ⟨o, by rw [away a ha (ne_of_none h nc)]; exact h⟩
  · by_cases ha : a = c
    · subst ha
      rw [upd_same] at h ⊢
      exact h
    · rw [upd_ne ha] at h
      rw [away a (ne_of_none h kP) ha]
      exact e a o h
  · by_cases ha : a = c
    · subst ha
      exact .inr nc
    · rw [upd_ne ha] at h
      exact .inl h
  · rcases List.mem_cons.mp hr with rfl | hr'
    · refine ⟨by rw [upd_ne nPc]; exact kP, ps ++ more, by rw [upd_ne nPc, upd_same], tr, fun pos cv h => ?_⟩
      rcases am pos cv h with h | h
      · obtain ⟨c1, e1, e2⟩ := kn.2 pos cv h
        exact ⟨c1, e1, ex _ _ e2⟩
      · exact ⟨c, h, upd_same⟩
    · have nd := k.1
      rw [List.flatMap_cons, List.nodup_append] at nd
      refine r.st ex (fun a ha => ?_) (fun a ha => ?_) (k.2 r hr)
      · obtain ⟨⟨o, h1⟩, h2⟩ := r.tr (k.2 r hr) a ha
        rw [upd_ne (ne_of_none h1 nc)]
        exact h2
      · obtain ⟨⟨o, h1⟩, h2⟩ := r.tr (k.2 r hr) a ha
        refine away a (fun z => ?_) (ne_of_none h1 nc)
        exact nd.2.2 P (by simp [tabR]) a (List.mem_flatMap.mpr ⟨r, hr', ha⟩) z.symm
section
variable {M : Addr → Prop} {Γ : Ct} {Rs : List Res} {X : Cx}
/-- min(xs, key=lambda x: (.., ..)) -/
theorem xe_minLam {q0 : Str} {kw x : Str} {xs body : Expr} {params : Arguments} {scope : Scope} {np lp kp pos : Pos} {c P : Addr} {ns : List Int} {kf : Int → Int × Int} {k : Nat} (hm : X.mg "min" = none) (TB : TabB X.base X.mg c P) (hcode : X.env.code = .ref c) (hq0 : X.env.qual ++ "<lambda>" = q0) (hM : M P) (L : LamP X.env.scope scope x) (hx : x ∉ X.N)
    (hdef : defaultsOf params X.env = ([], [])) (hr : Room (k + 3) X.A) (hxs : XE M Γ (tabR P q0 :: Rs) X xs (PD X.K (.list (li ns)))) (hne : 0 < ns.length)
    (hb : ∀ (f c' : Addr) (pm ctv : Value) (u : Value), bindArgs (kla_fn "<lambda>" (X.env.qual ++ "<lambda>") params body scope (cloFrom X.env.cells scope.names []) pm (.ref c') ctv) ⟨[u], []⟩ = pure [(x, u)])
    (hbody : ∀ n ∈ ns, ∀ (A : Around) (outer : List Env) (s : Shared) (H : Hp) (f c' : Addr), Room k (lamPx X x A outer s H scope f c').A → XE M0 (Γ ++ [some (PD X.K (.int n))]) [] (lamPx X x A outer s H scope f c') body (PD X.K (.tuple [.int (kf n).1, .int (kf n).2])))
    (hkw : kw = "key" := by rfl) (hg : Gl X "min" := by rfl) (hs : starEach [xs] X.env = (false, eval xs X.env) :: starEach [] X.env := by rfl) (hc : X.calm = true := by rfl) (hpl : (backTo pos (starEach [xs] X.env)).any (·.1) = false := by rfl) :
    XE M Γ (tabR P q0 :: Rs) X (.Call (.Name "min" np) [xs] [⟨some kw, .Lambda params body scope lp, kp⟩] pos) (PEx (fun m => m ∈ ns ∧ ∀ n ∈ ns, ¬ ltK (kf n) (kf m)) fun m => PD X.K (.int m)) := by
  subst hkw hq0
  intro σ H0 H l ex rok Qf q pins s I
  refine wpAny_Call_Name_kw (ld_blt I hg hm (by decide +kernel : bootBuiltins "min" = some (.builtin "min")) ?_)
  have hX := I.ok.hd hc
  refine callWith_kw (L2.thn (pa_wp.run pos pins s σ H (fun vs G1 => ∃ K1, Step M H0 H K1 G1 ∧ Rok (tabR P (X.env.qual ++ "<lambda>") :: Rs) K1 G1 ∧ DAll [PD X.K (.list (li ns))] vs K1) I ((xa_1 hxs hs) σ H0 H l ex rok _ fun vs K1 G1 s1 k1 hv => ⟨K1, s1, k1, hv⟩)) fun us s1 hq => ?_) (by rw [hs]; rfl) hpl rfl rfl
  obtain ⟨vs, G1, I1, r1, K1, t1, k1, hv⟩ := hq
  obtain ⟨v, rfl, l1, ys, rfl, hl, hd⟩ := da1 hv
  obtain rfl := hd.ints
  obtain ⟨u, rfl, ru⟩ := r1.one
  obtain rfl : u = Value.ref l1 := ru
  obtain ⟨kP, ps, gP, kn⟩ := k1.2 _ List.mem_cons_self
  have kn1 : Known G1 ps (X.env.qual ++ "<lambda>") := ⟨kn.1, fun pos cv h => by
    obtain ⟨c1, e1, e2⟩ := kn.2 pos cv h
    exact ⟨c1, e1, t1.le _ _ e2⟩⟩
  show wpAny _ _ (evalAll ((do let v ← eval (.Lambda params body scope lp) X.env; standAt pos; pure v) :: [])) _ _ s1
  refine wpAny_evalAll_cons (wpAny_bind (lam_new I1 TB hcode gP kn1 hdef (clo_of L I1.ok) fun f c' pm ctv G2 z I2 made obf fpf hc' => ?_))
  refine wpAny_bind (wpAny_standAt (wpAny_pure (wpAny_evalAll_nil ?_)))
  obtain ⟨K2, t2, k2⟩ := made_step hM t1.le k1 gP kn made
  show wpAny _ X.A (call (.builtin "min") [.ref l1] [(Str.ofString "key", .ref f)]) _ _ z
  have I3 := I2.pinned (fp := [f]) (fun b hb => by
    rw [List.mem_singleton.mp hb]
    exact fpf) fun b hb => by
    rw [List.mem_singleton.mp hb]
    exact ⟨_, obf, fun v e => by cases e⟩
  have Γ2 : Sl Γ σ K2 := (l.ex t1.ex).ex t2.ex
  have run : KeyRun X (pins ++ pinsAt [f] z.heap) σ f ns kf fun G => ∃ K3, Step M0 K2 G2 K3 G := by
    intro pl n hn G y tk J ⟨K3, t3⟩
    have pf := J.pin (f, _) (List.mem_append_right _ (List.mem_append_left _ (List.mem_append_right _ (mem_pinsAt (by simp) obf))))
    have hcG : G c' = some (CodeO c' (X.env.qual ++ "<lambda>")) := t3.un _ _ (fun z => z) hc'
    have hr1 : Room (k + 1) X.A.in1 := (hr.mono (by omega : k + 2 ≤ k + 3)).in1
    refine wpAny_call (codeAny_mono (lamp_run (E := fun _ _ _ => False) (v := .int n) (Q := fun v G' => ∃ K4, Step M0 K3 G K4 G' ∧ (PD X.K (.tuple [.int (kf n).1, .int (kf n).2])).p v K4) J L hx pf.1 hcG J.env0.in1 hr1 (hb f c' pm ctv _) ⟨tk, rfl⟩ fun room => ?_) fun r y' hq => ?_)
    · exact hbody n hn _ _ _ _ _ _ room (σ ++ [some (.int n)]) K3 G (Sl.snoc (Γ2.ex t3.ex) (show (PD X.K (.int n)).p (.int n) K3 from rfl)) t3.le Rok.nil (fun v G' => ∃ K4, Step M0 K3 G K4 G' ∧ (PD X.K (.tuple [.int (kf n).1, .int (kf n).2])).p v K4) fun v K4 G' t4 _ hv4 => ⟨K4, t4, hv4⟩
    · cases r with
      | error e => exact hq.elim
      | ok fl =>
        cases fl with
        | ret u =>
          obtain ⟨v, G', J', rv, K4, t4, t, xs4, rfl, ht, hd4⟩ := J.after hq
          obtain ⟨x1, w1, e1, y1, x2, w2, e2, y2, e3⟩ := hd4
          have y1' : x1 = .int (kf n).1 := y1
          have y2' : x2 = .int (kf n).2 := y2
          subst y1' y2' e3 e2 e1
          obtain rfl : u = Value.ref t := rv
          exact ⟨G', J', ⟨K4, t3.trans t4⟩, fun b o h => t4.un b o (fun z => z) h, t, rfl, ex_t t4.le ht⟩
        | next => exact hq.elim
        | brk => exact hq.elim
        | cont => exact hq.elim
  refine minK_call (Gd := fun G => ∃ K3, Step M0 K2 G2 K3 G) hX (by have := hr.un; show X.A.units + 1 < cLine; omega) run hne I3 ⟨K2, Step.rfl t2.le⟩ (ex_l (t2.ex.trans t2.le) (SqL.of hl)) fun m G y tk hm1 hm2 J ⟨K3, t3⟩ => ?_
  exact ⟨.int m, G, J.unpinned, ⟨tk, rfl⟩, q (.int m) K3 G ((t1.trans t2).trans t3.of0) (k2.step0 t3) ⟨m, ⟨hm1, hm2⟩, rfl⟩⟩
end
end LhL
/-! A def whose code object is told; a module's tuple. -/
namespace LhL
open PySem L2 LamX PySem.W PyProof.Rows Lh
open Evl (Ex ex_l ex_t ex_rd fresh_back)
/-- a def of the text, its code object at c -/
structure CodeAt (K : PySem.W.Frag) (x qual : Str) (st : Stmt) (f : Addr) (fd : FuncData) (c : Addr) : Prop where
  ex : ∃ (oc : Value) (od : Option Addr) (kV doc pm : Value) (an : Option Addr) (ct : Value) (osl : Array (Option Value)),
    fd = PySem.W.fnOf x qual (defArgs st) (defBody st) (defScope st) .none kV doc pm an (.ref c) ct ∧ K.lookup f = some ⟨oc, od, .func fd, osl⟩ ∧ PySem.W.codeIn K (.ref c) qual = true
section
variable {K : PySem.W.Frag} {mg : Str → Option Value} {base : Heap} {P : Program} {w : World}
theorem fn_FC {α : Type} {M : α → Addr → Prop} {Rs : α → List Res} {pre : α → List Pd} {post : α → Pd} {x qual : Str} {st : Stmt} {f c : Addr} {fd : FuncData} {N ps : List Str} {k : Nat} (F : CodeAt K x qual st f fd c) (S : FnScope N ps (defScope st)) (len : ∀ y, (pre y).length = ps.length)
    (hb : ∀ (y : α) (Z0 Z : Hp) (Q : VK) (X : Cx) (qX : ∃ (A : Around) (outer : List Env) (s : Shared) (E : XK), X = (cxOf CX0 P w K mg base N qual (defScope st) f (.ref c) A outer s Z E).nox ∧ Room k X.A), (∀ v H0' H', Step (M y) Z0 Z H0' H' → Rok (Rs y) H0' H' → (post y).p v H0' → Q v H') →
      XS (M y) (ctOf N (pre y)) (Rs y) X Z0 Z Z0 { nx := fun _ H' => Q .non H', rt := Q } (defBody st)) : FnOk P w K mg base CX0 (k + 1) f fd ps (SpF M Rs pre post) := by
  obtain ⟨oc, od, kV, doc, pm, an, ct, osl, rfl, lk, hcd⟩ := F.ex
  refine fn_of lk hcd S (fun vs H Q E h => ?_) fun A outer s H vs Q E hr h => ?_
  · obtain ⟨y, H0, _, _, h, _⟩ := h
    rw [h.1, len]
  · obtain ⟨y, H0, e, r, h, q⟩ := h
    exact ⟨_, pss_wp.nox, hb y H0 H Q _ ⟨A, outer, s, E, rfl, hr⟩ q _ H0 H (sl_start h) (Step.rfl e) (Ex.refl _) r⟩
end
end LhL
/-! An own error over ValueError whose __init__ begins with super().__init__(..). -/
namespace LhX
open PySem L2 PySem.W PyProof.Rows PySem.Calls Lh
/-- the frame of such an __init__ -/
abbrev envI (qual : Str) (scope : Scope) (L f : Addr) (cda cc : Addr) : Env := envX qual scope L f (.ref cda) [("__class__", cc)]
/-- the context of its body -/
def cxI (CX : CXT) (P : Program) (w : World) (K : Frag) (mg : Str → Option Value) (base : Heap) (N : List Str) (env : Env) (A : Around) (outer : List Env) (s : Shared) (H : Hp) (E : XK) : Cx where
  prog := P
  w := w
  K := K
  mg := mg
  base := base
  A := A.deeper env
  N := N
  s_0 := s
  H_0 := H
  env := env
  outer := outer
  stack := env :: outer
  ex := []
  fn := fun _ => false
  calm := true
  pn := []
  xe := fun e s' => wpAny (model P w) (A.deeper env) (leaving env e) (fun _ s'' => CX outer H s E e s'') (fun e' s'' => CX outer H s E e' s'') s'
/-- what the written part says of the class at C, its __init__ at f -/
structure SupD (P : Program) (K : Frag) (mg : Str → Option Value) (C : Addr) (qual : Str) (st : Stmt) (f : Addr) (fd : FuncData) : Prop where
  lk : ∃ (oc kV doc pm ct ccl cl : Value) (od an cdd cld : Option Addr) (osl ccs csl : Array (Option Value)) (cda cc : Addr) (vs : Array Value) (file : Str) (tf : Tok),
    fd = fnX "__init__" qual (defArgs st) (defBody st) (defScope st) [("__class__", cc)] .none kV doc pm an (.ref cda) ct ∧ K.lookup f = some ⟨oc, od, .func fd, osl⟩ ∧ codeIn K (.ref cda) qual = true ∧
    K.lookup cda = some ⟨ccl, cdd, .fields vs, ccs⟩ ∧ vs[2]? = some (.str file tf) ∧ ((P.main.file : Str) == file) = true ∧ K.lookup cc = some ⟨cl, cld, .cell (some (.ref C)), csl⟩
  top : (P.main.scope.names.lookup ("super" : Str)).isSome = false
  sup : mg "super" = none
  opq : nsIn K cStatics "thirdparty.any" = some none
  ini : ks_superIn K C C "__init__" = some (some (.builtin "ValueError.__init__"))
  isV : subIn K (.ref C) (.type "ValueError") = some true
  inC : mroIn K C (.ref C) = some true
  oex : OexC K C
/-- what its scope must be -/
structure SupS (ps : List Str) (st : Stmt) : Prop where
  kind : (defScope st).kind = .function
  co : (defScope st).isCoroutine = false
  gen : (defScope st).isGenerator = false
  nd : ps.Nodup
  par : ∀ x ∈ ps, (defScope st).names.lookup x = some .local
  nocell : ∀ y ∈ (defScope st).names, y.2 ≠ .cell
  free : ∀ y, (defScope st).names.lookup y = some .free → y = "__class__"
  cls : (defScope st).names.lookup ("__class__" : Str) = some .free
  sup : (defScope st).names.lookup ("super" : Str) = some .globalImplicit
  self : ps[0]? = some ("self" : Str)
  arg : ((defArgs st).posonlyargs ++ (defArgs st).args).head?.map (·.arg) = some ("self" : Str)
theorem zip_out {x : Str} : ∀ {ps : List Str} {us : List Value}, x ∉ ps → (ps.zip us).reverse.lookup x = none
  | [], _, _ => rfl
  | _ :: _, [], _ => rfl
  | p :: ps, u :: us, h => by
    have h1 : x ∉ ps := fun q => h (List.mem_cons_of_mem p q)
    have h2 : (x == p) = false := by simpa using fun e : x = p => h (e ▸ List.mem_cons_self)
    rw [List.zip_cons_cons, List.reverse_cons, List.lookup_append, zip_out h1]
    simp [List.lookup, h2]
theorem zip_at {x : Str} {u : Value} : ∀ {ps : List Str} {us : List Value} {i : Nat}, ps.Nodup → ps[i]? = some x → us[i]? = some u → (ps.zip us).reverse.lookup x = some u
  | [], _, _, _, h, _ => by simp at h
  | _ :: _, [], _, _, _, h => by simp at h
  | p :: ps, w :: us, 0, nd, h1, h2 => by
    have e1 : p = x := by simpa using h1
    have e2 : w = u := by simpa using h2
    subst e1 e2
    rw [List.zip_cons_cons, List.reverse_cons, List.lookup_append, zip_out (List.nodup_cons.mp nd).1]
    simp [List.lookup]
  | p :: ps, w :: us, i + 1, nd, h1, h2 => by
    rw [List.zip_cons_cons, List.reverse_cons, List.lookup_append, zip_at (i := i) (List.nodup_cons.mp nd).2 (by simpa using h1) (by simpa using h2)]
    rfl
theorem call_mw {M : Model} {A : Around} {E : Value → Shared → Prop} {s : Shared} {i : String} {u x : Addr} {pos : Pos} {env : Env} {e : Expr} {rest : List Expr} {first : List Value} {Q : Value → Shared → Prop} (he : starEach (e :: rest) env = (false, eval e env) :: starEach rest env) (hpl : (backTo pos (starEach rest env)).any (·.1) = false)
    (h : wpAny M A (spliced (backTo pos (starEach (e :: rest) env))) (fun vs s1 => KxsAt i u x s1.heap ∧ wpAny M A (call (.ref u) (first ++ vs)) Q E s1) E s) : wpAny M A (callWith pos (.ref u) first (backTo pos (starEach (e :: rest) env)) []) Q E s := by
  rw [he] at h ⊢
  exact kxs_callWith (i := i) (x := x) (by show (false || (backTo pos (starEach rest env)).any (·.1)) = false; rw [hpl]; rfl) (evalArgs_plain h)
section
variable {P : Program} {w : World} {K : Frag} {mg : Str → Option Value} {base : Heap} {C f : Addr} {qual : Str} {st : Stmt} {fd : FuncData} {ps : List Str}
/-- the state in which the body begins -/
theorem inv_begin {CX : CXT} {A : Around} {outer : List Env} {s : Shared} {H : Hp} {E : XK} {us : List Value} {vs : List V} {cda cc : Addr} {ob : Obj} {h₀ : Heap} {tk : Nat} (S : SupS ps st) (hd : A.handled = none) (e0 : Env0 P w K mg base A outer s H) (hl : vs.length = ps.length) (r : Vals vs us)
    (hcc : K.lookup cc = some ob) (hob : ob.data = .cell (some (.ref C))) (hns : h₀.Ns s.heap.objs.size (fun x => (ps.zip us).reverse.lookup x)) (hk : ∀ b o, s.heap.get? b = some o → h₀.get? b = some o) :
    Inv (cxI CX P w K mg base ps (envI qual (defScope st) s.heap.objs.size f cda cc) A outer s H E) [] (L2.start ps vs) H { s with heap := h₀, toks := tk } := by
  have hbase : base.get? cc = some ob := e0.mod.kin _ _ hcc
  have noA : ∀ b : Addr, b ∉ (cxI CX P w K mg base ps (envI qual (defScope st) s.heap.objs.size f cda cc) A outer s H E).ex := fun b z => absurd (show b ∈ ([] : List Addr) from z) (by simp)
  have look : ∀ {y c}, ([(("__class__" : Str), cc)] : List (Str × Addr)).lookup y = some c → y = "__class__" ∧ c = cc := fun {y c} h => by
    by_cases e : y = "__class__"
    · subst e
      have h' : some cc = some c := h
      exact ⟨rfl, (Option.some.inj h').symm⟩
    · have e' : (y == ("__class__" : Str)) = false := by simpa using e
      simp [List.lookup, e'] at h
  refine ⟨⟨e0.mod, S.kind, rfl, rfl, Nat.le_refl _, fun y z c h1 h2 => (look h1).1.trans (look h2).1.symm, fun y hy => ?_, fun y c h => Bool.noConfusion h, fun _ => hd, Around.frames_deeper e0.frames, .inr ⟨rfl, rfl⟩, fun b z => absurd z (noA b), e0.bs, e0.bsz, fun b _ _ => noA b, fun b z => absurd z (noA b), e0.funs, e0.frf⟩,
    rfl, e0.bare, Un.kept hk, ⟨_, hns, fun i y v h1 h2 h3 => ?_⟩, fun y c h => ?_, e0.hok.fresh (Nat.le_refl _), fun y c h => ?_, fun p hp => absurd (show p ∈ ([] : List (Addr × Obj)) from hp) (by simp), e0.hok.kept hk, ?_⟩
  · have hy : (defScope st).names.lookup y = some .cell ∨ (defScope st).names.lookup y = some .free := hy
    rcases hy with hy | hy
    · exact absurd rfl (S.nocell _ (PySem.mem_of_lookup hy))
    · rw [S.free y hy]
      exact ⟨cc, rfl⟩
  · have hi : i < vs.length := by
      have := (List.getElem?_eq_some_iff.mp h1).1
      rw [hl]
      exact this
    have ha : vs[i]? = some v := by
      unfold L2.start at h2
      rw [List.getElem?_append_left (by simpa using hi), List.getElem?_map] at h2
      cases e : vs[i]? with
      | none =>
        rw [e] at h2
        cases h2
      | some a =>
        rw [e] at h2
        cases h2
        rfl
    obtain ⟨u, hu, rv⟩ := r.get ha
    exact ⟨u, rv, .inl ⟨S.par y (List.mem_of_getElem? h1), zip_at S.nd h1 hu⟩⟩
  · obtain ⟨_, rfl⟩ := look h
    exact ⟨_, ob, hk _ _ (e0.bs _ _ hbase).1, hob⟩
  · obtain ⟨_, rfl⟩ := look h
    exact (e0.bs _ _ hbase).2
  · unfold L2.start
    show _ = ps.length
    rw [List.length_append, List.length_map, List.length_replicate]
    omega
/-- super().__init__(e, ..): the args are laid, nothing of them is told -/
theorem run_super {X : Cx} {A : Around} {outer : List Env} {s0 : Shared} {H0 : Hp} {E : XK} {cda cc : Addr} {σ : L2.St} {s : Shared} {H : Hp} {D : Ends} {e : Expr} {es : List Expr} {ta : TA} {p0 p1 p2 p3 p4 : Pos} {pl : Sem Bool}
    (T : SupD P K mg C qual st f fd) (S : SupS ps st) (hX : X = cxI L2.CX0 P w K mg base ps (envI qual (defScope st) s0.heap.objs.size f cda cc) A outer s0 H0 E)
    (hlk : ∃ (oc kV doc pm ct ccl cl : Value) (od an cdd cld : Option Addr) (osl ccs csl : Array (Option Value)) (vs : Array Value) (file : Str) (tf : Tok),
      fd = fnX "__init__" qual (defArgs st) (defBody st) (defScope st) [("__class__", cc)] .none kV doc pm an (.ref cda) ct ∧ K.lookup f = some ⟨oc, od, .func fd, osl⟩ ∧ codeIn K (.ref cda) qual = true ∧
      K.lookup cda = some ⟨ccl, cdd, .fields vs, ccs⟩ ∧ vs[2]? = some (.str file tf) ∧ ((P.main.file : Str) == file) = true ∧ K.lookup cc = some ⟨cl, cld, .cell (some (.ref C)), csl⟩)
    (I : Inv X [] σ H s) {a : Addr} (hσ : σ[0]? = some (some (.ref a))) (ha : H a = some (exo a C none)) (hpa : PA X (e :: es) ta)
    (hq : ta σ H fun ws H1 => ws.length ≤ 1000 ∧ H1 a = some (exo a C none) ∧ D.nx σ H1)
    (hi : interactive X.env = false := by rfl)
    (hsw : swapsWith (.Call (.Attribute (.Call (.Name "super" p0) [] [] p1) "__init__" p2) (e :: es) [] p3) none p4.line X.env = pure false := by rfl)
    (hce : eval (.Call (.Attribute (.Call (.Name "super" p0) [] [] p1) "__init__" p2) (e :: es) [] p3) X.env = (do
      let ov ← attributeBase (.Call (.Name "super" p0) [] [] p1) "__init__" X.env (eval (.Call (.Name "super" p0) [] [] p1) X.env)
      standAt p2.atName
      let (f, first) ← holding [ov] (getMethod ov "__init__" pl)
      callWith p3 f first (backTo p3 (starEach (e :: es) X.env)) []) := by rfl)
    (he : starEach (e :: es) X.env = (false, eval e X.env) :: starEach es X.env := by rfl) (hpl : (backTo p3 (starEach es X.env)).any (·.1) = false := by rfl) :
    _root_.PySem.wpAt (model P w) X.A (.func (defBody st) X.env) (exec (.Expr (.Call (.Attribute (.Call (.Name "super" p0) [] [] p1) "__init__" p2) (e :: es) [] p3) p4) X.env) (SP X [] D) X.xe s := by
  subst hX
  obtain ⟨oc, kV, doc, pm, ct, ccl, cl, od, an, cdd, cld, osl, ccs, csl, vs, file, tf, rfl, lf, hcd, lcd, hvs, hfile, lcc⟩ := hlk
  have X : K.In s.heap := I.kIn
  obtain ⟨nm, q, N, bs, bm, sn, sub, ab, col, dd, k0, k1, k2, k3, k5, hC, hbm⟩ := T.oex.cls
  obtain ⟨m, hn, hlk⟩ := id I.loc
  obtain ⟨mb, hb1, hb2⟩ := I.mod.blt
  have mem0 : ("self" : Str) ∈ ps := List.mem_of_getElem? S.self
  obtain ⟨u, ru, lu⟩ := hlk 0 "self" (.ref a) S.self hσ (.inl (S.par _ mem0))
  have eu : u = Value.ref a := ru
  subst eu
  have hma : m "self" = some (.ref a) := by
    rcases lu with ⟨_, h⟩ | ⟨h, _⟩
    · exact h
    · have hl : (defScope st).names.lookup ("self" : Str) = some .local := S.par _ mem0
      have h' : (defScope st).names.lookup ("self" : Str) = some .cell ∨ (defScope st).names.lookup ("self" : Str) = some .free := h
      rw [hl] at h'
      rcases h' with h' | h' <;> cases h'
  obtain ⟨ar, har, hself⟩ := Option.map_eq_some_iff.mp S.arg
  obtain ⟨t1, ho⟩ := exo_at I.hok ha
  have aC : a ≠ C := fun z => by
    rw [z, X _ _ hC] at ho
    cases ho
  refine ks_wpAt_Expr_any ?_ hi hsw
  refine ks_wpAt_MethodCall (pl := pl) ?_ hce
  refine PySem.ks_wpAt_super_base S.sup S.cls (by decide) rfl (X _ _ lf) rfl har rfl (X _ _ lcd) rfl hvs hfile T.top ?_
  refine ks_loadName_global S.kind S.sup (Calls.loadGlobal_builtin (I.mod.glob.keeps I.bk) T.sup (hb1.keeps I.bk) ((hb2 _ (by decide +kernel)).trans PyProof.Rows.Boot.«super») ⟨rfl, ?_⟩)
  refine wpAny_loadName_free S.kind S.cls rfl ⟨_, X _ _ lcc, rfl⟩ ?_
  rw [hself]
  refine wpAny_loadName_local S.kind (S.par _ mem0) hn hma ?_
  refine PySem.ks_wpAny_isType_cls (X _ _ hC) rfl ⟨rfl, ?_⟩
  obtain ⟨hp, g, dr, tk, os⟩ := s
  refine PySem.ks_wpAny_call_super (X _ _ hC) rfl ho rfl (fun c z => by cases z) (looks_mroIn X T.inC) fun h1 e1 keep1 => ?_
  have X1 : K.In h1 := X.keeps keep1
  have ho1 := keep1 _ _ ho
  have hcl : clsIn K C = some { name := nm, bases := bs, mro := .ref C :: bm, ns := N, qualname := q, hasDict := true, slotNames := sn, subclasses := sub, abstract := ab, collection := col, hasDel := false } := by
    unfold clsIn
    rw [hC] <;> rfl
  have J1 : InstAt h1 a { cls := .ref C, dict := none, data := .fields #[.ref t1, .none, .none, .none, .bool false, .none] } C none := ⟨ho1, rfl, rfl, trivial⟩
  have hmro : Looks (model P w) h1 (mroOf (.ref C)) (.ref C :: bm) := fun A Q E s k q => wpAny_bind ((looks_clsIn X1 hcl) A _ E s k (wpAny_pure q))
  have hini := T.ini
  unfold ks_superIn at hini
  rw [hcl] at hini
  refine kxs_getMethod kxs_ValueError (l₀ := .ref C :: bm) e1 (looks_opaque X1 T.opq) hmro rfl X1 hini (J1.type.andThen (looks_subIn X1 T.isV)) aC (by decide) ?_
  obtain ⟨u, hu⟩ : ∃ u, u = h1.objs.size := ⟨_, rfl⟩
  rw [← hu]
  have keep2 : ∀ b o, hp.get? b = some o → (h1.push (kxs_mw "ValueError.__init__" a)).get? b = some o := fun b o e => Heap.get?_push_of_some _ (keep1 b o e)
  have eu : (h1.push (kxs_mw "ValueError.__init__" a)).get? u = some (kxs_mw "ValueError.__init__" a) := by
    rw [hu]
    exact Heap.get?_push_at rfl rfl
  have nu : hp.objs.size ≤ u := by
    have h1lt : hp.objs.size < h1.objs.size := Heap.lt_size e1
    rw [hu]
    omega
  have I2 := I.kept (t' := tk + 1) keep2
  have pin : ∀ p ∈ [(u, kxs_mw "ValueError.__init__" a)], (h1.push (kxs_mw "ValueError.__init__" a)).get? p.1 = some p.2 ∧ H p.1 = none ∧ p.1 ≠ s0.heap.objs.size ∧ p.1 ∉ frs outer ∧ ∀ v, p.2.data ≠ .cell v := fun p hp2 => by
    have e : p = (u, kxs_mw "ValueError.__init__" a) := by simpa using hp2
    subst e
    have lt : s0.heap.objs.size < hp.objs.size := I.lt
    exact ⟨eu, I.hok.fresh nu, fun z => by
      have z' : u = s0.heap.objs.size := z
      omega, I.nofs nu, fun v z => by cases z⟩
  have I3 := I2.pins_of pin
  refine call_mw (i := "ValueError.__init__") (x := a) he hpl ?_
  refine wpAny_mono (hpa.run p3 _ _ σ H _ I3 hq) (fun us s2 hus => ?_) fun _ _ z => z
  obtain ⟨ws, H2, I4, r2, hz, ha2, hD⟩ := hus
  obtain ⟨e4, _⟩ := I4.pin (u, kxs_mw "ValueError.__init__" a) (List.mem_append_right _ List.mem_cons_self)
  refine ⟨e4, ?_⟩
  obtain ⟨t2, ho2⟩ := exo_at I4.hok ha2
  have hus2 : us.length ≤ sizeLine := by
    rw [← Paired.length r2, sizeLine_eq]
    omega
  have X4 : K.In s2.heap := I4.kIn
  obtain ⟨hp2, g2, d2, tk2, os2⟩ := s2
  refine wpAny_call (codeAny_of_tree ?_)
  show wpAny _ ((cxI L2.CX0 P w K mg base ps (envI qual (defScope st) s0.heap.objs.size f cda cc) A outer s0 H0 E).A.in1) (callAny (.ref u) ⟨[] ++ us, []⟩) _ _ _
  simp only [callAny]
  refine wpAny_bind (wpAny_load e4 ?_)
  simp only [kxs_mw, show (Value.type "method-wrapper" == Value.type "method" || Value.type "method-wrapper" == Value.type "builtin_function_or_method" || Value.type "method-wrapper" == Value.type "method-wrapper") = true by decide, if_true]
  refine KFB.if_so (by decide) ?_
  refine wpAny_bind (check_bound_init PySem.F.excBase_ValueError.toExcCallFacts (X4 _ _ hC) ho2 rfl ?_)
  refine wpAny_bind (wpAny_pure (wpAny_pure ?_))
  refine ⟨Code.quiet_builtin _ (by decide +kernel), codeAny_builtin PySem.F.excBase_ValueError.initEntry ?_⟩
  refine exc_init_tree (cls := .ref C) (t0 := t2) (dv := none) (c2 := .none) (c3 := .none) (b4 := .bool false) ho2 hus2 fun h5 k5 e5 _ => ?_
  have J := I4.write (t' := tk2) (x := a) (e := a) (o := exo a C none) (by rw [ha2]; exact True.intro) (.inl rfl) k5 ⟨_, e5⟩ (exo_ok e5)
  have eqH : upd H2 a (exo a C none) = H2 := by
    funext b
    by_cases hb : b = a
    · rw [hb, upd_same, ha2]
    · rw [upd_ne hb]
  rw [eqH] at J
  exact ⟨σ, H2, J.pins_of fun p hp => by simp at hp, hD⟩
/-- such an __init__ by its body -/
theorem fn_sup {k : Nat} {sp : Sp} {e : Expr} {es : List Expr} {rest : List Stmt} {p0 p1 p2 p3 p4 : Pos} (T : SupD P K mg C qual st f fd) (S : SupS ps st)
    (hst : defBody st = .Expr (.Call (.Attribute (.Call (.Name "super" p0) [] [] p1) "__init__" p2) (e :: es) [] p3) p4 :: rest) (len : ∀ vs H Q E, sp vs H Q E → vs.length = ps.length)
    (hbody : ∀ (cda cc : Addr) (A : Around) (outer : List Env) (s : Shared) (H : Hp) (vs : List V) (Q : VK) (E : XK) (X : Cx), X = cxI L2.CX0 P w K mg base ps (envI qual (defScope st) s.heap.objs.size f cda cc) A outer s H E → Room k X.A → sp vs H Q E →
      ∃ (a : Addr) (ta : TA) (tr : TS) (pl : Sem Bool), vs[0]? = some (.ref a) ∧ H a = some (exo a C none) ∧ PA X (e :: es) ta ∧ PSs X rest tr ∧
        ta (L2.start ps vs) H (fun ws H1 => ws.length ≤ 1000 ∧ H1 a = some (exo a C none) ∧ tr { nx := fun _ H' => Q .non H', rt := Q } (L2.start ps vs) H1) ∧
        interactive X.env = false ∧ swapsWith (.Call (.Attribute (.Call (.Name "super" p0) [] [] p1) "__init__" p2) (e :: es) [] p3) none p4.line X.env = pure false ∧
        eval (.Call (.Attribute (.Call (.Name "super" p0) [] [] p1) "__init__" p2) (e :: es) [] p3) X.env = (do
          let ov ← attributeBase (.Call (.Name "super" p0) [] [] p1) "__init__" X.env (eval (.Call (.Name "super" p0) [] [] p1) X.env)
          standAt p2.atName
          let (f, first) ← holding [ov] (getMethod ov "__init__" pl)
          callWith p3 f first (backTo p3 (starEach (e :: es) X.env)) []) ∧
        starEach (e :: es) X.env = (false, eval e X.env) :: starEach es X.env ∧ (backTo p3 (starEach es X.env)).any (·.1) = false) : FnOk P w K mg base L2.CX0 (k + 1) f fd ps sp := by
  refine ⟨len, fun A outer s H args us vs Q E hr e0 hb r hsp => ?_⟩
  have hl := len _ _ _ _ hsp
  have KX : K.In s.heap := e0.mod.kin.keeps fun b o e => (e0.bs b o e).1
  have lim : s.heap.NoLimit := e0.mod.nolimit.keeps fun b o e => (e0.bs b o e).1
  obtain ⟨oc, kV, doc, pm, ct, ccl, cl, od, an, cdd, cld, osl, ccs, csl, cda, cc, vs1, file, tf, efd, lf, hcd, lcd, hvs, hfile, lcc⟩ := id T.lk
  have T' := T
  subst efd
  refine codeAny_call_function hr.depth (KX _ _ lf) rfl S.co S.gen rfl (codeRec_of KX hcd) (hb _ _ _ _ ?_)
  refine wpAny_newFunctionEnv S.nocell (fun y hy => S.par _ (List.of_mem_zip hy).1) (fun h1 hns hsb => ⟨lim.fresh _ hsb, ?_⟩) S.kind
  have kp : ∀ b o, s.heap.get? b = some o → h1.get? b = some o := fun b o e => hsb.extBut b o (Nat.ne_of_lt (Heap.lt_size e)) (Heap.get?_push_of_some _ e)
  obtain ⟨X, hX⟩ : ∃ X, X = cxI L2.CX0 P w K mg base ps (envI qual (defScope st) s.heap.objs.size f cda cc) A outer s H E := ⟨_, rfl⟩
  have I : Inv X [] (L2.start ps vs) H { s with heap := h1, toks := s.toks + (ps.zip us).length } := by
    rw [hX]
    exact inv_begin S hr.hd e0 hl r lcc rfl hns kp
  obtain ⟨a, ta, tr, pl, hv0, ha, hpa, hps, hq, hi, hsw, hce, he, hpl⟩ := hbody cda cc A outer s H vs Q E X hX (by rw [hX]; exact hr.deeper _) hsp
  have h0 : (L2.start ps vs)[0]? = some (some (V.ref a)) := by
    unfold L2.start
    have hlen : 0 < vs.length := (List.getElem?_eq_some_iff.mp hv0).1
    rw [List.getElem?_append_left (by simpa using hlen), List.getElem?_map, hv0]
    rfl
  have run := run_super (D := { nx := tr { nx := fun _ H' => Q .non H', rt := Q }, rt := Q }) (pl := pl) T' S hX ⟨oc, kV, doc, pm, ct, ccl, cl, od, an, cdd, cld, osl, ccs, csl, vs1, file, tf, rfl, lf, hcd, lcd, hvs, hfile, lcc⟩ I h0 ha hpa hq hi hsw hce he hpl
  have fin : ∀ {σ' : L2.St} {H' : Hp} {v : V} {u : Value} {s' : Shared}, Inv X [] σ' H' s' → L2.RelV v u → Q v H' → CE outer P w H s Q u s' := fun {σ' H' v u s'} J rv q => by
    subst hX
    exact ⟨v, H', J.os, J.bare, J.base, J.hok, rv, q⟩
  refine ks_codeAny_funcAt (env := envI qual (defScope st) s.heap.objs.size f cda cc) ?_
  have hA : A.deeper (envI qual (defScope st) s.heap.objs.size f cda cc) = X.A := by rw [hX]; rfl
  have hE : envI qual (defScope st) s.heap.objs.size f cda cc = X.env := by rw [hX]; rfl
  rw [hA, hE, hst]
  rw [← hst]
  refine ks_wpAt_mono (E := X.xe) (Q := SP X [] { nx := fun _ H' => Q .non H', rt := Q }) ?_ (fun fl s' hs => ?_) fun e2 s' hs => ?_
  · rw [hst]
    refine ks_wpAt_execs_cons ?_
    rw [← hst]
    refine ks_wpAt_mono run (fun fl s' hs => ?_) fun _ _ z => z
    cases fl with
    | next =>
      obtain ⟨σ', H', J, q⟩ := hs
      have z := hps.run [] _ _ _ _ J q
      have e1 : X.prog = P := by rw [hX]; rfl
      have e2 : X.w = w := by rw [hX]; rfl
      rw [e1, e2] at z
      exact PySem.wpAt_of_wpAny z
    | ret u => exact hs
    | brk => exact hs
    | cont => exact hs
  · cases fl with
    | ret u =>
      obtain ⟨v, σ', H', J, rv, q⟩ := hs
      exact fin J rv q
    | next =>
      obtain ⟨σ', H', J, q⟩ := hs
      exact fin (v := V.non) (u := Value.none) J rfl q
    | brk =>
      obtain ⟨_, _, _, q⟩ := hs
      exact False.elim q
    | cont =>
      obtain ⟨_, _, _, q⟩ := hs
      exact False.elim q
  · subst hX
    exact hs
end
end LhX
namespace Lh
open PySem L2
open Evl (Ex ex_l ex_t ex_rd fresh_back)
abbrev lsD (zs : List Str) : List PyData := zs.map PyData.str
/-- a module's name that holds a tuple of texts -/
def GTup (K : PySem.W.Frag) (mg : Str → Option Value) (x : Str) (zs : List Str) : Prop := ∃ a, mg x = some (.ref a) ∧ ∀ H, SqT K H a (zs.map V.str)
theorem dd_strs {K : PySem.W.Frag} {H : Hp} : ∀ zs : List Str, DdAll K H (lsD zs) (zs.map V.str)
  | [] => rfl
  | z :: zs => ⟨V.str z, zs.map V.str, rfl, rfl, dd_strs zs⟩
theorem xe_gtup {M : Addr → Prop} {Γ : Ct} {Rs : List Res} {X : Cx} {x : Str} {zs : List Str} {pos : Pos} (hm : GTup X.K X.mg x zs) (hg : Gl X x := by rfl) (hd : (x == ("__debug__" : Str)) = false := by decide) : XE M Γ Rs X (.Name x pos) (PD X.K (.tuple (lsD zs))) := by
  obtain ⟨a, h1, h2⟩ := hm
  exact YE.wp (pe_glob (v := .ref a) hg h1 rfl hd) (ye_c fun H => ⟨a, zs.map V.str, rfl, h2 H, dd_strs zs⟩)
/-! ### among texts -/
theorem dds_inv {K : PySem.W.Frag} {H : Hp} : ∀ {zs : List Str} {xs : List V}, DdAll K H (lsD zs) xs → xs = zs.map V.str
  | [], _, h => h
  | z :: zs, xs, ⟨x, r, h1, h2, h3⟩ => by
    have e : x = V.str z := h2
    subst h1 e
    rw [dds_inv h3]
    rfl
theorem inV_strs (i : Str) : ∀ ns : List Str, inV (.str i) (ns.map V.str) = decide (i ∈ ns)
  | [] => rfl
  | n :: ns => by
    have h := inV_strs i ns
    unfold inV at h ⊢
    rw [List.map_cons, List.any_cons, h]
    show ((n == i) || decide (i ∈ ns)) = decide (i ∈ n :: ns)
    by_cases e : n = i
    · subst e
      simp
    · have e2 : (n == i) = false := beq_eq_false_iff_ne.mpr e
      rw [e2, Bool.false_or]
      refine decide_eq_decide.mpr ?_
      rw [List.mem_cons]
      exact ⟨Or.inr, fun h => h.elim (fun q => absurd q.symm e) id⟩
theorem flat_strs (ns : List Str) : (ns.map V.str).all flatV = true := by
  rw [List.all_map, List.all_eq_true]
  exact fun _ _ => rfl
section
variable {M : Addr → Prop} {Γ Γ' : Ct} {Rs : List Res} {X : Cx} {Z0 Z Hl : Hp} {D : Ends} {K : PySem.W.Frag} {rest : List Stmt} {a b c e : Expr} {pos p : Pos} {i j : Int} {H0 H : Hp} {x y : V}
theorem yl_inTS {z : Str} {ns : List Str} (hx : Dd K H0 (.str z) x) (hy : Dd K H0 (.tuple (lsD ns)) y) (e : Ex H0 H) : Yld H0 H (PD K (.bool (decide (z ∈ ns)))) (rIn K false x y H) := by
  obtain ⟨a, xs, ey, h1, h2⟩ := hy
  have hx' : x = .str z := hx
  have e2 := dds_inv h2
  subst hx' ey e2
  exact Yld.val (z := .bl (inV (.str z) (ns.map V.str))) e (by rw [inV_strs]; rfl) fun Q q => ⟨a, _, rfl, .inr (ex_t e h1), rfl, flat_strs ns, q⟩
theorem yl_niTS {z : Str} {ns : List Str} (hx : Dd K H0 (.str z) x) (hy : Dd K H0 (.tuple (lsD ns)) y) (e : Ex H0 H) : Yld H0 H (PD K (.bool (!decide (z ∈ ns)))) (rIn K true x y H) := by
  obtain ⟨a, xs, ey, h1, h2⟩ := hy
  have hx' : x = .str z := hx
  have e2 := dds_inv h2
  subst hx' ey e2
  exact Yld.val (z := .bl (!inV (.str z) (ns.map V.str))) e (by rw [inV_strs]; rfl) fun Q q => ⟨a, _, rfl, .inr (ex_t e h1), rfl, flat_strs ns, q⟩
theorem yl_inLS {z : Str} {ns : List Str} (hx : Dd K H0 (.str z) x) (hy : Dd K H0 (.list (lsD ns)) y) (e : Ex H0 H) : Yld H0 H (PD K (.bool (decide (z ∈ ns)))) (rIn K false x y H) := by
  obtain ⟨a, xs, ey, h1, h2⟩ := hy
  have hx' : x = .str z := hx
  have e2 := dds_inv h2
  subst hx' ey e2
  exact Yld.val (z := .bl (inV (.str z) (ns.map V.str))) e (by rw [inV_strs]; rfl) fun Q q => ⟨a, _, rfl, .inl (SqL.of (e _ _ h1)), rfl, flat_strs ns, q⟩
theorem yl_niLS {z : Str} {ns : List Str} (hx : Dd K H0 (.str z) x) (hy : Dd K H0 (.list (lsD ns)) y) (e : Ex H0 H) : Yld H0 H (PD K (.bool (!decide (z ∈ ns)))) (rIn K true x y H) := by
  obtain ⟨a, xs, ey, h1, h2⟩ := hy
  have hx' : x = .str z := hx
  have e2 := dds_inv h2
  subst hx' ey e2
  exact Yld.val (z := .bl (!inV (.str z) (ns.map V.str))) e (by rw [inV_strs]; rfl) fun Q q => ⟨a, _, rfl, .inl (SqL.of (e _ _ h1)), rfl, flat_strs ns, q⟩
theorem xt_niTS {z : Str} {ns : List Str} (ha : XE M Γ Rs X a (PD X.K (.str z))) (hb : XE M Γ Rs X b (PD X.K (.tuple (lsD ns)))) (hm : behindInMarks .NotIn b = false := by rfl) : XT M Γ Rs X (.Compare a [.NotIn] [b] pos) (Is (!decide (z ∈ ns))) := xt_cmp (K := X.K) op_notIn_seq ha hb (fun x y H0 H hx hy e _ => (yl_niTS hx hy e).pb) hm
theorem xt_inLS {z : Str} {ns : List Str} (ha : XE M Γ Rs X a (PD X.K (.str z))) (hb : XE M Γ Rs X b (PD X.K (.list (lsD ns)))) (hm : behindInMarks .In b = false := by rfl) : XT M Γ Rs X (.Compare a [.In] [b] pos) (Is (decide (z ∈ ns))) := xt_cmp (K := X.K) op_in_seq ha hb (fun x y H0 H hx hy e _ => (yl_inLS hx hy e).pb) hm
theorem xt_niLS {z : Str} {ns : List Str} (ha : XE M Γ Rs X a (PD X.K (.str z))) (hb : XE M Γ Rs X b (PD X.K (.list (lsD ns)))) (hm : behindInMarks .NotIn b = false := by rfl) : XT M Γ Rs X (.Compare a [.NotIn] [b] pos) (Is (!decide (z ∈ ns))) := xt_cmp (K := X.K) op_notIn_seq ha hb (fun x y H0 H hx hy e _ => (yl_niLS hx hy e).pb) hm
/-! ### the least and the greatest of a list of ints -/
theorem xe_minL {ns : List Int} {m : Int} (hm : X.mg "min" = none) (h : XE M Γ Rs X a (PD X.K (.list (li ns)))) (hne : 0 < ns.length) (hq : ∀ k, k ∈ ns → (∀ y ∈ ns, k ≤ y) → k = m) (hc : X.calm = true := by rfl) (hg : Gl X "min" := by rfl) (he : starEach [a] X.env = (false, eval a X.env) :: starEach [] X.env := by rfl) : XE M Γ Rs X (.Call (.Name "min" p) [a] [] pos) (PD X.K (.int m)) :=
  xe_callB (cr_min hc) hm (by decide +kernel) (xa_1 h he) (fun xs H0 H hx e _ => by
    obtain ⟨x, e1, q, ys, e2, h1, h2⟩ := da1 hx
    have e3 := h2.ints
    subst e1 e2 e3
    exact Yld.val (z := .int m) e rfl fun Q k => ⟨q, ns, rfl, SqL.of (e _ _ h1), hne, fun n hn hle => by rw [hq n hn hle]; exact k⟩) hg (by decide) (by decide) he rfl
theorem xe_maxL {ns : List Int} {m : Int} (hm : X.mg "max" = none) (h : XE M Γ Rs X a (PD X.K (.list (li ns)))) (hne : 0 < ns.length) (hq : ∀ k, k ∈ ns → (∀ y ∈ ns, y ≤ k) → k = m) (hc : X.calm = true := by rfl) (hg : Gl X "max" := by rfl) (he : starEach [a] X.env = (false, eval a X.env) :: starEach [] X.env := by rfl) : XE M Γ Rs X (.Call (.Name "max" p) [a] [] pos) (PD X.K (.int m)) :=
  xe_callB (cr_max hc) hm (by decide +kernel) (xa_1 h he) (fun xs H0 H hx e _ => by
    obtain ⟨x, e1, q, ys, e2, h1, h2⟩ := da1 hx
    have e3 := h2.ints
    subst e1 e2 e3
    exact Yld.val (z := .int m) e rfl fun Q k => ⟨q, ns, rfl, SqL.of (e _ _ h1), hne, fun n hn hle => by rw [hq n hn hle]; exact k⟩) hg (by decide) (by decide) he rfl
/-! ### lists of pairs -/
theorem Pd.ext {P Q : Pd} (h : ∀ v H, P.p v H ↔ Q.p v H) : P = Q := by
  cases P with
  | mk p m =>
    cases Q with
    | mk q n =>
      have e : p = q := funext fun v => funext fun H => propext (h v H)
      subst e
      rfl
theorem pd_pt2 {d1 d2 : PyData} : PD K (.tuple [d1, d2]) = PT2 K (PD K d1) (PD K d2) := Pd.ext fun v H => by
  constructor
  · rintro ⟨a, xs, e, h1, x, r, rfl, hx, y, r2, rfl, hy, hr⟩
    have hr' : r2 = [] := hr
    subst hr'
    exact ⟨a, x, y, e, h1, hx, hy⟩
  · rintro ⟨a, x, y, e, h1, hx, hy⟩
    exact ⟨a, [x, y], e, h1, x, [y], rfl, hx, y, [], rfl, hy, rfl⟩
/-- [elt for x, y in pairs if c] -/
theorem xe_filtPr {τ : Type} (f1 f2 : τ → PyData) (ps : List τ) (i0 j0 : Nat) (hij : i0 ≠ j0) {x y : Str} {elt iter q : Expr} {scope : Scope} {xp yp tp : Pos} {kt : Nat} (h : τ → PyData) (t : τ → Bool) (hi : XI M Γ Rs X (.Tuple [.Name x xp, .Name y yp] kt tp) iter ((ps.map fun z => PyData.tuple [f1 z, f2 z]).map (PD X.K)))
    (hc' : ∀ z ∈ ps, Blk X scope fun Y => XT M (blkP Γ i0 j0 (PD X.K (f1 z)) (PD X.K (f2 z))) Rs Y q (Is (t z))) (ht : ∀ z ∈ ps, t z = true → Blk X scope fun Y => XE M (blkP Γ i0 j0 (PD X.K (f1 z)) (PD X.K (f2 z))) Rs Y elt (PD X.K (h z))) (hN : X.N.Nodup)
    (ok : BlkOk X.N X.env.scope scope [(x, i0), (y, j0)]) (hz : ps.length ≤ 100000) (cv : Cov M Rs) (hg : ∀ (s : Shared) (H : Hp) (C : Addr) (cl : List (Str × Addr)) (fp : List Addr), PG (X.blk s H scope (compEnvC scope cl C X.env) fp) (.Tuple [.Name x xp, .Name y yp] kt tp) (gTup X.K 2 (gCons (gName i0) (gCons (gName j0) gNil))))
    (hc : X.calm = true := by rfl) (hs : ∀ x, foldedSetIterable iter X.env x = pure x := by intro _; rfl) : XE M Γ Rs X (.ListComp elt [⟨.Tuple [.Name x xp, .Name y yp] kt tp, iter, [q], 0⟩] scope pos) (PD X.K (.list ((ps.filter t).map h))) := by
  refine YE.imp (xe_lcPIf (K := X.K) i0 j0 hij hi (fun n ds => ds = ((ps.take n).filter t).map h) rfl (fun n Q hq => ?_) hN ok (by simpa using hz) cv hg hc hs) fun v H h => ?_
  · rw [List.getElem?_map, List.getElem?_map] at hq
    obtain ⟨d, hd, rfl⟩ := Option.map_eq_some_iff.mp hq
    obtain ⟨z, hz, rfl⟩ := Option.map_eq_some_iff.mp hd
    have hm := List.mem_of_getElem? hz
    refine ⟨_, _, pd_pt2, Is (t z), hc' z hm, fun hb => ?_, fun hb ds hR => ?_⟩
    · have hb' : true = t z := hb
      exact fun s0 H0 C cl fp => YE.imp (ht z hm hb'.symm s0 H0 C cl fp) fun v H hv => ⟨h z, fun ds _ hR => by rw [hR, List.take_add_one, hz]; simp [← hb'], hv⟩
    · have hb' : false = t z := hb
      rw [hR, List.take_add_one, hz]
      simp [← hb']
  · obtain ⟨ds, ⟨hR, _⟩, hv⟩ := h
    have e : ds = (ps.filter t).map h := by
      rw [hR, List.take_of_length_le (by simp)]
    subst e
    exact hv
end
end Lh
namespace Lh
open PySem L2
open Evl (Ex ex_l ex_t ex_rd fresh_back)
section
variable {M : Addr → Prop} {Γ Γ' : Ct} {Rs : List Res} {X : Cx} {Z0 Z Hl : Hp} {D : Ends} {K : PySem.W.Frag} {rest : List Stmt} {a b c e : Expr} {pos p : Pos} {i j : Int}
/-- z = [elt for x, y in pairs if c] -/
theorem xs_filtPr {τ : Type} (f1 f2 : τ → PyData) (ps : List τ) (n i0 j0 : Nat) (hij : i0 ≠ j0) {x y z : Str} {elt iter q : Expr} {scope : Scope} {xp yp tp zp spos : Pos} {kt : Nat} (h : τ → PyData) (t : τ → Bool) (hi : XI M Γ Rs X (.Tuple [.Name x xp, .Name y yp] kt tp) iter ((ps.map fun z => PyData.tuple [f1 z, f2 z]).map (PD X.K)))
    (hc' : ∀ z ∈ ps, Blk X scope fun Y => XT M (blkP Γ i0 j0 (PD X.K (f1 z)) (PD X.K (f2 z))) Rs Y q (Is (t z))) (ht : ∀ z ∈ ps, t z = true → Blk X scope fun Y => XE M (blkP Γ i0 j0 (PD X.K (f1 z)) (PD X.K (f2 z))) Rs Y elt (PD X.K (h z)))
    (k : XS M (Γ.set n (some (PD X.K (.list ((ps.filter t).map h))))) Rs X Z0 Z Hl D rest) (hN : X.N.Nodup)
    (ok : BlkOk X.N X.env.scope scope [(x, i0), (y, j0)]) (hz : ps.length ≤ 100000) (cv : Cov M Rs) (hg : ∀ (s : Shared) (H : Hp) (C : Addr) (cl : List (Str × Addr)) (fp : List Addr), PG (X.blk s H scope (compEnvC scope cl C X.env) fp) (.Tuple [.Name x xp, .Name y yp] kt tp) (gTup X.K 2 (gCons (gName i0) (gCons (gName j0) gNil))))
    (hsw : swapsWith (.ListComp elt [⟨.Tuple [.Name x xp, .Name y yp] kt tp, iter, [q], 0⟩] scope pos) (some (.Name z zp)) spos.line X.env = pure true) (hy : X.N[n]? = some z := by rfl) (hyl : X.env.scope.names.lookup z = some .local := by rfl)
    (hc : X.calm = true := by rfl) (hs : ∀ x, foldedSetIterable iter X.env x = pure x := by intro _; rfl) : XS M Γ Rs X Z0 Z Hl D (.Assign [.Name z zp] (.ListComp elt [⟨.Tuple [.Name x xp, .Name y yp] kt tp, iter, [q], 0⟩] scope pos) spos :: rest) := by
  refine xs_asgT (ps_setLc (own := [(x, i0), (y, j0)]) hc hN hy hyl hsw pi_wp ok hg (fun s H C cl fp => pts_one (blk_okT s H C cl fp)) blk_ok hs) (ye_lcP (K := X.K) hij hi cv (by simpa using hz) (fun n ds => ds = ((ps.take n).filter t).map h) rfl fun n Q hq => ?_) fun ds hR => ?_
  · rw [List.getElem?_map, List.getElem?_map] at hq
    obtain ⟨d, hd, rfl⟩ := Option.map_eq_some_iff.mp hq
    obtain ⟨w, hw, rfl⟩ := Option.map_eq_some_iff.mp hd
    have hm := List.mem_of_getElem? hw
    refine ⟨_, _, pd_pt2, Is (t w), yt_blk (hc' w hm), fun hb => ?_, fun hb ds hR => ?_⟩
    · have hb' : true = t w := hb
      exact ye_blk fun s0 H0 C cl fp => YE.imp (ht w hm hb'.symm s0 H0 C cl fp) fun v H hv => ⟨h w, fun ds _ hR => by rw [hR, List.take_add_one, hw]; simp [← hb'], hv⟩
    · have hb' : false = t w := hb
      rw [hR, List.take_add_one, hw]
      simp [← hb']
  · have e : ds = (ps.filter t).map h := by
      rw [hR.1, List.take_of_length_le (by simp)]
    subst e
    exact k
end
end Lh
namespace Lh
open PySem L2
open Evl (Ex ex_l ex_t ex_rd fresh_back)
section
variable {M : Addr → Prop} {Γ Γ' : Ct} {Rs : List Res} {X : Cx} {Z0 Z Hl : Hp} {D : Ends} {K : PySem.W.Frag} {rest : List Stmt} {a b c o e : Expr} {pos p : Pos} {i j k : Int}
theorem Rok.swap {r1 r2 : Res} {H0 H : Hp} (k : Rok (r1 :: r2 :: Rs) H0 H) : Rok (r2 :: r1 :: Rs) H0 H := by
  refine ⟨?_, fun r hr => k.2 r ?_⟩
  · have h := k.1
    rw [List.flatMap_cons, List.flatMap_cons] at h ⊢
    refine (List.Perm.nodup_iff ?_).mp h
    rw [← List.append_assoc, ← List.append_assoc]
    exact List.Perm.append_right _ List.perm_append_comm
  · obtain e | hr := List.mem_cons.mp hr
    · subst e
      simp
    · obtain e | hr := List.mem_cons.mp hr
      · subst e
        simp
      · simp [hr]
theorem xs_swap {r1 r2 : Res} (h : XS M Γ (r2 :: r1 :: Rs) X Z0 Z Hl D rest) : XS M Γ (r1 :: r2 :: Rs) X Z0 Z Hl D rest := fun σ H0 H l s b k => h σ H0 H l s b (Rok.swap k)
theorem ye_swap {r1 r2 : Res} {t : TE} {P : Pd} (h : YE M Γ (r2 :: r1 :: Rs) t P) : YE M Γ (r1 :: r2 :: Rs) t P := fun σ H0 H l e k Q q => h σ H0 H l e (Rok.swap k) Q fun v H0' H' s k' p => q v H0' H' s (Rok.swap k') p
theorem yt_swap {r1 r2 : Res} {t : TT} {B : Bool → Prop} (h : YT M Γ (r2 :: r1 :: Rs) t B) : YT M Γ (r1 :: r2 :: Rs) t B := fun σ H0 H l e k Q q => h σ H0 H l e (Rok.swap k) Q fun v H0' H' s k' p => q v H0' H' s (Rok.swap k') p
/-- [elt for x, y in pairs] -/
theorem xe_mapPr {τ : Type} (f1 f2 : τ → PyData) (ps : List τ) (i0 j0 : Nat) (hij : i0 ≠ j0) {x y : Str} {elt iter : Expr} {scope : Scope} {xp yp tp : Pos} {kt : Nat} (h : τ → PyData) (hi : XI M Γ Rs X (.Tuple [.Name x xp, .Name y yp] kt tp) iter ((ps.map fun z => PyData.tuple [f1 z, f2 z]).map (PD X.K)))
    (ht : ∀ z ∈ ps, Blk X scope fun Y => XE M (blkP Γ i0 j0 (PD X.K (f1 z)) (PD X.K (f2 z))) Rs Y elt (PD X.K (h z))) (hN : X.N.Nodup)
    (ok : BlkOk X.N X.env.scope scope [(x, i0), (y, j0)]) (hz : ps.length ≤ 100000) (cv : Cov M Rs) (hg : ∀ (s : Shared) (H : Hp) (C : Addr) (cl : List (Str × Addr)) (fp : List Addr), PG (X.blk s H scope (compEnvC scope cl C X.env) fp) (.Tuple [.Name x xp, .Name y yp] kt tp) (gTup X.K 2 (gCons (gName i0) (gCons (gName j0) gNil))))
    (hc : X.calm = true := by rfl) (hs : ∀ x, foldedSetIterable iter X.env x = pure x := by intro _; rfl) : XE M Γ Rs X (.ListComp elt [⟨.Tuple [.Name x xp, .Name y yp] kt tp, iter, [], 0⟩] scope pos) (PD X.K (.list (ps.map h))) := by
  refine YE.imp (xe_lcP (K := X.K) i0 j0 hij hi (fun n ds => ds = (ps.take n).map h) rfl (fun n Q hq => ?_) hN ok (by simpa using hz) cv hg hc hs) fun v H h => ?_
  · rw [List.getElem?_map, List.getElem?_map] at hq
    obtain ⟨d, hd, rfl⟩ := Option.map_eq_some_iff.mp hq
    obtain ⟨z, hz, rfl⟩ := Option.map_eq_some_iff.mp hd
    have hm := List.mem_of_getElem? hz
    exact ⟨_, _, pd_pt2, fun s0 H0 C cl fp => YE.imp (ht z hm s0 H0 C cl fp) fun v H hv => ⟨h z, fun ds _ hR => by rw [hR, List.take_add_one, hz]; simp, hv⟩⟩
  · obtain ⟨ds, ⟨hR, _⟩, hv⟩ := h
    have e : ds = ps.map h := by
      rw [hR, List.take_of_length_le (by simp)]
    subst e
    exact hv
end
end Lh
/-! Several lists at hand: one drawn from, one grown. -/
namespace Lh
open PySem L2
open Evl (Ex ex_l ex_t ex_rd fresh_back)
section
variable {M : Addr → Prop} {Γ Γ' : Ct} {Rs Rs' : List Res} {X : Cx} {Z0 Z Hl H0 H1 H G1 : Hp} {D : Ends} {K : PySem.W.Frag} {rest : List Stmt} {a b c o o1 o2 e : Expr} {pos p : Pos} {i j k : Int} {q q1 q2 : Addr} {Ps Ps' Ps1 Ps2 : List Pd} {vs ys : List V}
theorem Rok.perm (h : Rs.Perm Rs') (k : Rok Rs H0 H) : Rok Rs' H0 H := ⟨(h.flatMap_right Res.ad).nodup_iff.mp k.1, fun r hr => k.2 r (h.mem_iff.mpr hr)⟩
theorem xs_perm (p : Rs.Perm Rs') (h : XS M Γ Rs' X Z0 Z Hl D rest) : XS M Γ Rs X Z0 Z Hl D rest := fun σ H0 H l s b k => h σ H0 H l s b (Rok.perm p k)
theorem ye_perm {t : TE} {P : Pd} (p : Rs.Perm Rs') (h : YE M Γ Rs' t P) : YE M Γ Rs t P := fun σ H0 H l e k Q q => h σ H0 H l e (Rok.perm p k) Q fun v H0' H' s k' r => q v H0' H' s (Rok.perm p.symm k') r
theorem yt_perm {t : TT} {B : Bool → Prop} (p : Rs.Perm Rs') (h : YT M Γ Rs' t B) : YT M Γ Rs t B := fun σ H0 H l e k Q q => h σ H0 H l e (Rok.perm p k) Q fun v H0' H' s k' r => q v H0' H' s (Rok.perm p.symm k') r
/-- a list that is made anew stands at hand -/
theorem new_lst (t : Step M Z0 Z H1 G1) (k1 : Rok Rs H1 G1) (hp : G1 q = none) (a1 : DAll Ps vs H1) : Step M Z0 Z H1 (upd G1 q (.lst vs)) ∧ Rok (Res.lst Z q Ps :: Rs) H1 (upd G1 q (.lst vs)) := by
  have ne : ∀ r ∈ Rs, ∀ a ∈ r.ad, a ≠ q := fun r hr a ha e => by
    obtain ⟨⟨o, h1⟩, _⟩ := r.tr (k1.2 r hr) a ha
    rw [e, hp] at h1
    cases h1
  have hZ : Z q = none := by
    cases e : Z q with
    | none => rfl
    | some o =>
      obtain ⟨o', h'⟩ := t.th q o e
      rw [hp] at h'
      cases h'
  have aN := fresh_back t.le hp
  refine ⟨⟨fun a o hm ha => ?_, fun a o ha => ?_, t.ex, fun a o ha => ?_, t.nw⟩, ⟨?_, fun r hr => ?_⟩⟩
  · rw [upd_ne (ne_of_none ha hZ)]
    exact t.un a o hm ha
  · obtain ⟨o', h'⟩ := t.th a o ha
    exact ⟨o', by rw [upd_ne (ne_of_none h' hp)]; exact h'⟩
  · rw [upd_ne (ne_of_none (t.le a o ha) hp)]
    exact t.le a o ha
  · rw [List.flatMap_cons, List.nodup_append]
    refine ⟨by simp [Res.lst], k1.1, fun a ha c hc e => ?_⟩
    have e1 : a = q := by simpa [Res.lst] using ha
    obtain ⟨r, hr, hc⟩ := List.mem_flatMap.mp hc
    exact ne r hr c hc (e ▸ e1)
  · obtain e | hr := List.mem_cons.mp hr
    · subst e
      exact ⟨hZ, aN, vs, upd_same, a1⟩
    · exact (k1.wr ne).2 r hr
/-- a list at hand is written -/
theorem lst_wr (t : Step M Z0 Z H1 G1) (k1 : Rok (Res.lst Z q Ps :: Rs) H1 G1) (hy : DAll Ps' ys H1) : Step M Z0 Z H1 (upd G1 q (.lst ys)) ∧ Rok (Res.lst Z q Ps' :: Rs) H1 (upd G1 q (.lst ys)) := by
  obtain ⟨hz0, h0, xs, hq, hd⟩ := k1.2 _ List.mem_cons_self
  have nd := k1.1
  rw [List.flatMap_cons, List.nodup_append] at nd
  have ne : ∀ r ∈ Rs, ∀ a ∈ r.ad, a ≠ q := fun r hr a ha e => nd.2.2 q (by simp [Res.lst]) a (List.mem_flatMap.mpr ⟨r, hr, ha⟩) e.symm
  have kr : Rok Rs H1 G1 := ⟨nd.2.1, fun r hr => k1.2 r (List.mem_cons_of_mem _ hr)⟩
  refine ⟨⟨fun a o hm ha => ?_, fun a o ha => ?_, t.ex, fun a o ha => ?_, t.nw⟩, ⟨k1.1, fun r hr => ?_⟩⟩
  · rw [upd_ne (ne_of_none ha hz0)]
    exact t.un a o hm ha
  · obtain ⟨o', h'⟩ := t.th a o ha
    exact ⟨o', by rw [upd_ne (ne_of_none ha hz0)]; exact h'⟩
  · have na : a ≠ q := fun e => by
      rw [e, h0] at ha
      cases ha
    rw [upd_ne na]
    exact t.le a o ha
  · obtain e | hr := List.mem_cons.mp hr
    · subst e
      exact ⟨hz0, h0, _, upd_same, hy⟩
    · exact (kr.wr ne).2 r hr
theorem DAll.erase (h : DAll Ps vs H) (k : Nat) : DAll (Ps.eraseIdx k) (vs.eraseIdx k) H := by
  refine ⟨by rw [List.length_eraseIdx, List.length_eraseIdx, h.1], fun i P q => ?_⟩
  rw [List.getElem?_eraseIdx] at q ⊢
  by_cases e : i < k
  · rw [if_pos e] at q ⊢
    exact h.2 i P q
  · rw [if_neg e] at q ⊢
    exact h.2 (i + 1) P q
/-- list(range(a)), to be changed -/
theorem fe_listRg {n : Int} {p2 pos2 : Pos} (hm : X.mg "list" = none) (hm2 : X.mg "range" = none) (h : XE M Γ Rs X a (PD X.K (.int n))) (hn : 0 ≤ n ∧ n ≤ 1000000) (hc : X.calm = true := by rfl) (hg : Gl X "list" := by rfl) (hg2 : Gl X "range" := by rfl) (he : starEach [a] X.env = (false, eval a X.env) :: starEach [] X.env := by rfl)
    (he2 : starEach [.Call (.Name "range" p2) [a] [] pos2] X.env = (false, eval (.Call (.Name "range" p2) [a] [] pos2) X.env) :: starEach [] X.env := by rfl) : FE M Γ Rs (wpE X (.Call (.Name "list" p) [.Call (.Name "range" p2) [a] [] pos2] [] pos)) ((li (rgI 0 n.toNat)).map (PD X.K)) :=
  FE.wp (pe_listRg hc hg hm (prg_1 hg2 hm2 pe_wp he) he2) fun σ H0 H l e k Q q => h σ H0 H l e k _ fun v H1 G1 s1 k1 hv => ⟨n, hv, RgOk.of_le (by omega) (by omega) (by omega) (by omega), fun d hd => by
    rw [rgV_eq]
    exact q d _ H1 G1 s1 k1 hd (DdAll.of_ints _).da⟩
/-- x, y = a, [] : a new list and an empty one, both to be changed -/
theorem xs_parF (i j : Nat) {x y : Str} {px py pt pl : Pos} {kt k2 pt2} (ha : FE M Γ Rs (wpE X a) Ps) (h : ∀ p q, XS M ((Γ.set i (some (PV (.ref p)))).set j (some (PV (.ref q)))) (Res.lst Z q [] :: Res.lst Z p Ps :: Rs) X Z0 Z Hl D rest) (hN : X.N.Nodup) (hc : X.calm = true := by rfl) (hi : X.N[i]? = some x := by rfl) (hj : X.N[j]? = some y := by rfl) (hij : i ≠ j := by decide)
    (hx : X.env.scope.names.lookup x = some .local := by rfl) (hy : X.env.scope.names.lookup y = some .local := by rfl) (hw : swappedStores [.Tuple [.Name x px, .Name y py] kt pt] (.Tuple [a, .List [] pl] k2 pt2) X.env = pure (some [x, y]) := by rfl)
    (hs : swapsWithSole [.Tuple [.Name x px, .Name y py] kt pt] (.Tuple [a, .List [] pl] k2 pt2) pos.line X.env = pure false := by rfl) (he : starEach [a, .List [] pl] X.env = (false, eval a X.env) :: starEach [.List [] pl] X.env := by rfl) (he2 : starEach [.List [] pl] X.env = (false, eval (.List [] pl) X.env) :: starEach [] X.env := by rfl) : XS M Γ Rs X Z0 Z Hl D (.Assign [.Tuple [.Name x px, .Name y py] kt pt] (.Tuple [a, .List [] pl] k2 pt2) pos :: rest) :=
  xs_cons (ps_par hc hN hi hj hij hx hy (pa_cons pe_wp (pa_cons (pe_lst pa_nil) pa_nil he2) he) hw hs) fun σ H0 H l s b r => ha σ H0 H l s.le r _ fun p1 vs H1 G1 s1 k1 hp1 a1 => ⟨by decide, fun p hp => by
    obtain ⟨t1, k2⟩ := new_lst (s.trans s1) k1 hp1 a1
    obtain ⟨t2, k3⟩ := new_lst t1 k2 hp DAll.nil
    exact ⟨.ref p1, .ref p, rfl, h p1 p _ H1 _ (((l.ex s1.ex).set (P := PV (.ref p1)) rfl).set (P := PV (.ref p)) rfl) t2 (b.trans s1.ex) k3⟩⟩
/-- o != [], a list at hand -/
theorem xt_neN {ds : List PyData} {n : Nat} (eP : Ps = ds.map (PD X.K)) (hr : Room n X.A) (ho : XE M Γ (Res.lst Z q Ps :: Rs) X o (PV (.ref q))) (hs : SeqAt.shaped (.list ds) = true) {pl : Pos} : XT M Γ (Res.lst Z q Ps :: Rs) X (.Compare o [.NotEq] [.List [] pl] pos) (Is (!ds.isEmpty)) := by
  subst eP
  exact xt_cmp (K := X.K) (op_neD (room_u hr)) ho (xe_lst (ds := []) xa_nil (by simp)) (fun x y H0 H hx hy e r => by
    obtain ⟨_, _, xs, hq, hd⟩ := r.2 _ List.mem_cons_self
    have d1 : Dd X.K H (.list ds) x := ⟨q, xs, hx, hq, DdAll.ex e _ _ hd.dd⟩
    have ev : PyData.eqv (.list ds) (.list []) = ds.isEmpty := by cases ds <;> rfl
    refine (Yld.val (z := .bl (!ds.isEmpty)) (C := PD X.K (.bool (!ds.isEmpty))) e rfl fun Q k => ⟨_, _, Dd.dp _ x d1, Dd.dp _ y (Dd.ex e _ _ hy), hs, rfl, ?_⟩).pb
    rw [ev]
    exact k) (nomark _)
/-- o2.append(o1.pop(e)), at a drawn place -/
theorem xs_appPop {apos cpos apos2 cpos2 : Pos} (ho : XE M Γ (Res.lst Z q2 Ps2 :: Res.lst Z q1 Ps1 :: Rs) X o2 (PV (.ref q2))) (hl : XE M Γ (Res.lst Z q2 Ps2 :: Res.lst Z q1 Ps1 :: Rs) X o1 (PV (.ref q1))) (he : XE M Γ (Res.lst Z q2 Ps2 :: Res.lst Z q1 Ps1 :: Rs) X e (PIn X.K 0 Ps1.length)) (hz : Ps2.length < 1000000) (hz1 : Ps1.length < 1000000)
    (h : ∀ (k : Nat) (P : Pd), Ps1[k]? = some P → XS M Γ (Res.lst Z q2 (Ps2 ++ [P]) :: Res.lst Z q1 (Ps1.eraseIdx k) :: Rs) X Z0 Z Hl D rest)
    (hpe : PE X (.Call (.Attribute o2 "append" apos) [.Call (.Attribute o1 "pop" apos2) [e] [] cpos2] [] cpos) (tBM X.K "list" rAppend (wpE X o2) (tCons (tBM X.K "list" rPopAt (wpE X o1) (tCons (wpE X e) tNil)) tNil))) (hs : swapsWith (.Call (.Attribute o2 "append" apos) [.Call (.Attribute o1 "pop" apos2) [e] [] cpos2] [] cpos) none pos.line X.env = pure false := by rfl) :
    XS M Γ (Res.lst Z q2 Ps2 :: Res.lst Z q1 Ps1 :: Rs) X Z0 Z Hl D (.Expr (.Call (.Attribute o2 "append" apos) [.Call (.Attribute o1 "pop" apos2) [e] [] cpos2] [] cpos) pos :: rest) :=
  xs_cons (ps_expr hpe hs) fun σ H0 H l s b r => ho σ H0 H l s.le r _ fun v H1 G1 s1 k1 hv => by
    have hv' : v = .ref q2 := hv
    subst hv'
    obtain ⟨_, _, xa, ha, _⟩ := k1.2 _ List.mem_cons_self
    refine ⟨.inl ⟨rfl, xa, SqL.of ha⟩, ?_⟩
    refine hl σ H1 G1 (l.ex s1.ex) s1.le k1 _ fun v2 H2 G2 s2 k2 hv2 => ?_
    have hv2' : v2 = .ref q1 := hv2
    subst hv2'
    obtain ⟨_, _, xb, hb, _⟩ := k2.2 (Res.lst Z q1 Ps1) (by simp)
    refine ⟨.inl ⟨rfl, xb, SqL.of hb⟩, ?_⟩
    refine he σ H2 G2 (l.ex (s1.ex.trans s2.ex)) s2.le k2 _ fun y H3 G3 s3 k3 ⟨n, hn, hy⟩ => ?_
    have hy' : y = .int n := hy
    subst hy'
    have hn' : 0 ≤ n ∧ n < Ps1.length := hn
    obtain ⟨z2, f2, xs2, g2, d2⟩ := k3.2 _ List.mem_cons_self
    obtain ⟨z1, f1, xs1, g1, d1⟩ := k3.2 (Res.lst Z q1 Ps1) (by simp)
    have hlt : n.toNat < Ps1.length := by omega
    obtain ⟨w, hw1, hw2⟩ := d1.2 n.toNat _ (List.getElem?_eq_getElem hlt)
    have t := ((s.trans s1).trans s2).trans s3
    have hne : q2 ≠ q1 := fun e => by
      have nd := k3.1
      rw [List.flatMap_cons, List.nodup_append] at nd
      exact nd.2.2 q2 (by simp [Res.lst]) q1 (by simp [Res.lst]) e
    refine ⟨q1, xs1, n, n.toNat, w, rfl, rfl, g1, by omega, by omega, seqIndex_of hn'.1 (by rw [d1.1]; exact hn'.2), hw1, ?_⟩
    obtain ⟨t1, k4⟩ := lst_wr t (Rok.swap k3) (d1.erase n.toNat)
    refine ⟨q2, xs2, w, rfl, rfl, by rw [upd_ne hne]; exact g2, by rw [d2.1]; exact Nat.lt_of_lt_of_le hz (by decide), ?_⟩
    obtain ⟨t2, k5⟩ := lst_wr (Ps' := Ps2 ++ [Ps1[n.toNat]]) t1 (Rok.swap k4) (d2.app (DAll.cons hw2 DAll.nil))
    exact h n.toNat _ (List.getElem?_eq_getElem hlt) _ H3 _ (l.ex ((s1.ex.trans s2.ex).trans s3.ex)) t2 (b.trans ((s1.ex.trans s2.ex).trans s3.ex)) k5
end
end Lh
/-! a < b for data of one make; rows of ints in their order. -/
namespace Lh
open PySem L2
open Evl (Ex ex_l ex_t ex_rd fresh_back)
def rLtD (K : PySem.W.Frag) : R2 := fun x y H Q => ∃ d e, Dp K H x d ∧ Dp K H y e ∧ PySem.W.alike d e = true ∧ d ≠ .none ∧ d.depth ≤ 64 ∧ Q (.bl (PySem.W.dataLt d e)) H
theorem op_ltD {X : Cx} (hu : X.A.units + 64 < cLine) : OpR X (compareOp .Lt) (rLtD X.K) := by
  intro pins s σ H x y v u Q I rx ry ⟨d, e, hd, he, ha, hn, hz, q⟩
  obtain ⟨_, left⟩ := Dp.reads I d x v hd rx
  obtain ⟨_, right⟩ := Dp.reads I e y u he ry
  exact PySem.W.rcLt_alike d e X.A s v u _ _ left right ha hn (by omega) X.prog X.w X.xe _ ⟨.bl _, H, I, rfl, q⟩
section
variable {M : Addr → Prop} {Γ : Ct} {Rs : List Res} {X : Cx} {K : PySem.W.Frag} {a b : Expr} {pos : Pos}
theorem xt_ltD {d d' : PyData} {n : Nat} (hr : Room n X.A) (ha : XE M Γ Rs X a (PD X.K d)) (hb : XE M Γ Rs X b (PD X.K d')) (h1 : PySem.W.alike d d' = true) (h2 : d ≠ .none) (h3 : d.depth ≤ 64) : XT M Γ Rs X (.Compare a [.Lt] [b] pos) (Is (PySem.W.dataLt d d')) :=
  xt_cmp (K := X.K) (op_ltD (room_u hr)) ha hb (fun x y H0 H hx hy e _ => (Yld.val (z := .bl (PySem.W.dataLt d d')) (C := PD X.K (.bool (PySem.W.dataLt d d'))) e rfl fun Q k => ⟨d, d', Dd.dp d x (Dd.ex e _ _ hx), Dd.dp d' y (Dd.ex e _ _ hy), h1, h2, h3, k⟩).pb) (nomark _)
end
theorem alike_li : ∀ p q : List Int, PySem.W.alikeAll (li p) (li q) = true
  | [], _ => by
    show PySem.W.alikeAll [] _ = true
    unfold PySem.W.alikeAll
    rfl
  | _ :: _, [] => by
    show PySem.W.alikeAll (_ :: _) [] = true
    unfold PySem.W.alikeAll
    rfl
  | x :: p, y :: q => by
    show PySem.W.alikeAll (.int x :: li p) (.int y :: li q) = true
    unfold PySem.W.alikeAll
    rw [alike_li p q]
    simp [PySem.W.alike]
theorem eqv_ii (x y : Int) : PyData.eqv (.int x) (.int y) = decide (x = y) := by
  have h := eqv_li [x] [y]
  have e : PyData.eqv (.list (li [x])) (.list (li [y])) = (PyData.eqv (.int x) (.int y) && true) := rfl
  rw [e, Bool.and_true] at h
  rw [h]
  exact decide_eq_decide.mpr ⟨fun e => by simpa using e, fun e => by rw [e]⟩
/-- rows of ints, as the program orders them -/
theorem lt_li : ∀ p q : List Int, PySem.W.dataLt (.tuple (li p)) (.tuple (li q)) = HT.lexLt p q
  | [], [] => by
    rw [PySem.W.dataLt_tuple]
    rfl
  | [], y :: q => by
    rw [PySem.W.dataLt_tuple, show li (y :: q) = .int y :: li q from rfl, PySem.W.toks_all_cons, show PySem.W.keyToksAll (li []) = [.inl 0] from by unfold PySem.W.keyToksAll; rfl, PySem.W.lex_atom (by decide), PySem.W.lex_one]
    rfl
  | x :: p, [] => by
    rw [PySem.W.dataLt_tuple, show li (x :: p) = .int x :: li p from rfl, PySem.W.toks_all_cons, show PySem.W.keyToksAll (li []) = [.inl 0] from by unfold PySem.W.keyToksAll; rfl, PySem.W.lex_atom (by decide), PySem.W.lex_one]
    rfl
  | x :: p, y :: q => by
    have al : PySem.W.alike (.int x) (.int y) = true := by simp [PySem.W.alike]
    rw [HT.lexLt_cons, PySem.W.dataLt_tuple, show li (x :: p) = .int x :: li p from rfl, show li (y :: q) = .int y :: li q from rfl]
    by_cases e : x = y
    · rw [if_pos e, PySem.W.dataLt_all_yes al (by rw [eqv_ii]; exact decide_eq_true e), ← PySem.W.dataLt_tuple, lt_li p q]
    · rw [if_neg e, PySem.W.dataLt_all_no al (by rw [eqv_ii]; exact decide_eq_false e), PySem.W.dataLt_int]
/-- (m, row) < (m', row') -/
theorem lt_pair (m n : Int) (p q : List Int) : PySem.W.dataLt (.tuple [.int m, .tuple (li p)]) (.tuple [.int n, .tuple (li q)]) = if m = n then HT.lexLt p q else decide (m < n) := by
  have al : PySem.W.alike (.int m) (.int n) = true := by simp [PySem.W.alike]
  have al2 : PySem.W.alike (.tuple (li p)) (.tuple (li q)) = true := by
    unfold PySem.W.alike
    exact alike_li p q
  rw [PySem.W.dataLt_tuple]
  by_cases e : m = n
  · rw [if_pos e, PySem.W.dataLt_all_yes al (by rw [eqv_ii]; exact decide_eq_true e)]
    by_cases e2 : p = q
    · rw [PySem.W.dataLt_all_yes al2 (by rw [eqv_tli]; exact decide_eq_true e2), e2]
      have irr : ∀ l : List Int, HT.lexLt l l = false := fun l => by
        induction l with
        | nil => rfl
        | cons x xs ih => rw [HT.lexLt_cons, if_pos rfl, ih]
      rw [irr]
      exact PyProof.Rows.lex_irrefl _
    · rw [PySem.W.dataLt_all_no al2 (by rw [eqv_tli]; exact decide_eq_false e2), lt_li]
  · rw [if_neg e, PySem.W.dataLt_all_no al (by rw [eqv_ii]; exact decide_eq_false e), PySem.W.dataLt_int]
theorem alike_pair (m n : Int) (p q : List Int) : PySem.W.alike (.tuple [.int m, .tuple (li p)]) (.tuple [.int n, .tuple (li q)]) = true := by
  simp [PySem.W.alike, PySem.W.alikeAll, alike_li]
theorem depth_pair (m : Int) (p : List Int) : (PyData.tuple [.int m, .tuple (li p)]).depth ≤ 64 := by
  have h : PyData.depthAll (li p) ≤ 1 := PySem.W.depthAll_ints p
  simp only [PyData.depthAll, PyData.depth]
  omega
section
variable {M : Addr → Prop} {Γ : Ct} {Rs : List Res} {X : Cx} {K : PySem.W.Frag} {a b : Expr} {pos : Pos}
theorem xt_ltPair {m m' : Int} {p q : List Int} {n : Nat} (hr : Room n X.A) (ha : XE M Γ Rs X a (PD X.K (.tuple [.int m, .tuple (li p)]))) (hb : XE M Γ Rs X b (PD X.K (.tuple [.int m', .tuple (li q)]))) : XT M Γ Rs X (.Compare a [.Lt] [b] pos) (Is (if m = m' then HT.lexLt p q else decide (m < m'))) :=
  YT.eq (xt_ltD hr ha hb (alike_pair m m' p q) (fun z => by cases z) (depth_pair m p)) (lt_pair m m' p q)
end
/-! ### rows of ints in order -/
theorem lex_asym : ∀ {p q : List Int}, HT.lexLt p q = true → HT.lexLt q p = false
  | [], [], _ => rfl
  | [], _ :: _, _ => rfl
  | _ :: _, [], h => by cases h
  | x :: p, y :: q, h => by
    rw [HT.lexLt_cons] at h ⊢
    by_cases e : x = y
    · rw [if_pos e] at h
      rw [if_pos e.symm]
      exact lex_asym h
    · rw [if_neg e] at h
      rw [if_neg (fun z => e z.symm)]
      have := of_decide_eq_true h
      exact decide_eq_false (by omega)
theorem lex_self : ∀ l : List Int, HT.lexLt l l = false
  | [] => rfl
  | x :: xs => by rw [HT.lexLt_cons, if_pos rfl, lex_self xs]
theorem lex_app : ∀ {p q a b : List Int}, p.length = q.length → HT.lexLt p q = true → HT.lexLt (p ++ a) (q ++ b) = true
  | [], [], _, _, _, h => by cases h
  | [], _ :: _, _, _, e, _ => by simp at e
  | _ :: _, [], _, _, e, _ => by simp at e
  | x :: p, y :: q, a, b, e, h => by
    rw [HT.lexLt_cons] at h
    show HT.lexLt (x :: (p ++ a)) (y :: (q ++ b)) = true
    rw [HT.lexLt_cons]
    by_cases c : x = y
    · rw [if_pos c] at h ⊢
      exact lex_app (by simpa using e) h
    · rw [if_neg c] at h ⊢
      exact h
theorem lex_pre : ∀ {p a b : List Int}, HT.lexLt (p ++ a) (p ++ b) = HT.lexLt a b
  | [], _, _ => rfl
  | x :: p, a, b => by
    show HT.lexLt (x :: (p ++ a)) (x :: (p ++ b)) = _
    rw [HT.lexLt_cons, if_pos rfl]
    exact lex_pre
end Lh
/-! A law that holds a table from the start: its def, its box beside the table; an if that joins; lists of texts side by side. -/
namespace Lh
open PySem L2
open Evl (Ex ex_l ex_t ex_rd fresh_back)
section
variable {M : Addr → Prop} {Γ Γ' : Ct} {Rs : List Res} {X : Cx} {Z0 Z Hl : Hp} {D : Ends} {K : PySem.W.Frag} {rest : List Stmt} {a b c e : Expr} {pos p : Pos} {ns : List Int}
/-- box = begun(script), beside what there is -/
theorem xs_begunR {P' : Program} {w' : World} {K' : PySem.W.Frag} {mg' : Str → Option Value} {base' : Heap} (n : Nat) {x fn : Str} {f : Addr} {fd : FuncData} {ps : List Str} {kk : Nat} {pf p2 p3 : Pos} (F : FnOk P' w' K' mg' base' CX0 kk f fd ps (SpG (α := List Int) (fun ns => [PSc K' ns]) (fun _ => NewBox))) (hr : Room kk X.A) (hm : mg' fn = some (.ref f)) (hk : PySem.W.keepIn K' (.ref f) = true)
    (hb : Binds K' fd ps []) (ha : XE M Γ Rs X a (PSc X.K ns)) (h : ∀ b l, b ≠ l → Z b = none → Z l = none → XS M (Γ.set n (some (PV (.ref b)))) (Res.box b l :: Rs) X Z0 Z Hl D rest) (hN : X.N.Nodup) (hi : X.N[n]? = some x := by rfl) (hx : Loc X.env.scope x := by first | exact Or.inl rfl | exact Or.inr rfl)
    (hg : Gl X fn := by rfl) (hdb : (fn == ("__debug__" : Str)) = false := by decide) (he : starEach [a] X.env = (false, eval a X.env) :: starEach [] X.env := by rfl) (hs : swapsWith (.Call (.Name fn pf) [a] [] p2) (some (.Name x p3)) pos.line X.env = pure false := by rfl) (hf : X.fn x = true ∨ X.env.scope.names.lookup x = some .local := by first | exact .inl rfl | exact .inr rfl)
    (eP : X.prog = P' := by rfl) (ew : X.w = w' := by rfl) (eK : X.K = K' := by rfl) (em : X.mg = mg' := by rfl) (eb : X.base = base' := by rfl) : XS M Γ Rs X Z0 Z Hl D (.Assign [.Name x p3] (.Call (.Name fn pf) [a] [] p2) pos :: rest) := by
  subst eP ew eK em eb
  refine xs_cons (ps_set hN hi hx (pe_call F hr hg hm hk hb (dvs := []) .nil pass0 (pa_cons pe_wp pa_nil he) hdb he rfl) hs hf) fun σ H0 H l s b k => ha σ H0 H l s.le k _ fun v H1 G1 s1 k1 hv => ?_
  refine ⟨ns, H1, s1.le, ?_, fun u G2 nb => ?_⟩
  · exact DAll.cons hv DAll.nil
  · obtain ⟨q, c, ns2, z2, e1, hne, hq, hc, ex2, g1, g2⟩ := nb
    subst e1
    have t := s.trans s1
    have fr : ∀ a, G1 a = none → Z a = none := fun a ha => by
      cases hz : Z a with
      | none => rfl
      | some u =>
        obtain ⟨u', hu⟩ := t.th a u hz
        rw [ha] at hu
        cases hu
    have nr : ∀ r ∈ Rs, ∀ a ∈ r.ad, G1 a ≠ none := fun r hr a ha e => by
      obtain ⟨⟨o, h1⟩, _⟩ := r.tr (k1.2 r hr) a ha
      rw [e] at h1
      cases h1
    refine h q c hne (fr q hq) (fr c hc) _ H1 G2 ((l.ex s1.ex).set rfl) ⟨fun a u hm ha => ex2 a u (t.un a u hm ha), fun a u ha => ?_, t.ex, fun a u ha => ex2 a u (t.le a u ha), t.nw⟩ (b.trans s1.ex) ⟨?_, fun r hr => ?_⟩
    · obtain ⟨u', hu⟩ := t.th a u ha
      exact ⟨u', ex2 a u' hu⟩
    · rw [List.flatMap_cons, List.nodup_append]
      refine ⟨by simp [Res.box, hne], k1.1, fun a ha d hd e => ?_⟩
      subst e
      obtain ⟨r, hr, hd⟩ := List.mem_flatMap.mp hd
      have h2 : a = q ∨ a = c := by simpa [Res.box] using ha
      rcases h2 with e | e
      · exact nr r hr a hd (e ▸ hq)
      · exact nr r hr a hd (e ▸ hc)
    · rcases List.mem_cons.mp hr with e | hr
      · subst e
        exact ⟨ns2, z2, fresh_back t.le hq, fresh_back t.le hc, g1, g2⟩
      · refine r.st (Ex.refl _) (fun a ha => (r.tr (k1.2 r hr) a ha).2) (fun a ha => ?_) (k1.2 r hr)
        obtain ⟨⟨o, h1⟩, _⟩ := r.tr (k1.2 r hr) a ha
        rw [h1]
        exact ex2 a o h1
/-- if, both ways to one word -/
theorem xs_ifJ {c : Expr} {a b : List Stmt} {B : Bool → Prop} {pos : Pos} (J : Nat → Ct → List Res → Prop) (hc : XT M Γ Rs X c B)
    (ha : B true → ∀ nx : L2.St → Hp → Prop, (∀ σ H, KJ M Z0 Z Hl J 0 σ H → nx σ H) → XS M Γ Rs X Z0 Z Hl { D with nx := nx } a)
    (hb : B false → ∀ nx : L2.St → Hp → Prop, (∀ σ H, KJ M Z0 Z Hl J 0 σ H → nx σ H) → XS M Γ Rs X Z0 Z Hl { D with nx := nx } b)
    (hr : ∀ Γ1 Rs1, J 0 Γ1 Rs1 → XS M Γ1 Rs1 X Z0 Z Hl D rest) : XS M Γ Rs X Z0 Z Hl D (.If c a b pos :: rest) := by
  have hj : ∀ σ H, KJ M Z0 Z Hl J 0 σ H → wpB X rest D σ H := fun σ H ⟨Γ1, Rs1, H0, h, e, l, s, k⟩ => hr Γ1 Rs1 h σ H0 H l s e k
  exact xs_if hc (fun q => ha q _ hj) (fun q => hb q _ hj)
end
/-! ### lists of texts -/
theorem eqvAll_ls : ∀ a b : List Str, PyData.eqvAll (lsD a) (lsD b) = decide (a = b)
  | [], [] => rfl
  | [], _ :: _ => rfl
  | _ :: _, [] => rfl
  | x :: xs, y :: ys => by
    show (PyData.eqv (.str x) (.str y) && PyData.eqvAll (lsD xs) (lsD ys)) = _
    rw [eqvAll_ls xs ys]
    have e : PyData.eqv (.str x) (.str y) = decide (x = y) := by
      unfold PyData.eqv
      by_cases h : x = y
      · subst h
        simp
      · simp [h]
    rw [e]
    by_cases h : x = y
    · subst h
      simp
    · simp [h]
theorem eqv_ls (a b : List Str) : PyData.eqv (.list (lsD a)) (.list (lsD b)) = decide (a = b) := eqvAll_ls a b
theorem canLay_ls : ∀ a : List Str, (∀ x ∈ a, PyData.strOk x = true) → PyData.canLayAll0 (lsD a) = true ∧ PyData.depthAll (lsD a) ≤ 1
  | [], _ => by simp [PyData.canLayAll0, PyData.depthAll]
  | x :: xs, h => by
    obtain ⟨h1, h2⟩ := canLay_ls xs fun y hy => h y (List.mem_cons_of_mem x hy)
    have h3 := h x List.mem_cons_self
    have e : lsD (x :: xs) = .str x :: lsD xs := rfl
    rw [e]
    refine ⟨?_, ?_⟩
    · simp only [PyData.canLayAll0, h1]
      simp [PyData.canLay0, h3]
    · simp only [PyData.depthAll, PyData.depth]
      omega
theorem shaped_ls (a : List Str) (h : ∀ x ∈ a, PyData.strOk x = true) : SeqAt.shaped (.list (lsD a)) = true := by
  obtain ⟨h1, h2⟩ := canLay_ls a h
  have h3 : PyData.depth (.list (lsD a)) ≤ 64 := by simp only [PyData.depth]; omega
  show (PyData.canLay0 (.list (lsD a)) && decide (PyData.depth (.list (lsD a)) ≤ 64)) = true
  rw [Bool.and_eq_true]
  exact ⟨by simp only [PyData.canLay0]; exact h1, decide_eq_true h3⟩
/-! ### the law's own def, a table at PN -/
section
variable {K : PySem.W.Frag} {mg : Str → Option Value} {base : Heap} {P : Program} {w : World}
abbrev spLawT (K : PySem.W.Frag) (PN : Addr) : Sp := fun vs H Q _ => ∃ (a : Addr) (ns : List Int), vs = [.ref a] ∧ SqL K H a (ns.map V.int) ∧ H PN = some (.tbl #[]) ∧ ns.length ≤ 63 ∧ (∀ z ∈ ns, Builtin.Int.intBits z ≤ 1048576) ∧ ∀ H', Q (.bl true) H'
theorem fn_LT {x qual lq : Str} {st : Stmt} {f PN : Addr} {fd : FuncData} {N ps : List Str} {k : Nat} (F : Fun K x qual st f fd) (S : FnScope N ps (defScope st)) (len : ps.length = 1)
    (hb : ∀ (ns : List Int) (Z0 Z : Hp) (Q : VK) (X : Cx) (qX : ∃ (cdv : Value) (A : Around) (outer : List Env) (s : Shared) (E : XK), X = (cxOf CX0 P w K mg base N qual (defScope st) f cdv A outer s Z E).nox ∧ Room k X.A), (∀ H', Q (.bl true) H') →
      XS (fun a => a = PN) (ctOf N [PSc K ns]) [LhL.tabR PN lq] X Z0 Z Z0 { nx := fun _ H' => Q .non H', rt := Q } (defBody st)) : FnOk P w K mg base CX0 (k + 1) f fd ps (spLawT K PN) := by
  refine F.ok S (fun vs H Q E h => ?_) (fun cdv A outer s H vs Q E hr h => ?_)
  · obtain ⟨a, ns, e, _⟩ := h
    rw [e, len]
    rfl
  · obtain ⟨a, ns, e, h1, hP, _, _, q⟩ := h
    subst e
    have ex : Ex (fun a => if a = PN then none else H a) H := fun a o ha => by
      by_cases z : a = PN
      · have ha' : (none : Option HO) = some o := by
          have := ha
          simp only [if_pos z] at this
          exact this
        cases ha'
      · simpa [z] using ha
    have h2 : SqL K (fun a => if a = PN then none else H a) a (ns.map V.int) := by
      rcases h1 with h1 | h1
      · refine .inl ?_
        have na : a ≠ PN := fun z => by
          subst z
          rcases h1 with h1 | ⟨o, h1⟩
          · rw [hP] at h1
            cases h1
          · rw [hP] at h1
            cases h1
        rcases h1 with h1 | ⟨o, h1⟩
        · exact .inl (by simpa [na] using h1)
        · exact .inr ⟨o, by simpa [na] using h1⟩
      · exact .inr h1
    have rk : Rok [LhL.tabR PN lq] (fun a => if a = PN then none else H a) H := ⟨by simp [LhL.tabR], fun r hr => by
      have e : r = LhL.tabR PN lq := by simpa using hr
      subst e
      refine ⟨by simp, #[], hP, ?_⟩
      exact ⟨by trivial, fun pos cv h => by cases h⟩⟩
    exact ⟨_, pss_wp, hb ns _ H Q _ ⟨cdv, A, outer, s, E, rfl, hr⟩ q _ _ H (sl_start (DAll.cons ⟨a, rfl, h2⟩ DAll.nil)) (Step.rfl ex) (Ex.refl _) rk⟩
end
end Lh
/-! min of a list of data of one make; of pairs (int, row). -/
namespace Lh
open PySem L2
open Evl (Ex ex_l ex_t ex_rd fresh_back)
theorem minD_mem (x : PyData) (xs : List PyData) : PySem.W.minD x xs ∈ x :: xs := by
  unfold PySem.W.minD
  induction xs generalizing x with
  | nil => simp
  | cons y ys ih =>
    rw [List.foldl_cons]
    have h := ih (if PySem.W.dataLt y x then y else x)
    rcases List.mem_cons.mp h with e | h
    · rw [e]
      by_cases c : PySem.W.dataLt y x = true
      · rw [if_pos c]
        simp
      · rw [if_neg c]
        simp
    · exact List.mem_cons_of_mem _ (List.mem_cons_of_mem _ h)
def rMinD (K : PySem.W.Frag) : List V → Hp → VK → Prop := fun vs H Q => ∃ (a : Addr) (xs : List V) (d : PyData) (ds : List PyData), vs = [V.ref a] ∧ SqL K H a xs ∧ DdAll K H (d :: ds) xs ∧ PySem.W.AlikeAll (d :: ds) ∧ PyData.depthAll (d :: ds) ≤ 60 ∧ ∀ (i : Nat) (y : V), xs[i]? = some y → (d :: ds)[i]? = some (PySem.W.minD d ds) → Q y H
theorem cr_minD {X : Cx} (hc : X.calm = true) (hu : X.A.units + 64 < cLine) : CallR X (.builtin "min") (rMinD X.K) := by
  rintro pins s σ H vs us Q I r ⟨a, xs, d, ds, rfl, hs, hd, ha, hz, q⟩
  obtain ⟨its, rv, at_, _⟩ := I.list hs
  rw [Vals.ref1 r]
  obtain ⟨as, ra⟩ := Dp.readsAll I (d :: ds) xs its hd.dp rv
  refine PySem.W.min_list_data (I.ok.hd hc) at_.isList (by simpa using ra) ha (by omega) fun i v h' tk bs hv rd hk => ?_
  have hv' : its[i]? = some v := by simpa using hv
  have hi : i < (d :: ds).length := by
    have h1 := (List.getElem?_eq_some_iff.mp hv').1
    have h2 := rv.length
    have h3 := hd.len
    omega
  obtain ⟨y, hy1, hy2⟩ := hd.get (List.getElem?_eq_getElem hi)
  obtain ⟨u, hu1, hu2⟩ := rv.get hy1
  have e : u = v := Option.some.inj (hu1.symm.trans hv')
  subst e
  obtain ⟨cs, r2⟩ := Dp.reads I _ y u (Dd.dp _ y hy2) hu2
  have e2 : (d :: ds)[i] = PySem.W.minD d ds := PySem.W.alike_unique _ _ u _ _ (ha.1 _ (List.getElem_mem hi) _ (minD_mem d ds)) (PySem.W.reads_keeps hk r2) rd
  exact ⟨y, H, I.kept hk, hu2, q i y hy1 (by rw [List.getElem?_eq_getElem hi, e2])⟩
section
variable {M : Addr → Prop} {Γ : Ct} {Rs : List Res} {X : Cx} {K : PySem.W.Frag} {a b : Expr} {p pos : Pos}
theorem xe_minD {d : PyData} {ds : List PyData} {n : Nat} (hr : Room n X.A) (hm : X.mg "min" = none) (h : XE M Γ Rs X a (PD X.K (.list (d :: ds)))) (ha : PySem.W.AlikeAll (d :: ds)) (hz : PyData.depthAll (d :: ds) ≤ 60) (hc : X.calm = true := by rfl) (hg : Gl X "min" := by rfl) (he : starEach [a] X.env = (false, eval a X.env) :: starEach [] X.env := by rfl) : XE M Γ Rs X (.Call (.Name "min" p) [a] [] pos) (PD X.K (PySem.W.minD d ds)) :=
  xe_callB (cr_minD hc (room_u hr)) hm (by decide +kernel) (xa_1 h he) (fun xs H0 H hx e _ => by
    obtain ⟨x, e1, q, ys, e2, h1, h2⟩ := da1 hx
    subst e1 e2
    exact fun Q k => ⟨q, ys, d, ds, rfl, SqL.of (e _ _ h1), DdAll.ex e _ _ h2, ha, hz, fun i y hy hd => by
      obtain ⟨v, hv1, hv2⟩ := h2.get hd
      have ev : v = y := Option.some.inj (hv1.symm.trans hy)
      subst ev
      exact k v H0 H (Step.rfl e) hv2⟩) hg (by decide) (by decide) he rfl
end
/-! ### pairs of an int and a row -/
abbrev prowD (p : Int × List Int) : PyData := .tuple [.int p.1, .tuple (li p.2)]
def ltP (p q : Int × List Int) : Bool := if p.1 = q.1 then HT.lexLt p.2 q.2 else decide (p.1 < q.1)
theorem lt_prow (p q : Int × List Int) : PySem.W.dataLt (prowD p) (prowD q) = ltP p q := lt_pair p.1 q.1 p.2 q.2
theorem lex_trans : ∀ {p q r : List Int}, HT.lexLt p q = true → HT.lexLt q r = true → HT.lexLt p r = true
  | [], [], _, h, _ => by cases h
  | [], _ :: _, [], _, h => by cases h
  | [], _ :: _, _ :: _, _, _ => rfl
  | _ :: _, [], _, h, _ => by cases h
  | _ :: _, _ :: _, [], _, h => by cases h
  | x :: p, y :: q, z :: r, h1, h2 => by
    rw [HT.lexLt_cons] at h1 h2 ⊢
    by_cases e1 : x = y
    · rw [if_pos e1] at h1
      by_cases e2 : y = z
      · rw [if_pos e2] at h2
        rw [if_pos (e1.trans e2)]
        exact lex_trans h1 h2
      · rw [if_neg e2] at h2
        rw [if_neg (fun e => e2 (e1.symm.trans e)), e1]
        exact h2
    · rw [if_neg e1] at h1
      have q1 := of_decide_eq_true h1
      by_cases e2 : y = z
      · rw [if_neg (by omega)]
        exact decide_eq_true (by omega)
      · rw [if_neg e2] at h2
        have q2 := of_decide_eq_true h2
        rw [if_neg (by omega)]
        exact decide_eq_true (by omega)
theorem lex_tri : ∀ {p q : List Int}, HT.lexLt p q = false → HT.lexLt q p = false → p = q
  | [], [], _, _ => rfl
  | [], _ :: _, h, _ => by cases h
  | _ :: _, [], _, h => by cases h
  | x :: p, y :: q, h1, h2 => by
    rw [HT.lexLt_cons] at h1 h2
    by_cases e : x = y
    · rw [if_pos e] at h1
      rw [if_pos e.symm] at h2
      rw [e, lex_tri h1 h2]
    · rw [if_neg e] at h1
      rw [if_neg fun z => e z.symm] at h2
      have q1 := of_decide_eq_false h1
      have q2 := of_decide_eq_false h2
      omega
theorem ltP_trans {p q r : Int × List Int} (h1 : ltP p q = true) (h2 : ltP q r = true) : ltP p r = true := by
  unfold ltP at *
  by_cases e1 : p.1 = q.1
  · rw [if_pos e1] at h1
    by_cases e2 : q.1 = r.1
    · rw [if_pos e2] at h2
      rw [if_pos (e1.trans e2)]
      exact lex_trans h1 h2
    · rw [if_neg e2] at h2
      rw [if_neg fun e => e2 (e1.symm.trans e), e1]
      exact h2
  · rw [if_neg e1] at h1
    have q1 := of_decide_eq_true h1
    by_cases e2 : q.1 = r.1
    · rw [if_neg (by omega)]
      exact decide_eq_true (by omega)
    · rw [if_neg e2] at h2
      have q2 := of_decide_eq_true h2
      rw [if_neg (by omega)]
      exact decide_eq_true (by omega)
theorem ltP_self (p : Int × List Int) : ltP p p = false := by
  unfold ltP
  rw [if_pos rfl]
  exact lex_self p.2
theorem ltP_tri {p q : Int × List Int} (h1 : ltP p q = false) (h2 : ltP q p = false) : p = q := by
  unfold ltP at h1 h2
  by_cases e : p.1 = q.1
  · rw [if_pos e] at h1
    rw [if_pos e.symm] at h2
    exact Prod.ext e (lex_tri h1 h2)
  · rw [if_neg e] at h1
    rw [if_neg fun z => e z.symm] at h2
    have q1 := of_decide_eq_false h1
    have q2 := of_decide_eq_false h2
    omega
/-- the least of them -/
def leastP (x : Int × List Int) (xs : List (Int × List Int)) : Int × List Int := xs.foldl (fun a y => if ltP y a then y else a) x
theorem minD_prow (x : Int × List Int) (xs : List (Int × List Int)) : PySem.W.minD (prowD x) (xs.map prowD) = prowD (leastP x xs) := by
  unfold PySem.W.minD leastP
  induction xs generalizing x with
  | nil => rfl
  | cons y ys ih =>
    rw [List.map_cons, List.foldl_cons, List.foldl_cons, lt_prow]
    cases c : ltP y x with
    | true => exact ih y
    | false => exact ih x
theorem least_mem (x : Int × List Int) (xs : List (Int × List Int)) : leastP x xs ∈ x :: xs := by
  unfold leastP
  induction xs generalizing x with
  | nil => simp
  | cons y ys ih =>
    rw [List.foldl_cons]
    cases c : ltP y x with
    | true =>
      have h := ih y
      exact List.mem_cons_of_mem _ h
    | false =>
      rcases List.mem_cons.mp (ih x) with e | h
      · exact List.mem_cons.mpr (.inl e)
      · exact List.mem_cons_of_mem _ (List.mem_cons_of_mem _ h)
theorem least_le (x : Int × List Int) (xs : List (Int × List Int)) : ∀ y ∈ x :: xs, ltP y (leastP x xs) = false := by
  have step : ∀ (l : List (Int × List Int)) (a : Int × List Int), ltP a (leastP a l) = false ∧ ∀ y ∈ l, ltP y (leastP a l) = false := fun l => by
    induction l with
    | nil => exact fun a => ⟨ltP_self a, fun y hy => by cases hy⟩
    | cons z zs ih =>
      intro a
      show ltP a (leastP (if ltP z a then z else a) zs) = false ∧ ∀ y ∈ z :: zs, ltP y (leastP (if ltP z a then z else a) zs) = false
      cases c : ltP z a with
      | true =>
        rw [if_pos rfl]
        obtain ⟨h1, h2⟩ := ih z
        refine ⟨?_, fun y hy => ?_⟩
        · cases q : ltP a (leastP z zs) with
          | false => rfl
          | true =>
            have := ltP_trans c q
            rw [this] at h1
            cases h1
        · rcases List.mem_cons.mp hy with e | hy
          · rw [e]
            exact h1
          · exact h2 y hy
      | false =>
        rw [if_neg (by decide)]
        obtain ⟨h1, h2⟩ := ih a
        refine ⟨h1, fun y hy => ?_⟩
        rcases List.mem_cons.mp hy with e | hy
        · rw [e]
          cases q : ltP z (leastP a zs) with
          | false => rfl
          | true =>
            -- z is below the least, the least is not above a, a is not above z
            cases q2 : ltP (leastP a zs) a with
            | true =>
              have := ltP_trans q q2
              rw [this] at c
              cases c
            | false =>
              have e2 := ltP_tri h1 q2
              rw [← e2] at q
              rw [q] at c
              cases c
        · exact h2 y hy
  intro y hy
  obtain ⟨h1, h2⟩ := step xs x
  rcases List.mem_cons.mp hy with e | hy
  · rw [e]
    exact h1
  · exact h2 y hy
theorem least_is {x : Int × List Int} {xs : List (Int × List Int)} {m : Int × List Int} (h1 : m ∈ x :: xs) (h2 : ∀ y ∈ x :: xs, ltP y m = false) : leastP x xs = m :=
  ltP_tri (h2 _ (least_mem x xs)) (least_le x xs m h1)
theorem alike_prows (l : List (Int × List Int)) : PySem.W.AlikeAll (l.map prowD) := ⟨fun x hx y hy => by
  obtain ⟨p, _, rfl⟩ := List.mem_map.mp hx
  obtain ⟨q, _, rfl⟩ := List.mem_map.mp hy
  exact alike_pair p.1 q.1 p.2 q.2, fun x hx => by
  obtain ⟨p, _, rfl⟩ := List.mem_map.mp hx
  exact fun z => by cases z⟩
theorem depth_prows : ∀ l : List (Int × List Int), PyData.depthAll (l.map prowD) ≤ 60
  | [] => by simp [PyData.depthAll]
  | x :: xs => by
    have h1 := depth_prows xs
    have h2 : PyData.depthAll (li x.2) ≤ 1 := PySem.W.depthAll_ints x.2
    have e : (x :: xs).map prowD = prowD x :: xs.map prowD := rfl
    rw [e]
    simp only [PyData.depthAll, PyData.depth]
    omega
section
variable {M : Addr → Prop} {Γ : Ct} {Rs : List Res} {X : Cx} {K : PySem.W.Frag} {a b : Expr} {p pos : Pos}
theorem xe_minP {x : Int × List Int} {xs : List (Int × List Int)} {n : Nat} (hr : Room n X.A) (hm : X.mg "min" = none) (h : XE M Γ Rs X a (PD X.K (.list ((x :: xs).map prowD)))) (hc : X.calm = true := by rfl) (hg : Gl X "min" := by rfl) (he : starEach [a] X.env = (false, eval a X.env) :: starEach [] X.env := by rfl) : XE M Γ Rs X (.Call (.Name "min" p) [a] [] pos) (PD X.K (prowD (leastP x xs))) :=
  YE.dat (xe_minD hr hm h (alike_prows (x :: xs)) (depth_prows (x :: xs)) hc hg he) (minD_prow x xs)
end
end Lh
/-! A tuple turned round: t[::-1], reversed(t). -/
namespace HT
open PySem PyProof.Rows
section
variable {s : Shared} {E : Value → Shared → Prop} {A : Around} {w : World} {prog : Program}
theorem places_back (n : Nat) : Builtin.Slice.slicePlaces ((n : Int) - 1) (-1) (-1) = n := by
  unfold Builtin.Slice.slicePlaces;  rw [if_neg (by decide)]
  by_cases h : -1 < (n : Int) - 1
  · rw [if_pos h, show (-(-1 : Int)) = 1 by decide, Int.ediv_one]
    omega
  · rw [if_neg h]
    omega
theorem pick_back (xs : Array Value) : ((List.range xs.size).filterMap fun (m : Nat) => xs[(((xs.size : Int) - 1) + (m : Int) * (-1)).toNat]?).toArray = xs.toList.reverse.toArray := by
  have e : (fun (m : Nat) => xs[(((xs.size : Int) - 1) + (m : Int) * (-1)).toNat]?) = (fun i => xs[i]?) ∘ fun (m : Nat) => ((xs.size : Int) - 1 - (m : Int)).toNat := by
    funext m
    show xs[_]? = xs[_]?
    rw [show ((xs.size : Int) - 1) + (m : Int) * (-1) = (xs.size : Int) - 1 - m by omega]
  have e2 : ∀ l : List Nat, (∀ m ∈ l, m < xs.size) → l.map (fun (m : Nat) => ((xs.size : Int) - 1 - (m : Int)).toNat) = l.map fun m => xs.size - 1 - m := fun l h => List.map_congr_left fun m hm => by
    have := h m hm
    omega
  rw [e, ← List.filterMap_map, e2 _ fun m hm => List.mem_range.mp hm, PySem.W.krv_range, List.filterMap_reverse]
  rw [PySem.W.krv_all]
theorem applied_back {sl : Addr} {vl vu vs : Value} {n : Nat} {Q : Int × Int × Nat → Shared → Prop} (hs : s.heap.IsSliceOf sl vl vu vs) (pl : IsPart vl none) (pu : IsPart vu none) (ps : IsPart vs (some (-1)))
    (h : Q ((n : Int) - 1, -1, n) s) : wpAny (model prog w) A (Builtin.Slice.sliceApplied (.ref sl) (pure (n : Int))) Q E s := by
  obtain ⟨os, at_, cls_, dat⟩ := id hs
  unfold Builtin.Slice.sliceApplied
  unfold Builtin.Slice.sliceFields
  refine wpAny_bind (wpAny_bind (wpAny_field at_ dat (x := vl) rfl (wpAny_bind (wpAny_field at_ dat (x := vu) rfl (wpAny_bind (wpAny_field at_ dat (x := vs) rfl (wpAny_pure ?_)))))))
  refine wpAny_bind (slicePart_ ps ?_)
  show wpAny _ _ (if ((-1 : Int) == 0) = true then _ else _) _ _ s
  rw [if_neg (by decide)]
  refine wpAny_bind (slicePart_ pl ?_)
  refine wpAny_bind (slicePart_ pu (wpAny_bind (wpAny_pure ?_)))
  have e : Builtin.Slice.slicePlaces ((n : Int) - 1) (-1) (-1) = n := places_back n
  show wpAny _ _ (pure ((n : Int) - 1, (-1 : Int), Builtin.Slice.slicePlaces ((n : Int) - 1) (-1) (-1))) _ _ s
  rw [e]
  exact wpAny_pure h
theorem tuple_back {t sl : Addr} {items : Array Value} {vl vu vs : Value} {Q : Value → Shared → Prop} (ht : IsTup s.heap t items) (hs : s.heap.IsSliceOf sl vl vu vs) (pl : IsPart vl none) (pu : IsPart vu none) (ps : IsPart vs (some (-1)))
    (h : Q (.ref s.heap.objs.size) { s with heap := s.heap.push { cls := .type "tuple", data := .seq items.toList.reverse.toArray } }) (hsz : items.size ≤ sizeLine) : wpAny (model prog w) A (getItem (.ref t) (.ref sl)) Q E s := by
  have fits : sizeOk (.seq items.toList.reverse.toArray) := by
    show items.toList.reverse.toArray.size ≤ sizeLine
    rw [List.size_toArray, List.length_reverse, Array.length_toList]
    exact hsz
  obtain ⟨os, at_, cls_, dat⟩ := id hs
  have isSl : s.TypeIs (.ref sl) "slice" := ⟨os, at_, cls_⟩
  unfold getItem
  try with_reducible (refine wpAny_holding ?_)
  first
    | refine wpAny_bind (wpAny_pure ?_)
    | skip
  have tyT := ht.typeIs
  refine wpAny_bind (wpAny_sequenceKey tyT (by decide) ?_)
  refine wpAny_bind (wpAny_callSpecial?_slot (name := Str.ofString "__getitem__") ht.typeIs slot_tuple_getitem (wpAny_call_entry slot_tuple_getitem ht.typeIs entry_tuple_getitem ?_ (args_tuple_getitem _ _)))
  show wpAny _ _ (Builtin.Tuple.tupleItemsOf (.ref t) >>=
    _) _ _ s
  refine wpAny_bind (tupleItemsOf_ ht (wpAny_bind (wpAny_typeOf isSl ?_)))
  rw [if_pos (by decide)]
  refine wpAny_bind (applied_back hs pl pu ps ?_)
  have never : ¬ ((((items.size : Int) - 1) == 0 && (-1 : Int) == 1 && items.size == items.size) = true) := by
    intro z
    rw [Bool.and_eq_true, Bool.and_eq_true] at z
    exact absurd (eq_of_beq z.1.2) (by decide)
  show wpAny _ _ (if (((items.size : Int) - 1) == 0 && (-1 : Int) == 1 && items.size == items.size) = true then _ else _) _ _ s
  rw [if_neg never, pick_back]
  first
    | exact wpAny_bind (m := Builtin.Tuple.tupleExact _) (wpAny_newObj_type (wpAny_pure ⟨_, rfl, wpAny_pure h⟩) fits)
    | exact wpAny_bind (m := Builtin.Tuple.tupleExact _) (wpAny_newObj_type (wpAny_bind (wpAny_pure (wpAny_pure ⟨_, rfl, wpAny_pure h⟩))) fits)
    | exact wpAny_bind (wpAny_bind (m := Builtin.Tuple.tupleExact _) (wpAny_newObj_type (wpAny_pure (wpAny_pure ⟨_, rfl, wpAny_pure h⟩)) fits))
    | exact wpAny_bind (wpAny_bind (m := Builtin.Tuple.tupleExact _) (wpAny_newObj_type (wpAny_pure ⟨_, rfl, wpAny_pure h⟩) fits))
end
end HT
namespace Lh
open PySem PySem.Spec L2 PyProof.Rows
open Evl (Ex ex_l ex_t ex_rd fresh_back)
def tRevT (K : PySem.W.Frag) (te : TE) : TE := fun σ H Q => te σ H fun x H1 => ∃ a xs, x = .ref a ∧ SqT K H1 a xs ∧ ∀ p, H1 p = none → Q (.ref p) (upd H1 p (.tup xs.reverse))
section
variable {X : Cx}
theorem pe_revT {e : Expr} {te : TE} {k : Nat} {p1 p2 p3 pos : Pos} (he : PE X e te) : PE X (.Subscript e (.Slice none none (some (.UnaryOp .USub (.Constant (.int 1) k p1) p2)) p3) pos) (tRevT X.K te) := by
  constructor
  intro pins s σ H Q I h
  refine Subscript_ (thn (he.run pins s σ H _ I h) fun v s1 ⟨x, H1, I1, r1, ⟨a, xs, ex, hx, q⟩⟩ => ?_)
  subst ex
  cases r1
  have step : PO X (some (.UnaryOp .USub (.Constant (.int 1) k p1) p2)) (tPart (tUn (rU fun i => .int (-i)) (tC (.int 1)))) := po_some (pe_un un_neg pe_int)
  refine wpAny_Slice (thn (po_none.run pins s1 σ H1 (fun k G => k = none ∧ G = H1) I1 ⟨rfl, rfl⟩) fun vl s2 ⟨l, H2, I2, pl, el, e2⟩ => ?_)
  subst el e2
  refine thn (po_none.run pins s2 σ H2 (fun k G => k = none ∧ G = H2) I2 ⟨rfl, rfl⟩) fun vu s3 ⟨u, H3, I3, pu, eu, e3⟩ => ?_
  subst eu e3
  refine thn (step.run pins s3 σ H3 (fun k G => k = some (-1) ∧ G = H3) I3 ⟨1, rfl, -1, rfl, rfl, rfl⟩) fun vs s4 ⟨o, H4, I4, ps, eo, e4⟩ => ?_
  subst eo e4
  have J : Inv X pins σ H4 { s4 with heap := s4.heap.push { cls := .type "slice", data := .fields #[vl, vu, vs] } } := I4.kept (t' := s4.toks) fun _ _ q => Heap.get?_push_of_some _ q
  obtain ⟨its, r, ht, hz⟩ := J.tuple hx
  have same := r.length
  show wpAny (model X.prog X.w) X.A
    (subscriptTail e (.Slice none none (some (.UnaryOp .USub (.Constant (.int 1) k p1) p2)) p3) (.ref a) (.ref s4.heap.objs.size)) (EP X pins σ Q)
    X.xe { s4 with heap := s4.heap.push { cls := .type "slice", data := .fields #[vl, vu, vs] } }
  refine tail_any (ops := [.ref a, .ref s4.heap.objs.size]) ht.typeIs slot_tuple_getitem.lookup ?_ (by with_unfolding_all rfl)
  refine HT.tuple_back ht (Heap.IsSliceOf.new _ vl vu vs) pl pu ps ?_ (by rw [List.size_toArray]; omega)
  refine ⟨.ref _, _, J.laid (t' := s4.toks) (o := .tup xs.reverse) (fun _ _ q => Heap.get?_push_of_some _ q) (Nat.le_refl _) ?_, rfl, q _ (J.hok.fresh (Nat.le_refl _))⟩
  exact ⟨by rw [List.length_reverse]; exact hz, _, r.reverse, IsTup.new _ _⟩
end
section
variable {M : Addr → Prop} {Γ : Ct} {Rs : List Res} {X : Cx} {K : PySem.W.Frag} {a e : Expr} {pos : Pos}
theorem xe_revT {ds : List PyData} {kq : Nat} {q1 q2 q3 : Pos} (h : XE M Γ Rs X a (PD X.K (.tuple ds))) : XE M Γ Rs X (.Subscript a (.Slice none none (some (.UnaryOp .USub (.Constant (.int 1) kq q1) q2)) q3) pos) (PD X.K (.tuple ds.reverse)) := YE.wp (pe_revT pe_wp) fun σ H0 H l e k Q q =>
  h σ H0 H l e k _ fun v H1 G1 s1 k1 ⟨a, xs, e1, h1, h2⟩ => ⟨a, xs, e1, ex_t s1.le h1, fun p hp => q _ _ _ (s1.trans (Step.new s1.le hp)) (k1.step0 (Step.new s1.le hp)) ⟨p, _, rfl, SqT.of upd_same, DdAll.ex (Ex.new (fresh_back s1.le hp)) _ _ h2.rev⟩⟩
theorem wk_revT {b : Addr} {xs : List V} {ds : List PyData} {H0 : Hp} (h : SqT K H0 b xs) (hd : DdAll K H0 ds xs) : Wk (RT.ItvT K b xs.length) (ds.reverse.map (PD K)) H0 := fun H0' H u u' i => by
  have same := hd.len
  refine ⟨fun Q q => ?_, fun q => by show xs.length ≤ i; rw [same]; exact Nat.le_of_eq (by simpa using q)⟩
  have hlt : i < ds.length := by
    have := (List.getElem?_eq_some_iff.mp q).1
    simpa using this
  have place : ds[xs.length - 1 - i]? = some (ds[xs.length - 1 - i]'(by omega)) := List.getElem?_eq_getElem _
  have eQ : PD K (ds[xs.length - 1 - i]'(by omega)) = Q := by
    rw [List.getElem?_map, List.getElem?_reverse hlt] at q
    rw [show ds.length - 1 - i = xs.length - 1 - i by omega, place] at q
    exact Option.some.inj q
  subst eQ
  obtain ⟨v, h1, h2⟩ := hd.get place
  refine ⟨⟨by omega, xs, v, ex_t (u.trans u') h, h1⟩, fun x H' ⟨y1, y2⟩ => ?_⟩
  have ev : x = v := Option.some.inj ((y2 xs (ex_t (u.trans u') h)).symm.trans h1)
  subst ev y1
  exact ⟨H0', Step.rfl u', Dd.ex u _ _ h2⟩
theorem xi_revT {tg : Expr} {p : Pos} {ds : List PyData} (hm : X.mg "reversed" = none) (h : XE M Γ Rs X e (PD X.K (.tuple ds))) (hg : Gl X "reversed" := by rfl) (hs : starEach [e] X.env = (false, eval e X.env) :: starEach [] X.env := by rfl) :
    XI M Γ Rs X tg (.Call (.Name "reversed" p) [e] [] pos) (ds.reverse.map (PD X.K)) := fun σ H0 H l ex k R r => PI.wp (RT.pi_revA hg hm pe_wp hs) (h σ H0 H l ex k _ fun v H1 G1 s1 k1 ⟨b, xs, e3, h3, h4⟩ =>
  ⟨b, xs, e3, .inr ⟨ex_t s1.le h3, r _ H1 G1 s1 k1 (wk_revT h3 h4)⟩⟩)
end
end Lh
namespace Lh
open PySem L2
open Evl (Ex ex_l ex_t ex_rd fresh_back)
section
variable {M : Addr → Prop} {Γ Γ' : Ct} {Rs : List Res} {X : Cx} {Z0 Z Hl : Hp} {D : Ends} {K : PySem.W.Frag} {rest : List Stmt} {a b c e : Expr} {es : List Expr} {pos p : Pos}
/-- x, y, z = a, b, c -/
theorem xs_par3 (i j l : Nat) {x y z : Str} {P Q R : Pd} {px py pz pt : Pos} {kt k2 pt2} (ha : XA M Γ Rs X [a, b, c] [P, Q, R]) (h : XS M (((Γ.set i (some P)).set j (some Q)).set l (some R)) Rs X Z0 Z Hl D rest) (hN : X.N.Nodup) (hc : X.calm = true := by rfl) (hi : X.N[i]? = some x := by rfl) (hj : X.N[j]? = some y := by rfl) (hl : X.N[l]? = some z := by rfl)
    (hij : i ≠ j := by decide) (hil : i ≠ l := by decide) (hjl : j ≠ l := by decide) (hx : X.env.scope.names.lookup x = some .local := by rfl) (hy : X.env.scope.names.lookup y = some .local := by rfl) (hz : X.env.scope.names.lookup z = some .local := by rfl)
    (hw : swappedStores [.Tuple [.Name x px, .Name y py, .Name z pz] kt pt] (.Tuple [a, b, c] k2 pt2) X.env = pure (some [x, y, z]) := by rfl) (hs : swapsWithSole [.Tuple [.Name x px, .Name y py, .Name z pz] kt pt] (.Tuple [a, b, c] k2 pt2) pos.line X.env = pure false := by rfl) :
    XS M Γ Rs X Z0 Z Hl D (.Assign [.Tuple [.Name x px, .Name y py, .Name z pz] kt pt] (.Tuple [a, b, c] k2 pt2) pos :: rest) :=
  xs_cons (ps_par3 hc hN hi hj hl hij hil hjl hx hy hz pa_wp hw hs) fun σ H0 H l' s b' k => ha σ H0 H l' s.le k _ fun vs H1 G1 s1 k1 a1 => by
    obtain ⟨v, r, e1, h1, h2⟩ := a1.inv
    obtain ⟨w, r', e2, h3, h4⟩ := h2.inv
    obtain ⟨u, r'', e3, h5, h6⟩ := h4.inv
    have e4 := h6.nil_inv
    subst e1 e2 e3 e4
    exact ⟨v, w, u, rfl, h _ H1 G1 ((((l'.ex s1.ex).set h1).set h3).set h5) (s.trans s1) (b'.trans s1.ex) k1⟩
/-- list(t), to be changed -/
theorem fe_listT {ds : List PyData} (hm : X.mg "list" = none) (h : XE M Γ Rs X a (PD X.K (.tuple ds))) (hg : Gl X "list" := by rfl) (he : starEach [a] X.env = (false, eval a X.env) :: starEach [] X.env := by rfl) : FE M Γ Rs (wpE X (.Call (.Name "list" p) [a] [] pos)) (ds.map (PD X.K)) :=
  FE.wp (pe_callTy call_list_of hg hm (by decide +kernel) (pa_cons pe_wp pa_nil he) (by decide) (by decide) he rfl) fun σ H0 H l e k Q q => h σ H0 H l e k _ fun v H1 G1 s1 k1 ⟨b, xs, e1, h1, h2⟩ => by
    subst e1
    exact ⟨b, xs, rfl, .inr (ex_t s1.le h1), fun d hd => q d _ H1 G1 s1 k1 hd h2.da⟩
end
end Lh
/-! for x, (y, z) in iter. -/
namespace Lh
open PySem L2
open Evl (Ex ex_l ex_t ex_rd fresh_back)
section
variable {M : Addr → Prop} {Γ Γ' : Ct} {Rs : List Res} {X : Cx} {Z0 Z Hl : Hp} {D : Ends} {K : PySem.W.Frag} {rest : List Stmt} {a b c e : Expr} {es : List Expr} {pos p : Pos}
theorem gv_three {i j m : Nat} {P Q R : Pd} : GV (gTup K 2 (gCons (gName i) (gCons (gTup K 2 (gCons (gName j) (gCons (gName m) gNil))) gNil))) (PT2 K P (PT2 K Q R)) Γ (((Γ.set i (some P)).set j (some Q)).set m (some R)) := fun v σ H0 H l e ⟨a, x, y, h1, h2, h3, ⟨b, u, w, k1, k2, k3, k4⟩⟩ R r =>
  ⟨a, [x, y], h1, ex_t e h2, rfl, x, [y], rfl, y, [], rfl, b, [u, w], k1, ex_t e k2, rfl, u, [w], rfl, w, [], rfl, rfl, rfl, r _ (((l.set h3).set k3).set k4)⟩
theorem xs_forPP (i j m : Nat) {x y z : Str} {iter : Expr} {body : List Stmt} {xp yp zp tp tp2 : Pos} {kt kt2 : Nat} {Qs : List Pd} (hi : XI M Γ Rs X (.Tuple [.Name x xp, .Tuple [.Name y yp, .Name z zp] kt2 tp2] kt tp) iter Qs) (J : Nat → Ct → List Res → Prop) (h0 : J 0 Γ Rs)
    (hb : ∀ (t : Nat) (Q : Pd) (Γ1 : Ct) (Rs1 : List Res), Qs[t]? = some Q → J t Γ1 Rs1 → ∃ P1 P2 P3, Q = PT2 X.K P1 (PT2 X.K P2 P3) ∧ ∀ Hs, XS M (((Γ1.set i (some P1)).set j (some P2)).set m (some P3)) Rs1 X Z0 Z Hs { D with nx := KJ M Z0 Z Hs J (t + 1), ct := KJ M Z0 Z Hs J (t + 1), bk := wpB X rest D } body)
    (hd : ∀ Γ1 Rs1, J Qs.length Γ1 Rs1 → XS M Γ1 Rs1 X Z0 Z Hl D rest) (hN : X.N.Nodup) (hp : PassesOwn (model X.prog X.w) X.A X.env X.xe := by exact PassesOwn.never) (hx : X.N[i]? = some x := by rfl) (hy : X.N[j]? = some y := by rfl) (hz : X.N[m]? = some z := by rfl) (hl : Loc X.env.scope x := by first | exact Or.inl rfl | exact Or.inr rfl) (hl2 : Loc X.env.scope y := by first | exact Or.inl rfl | exact Or.inr rfl) (hl3 : Loc X.env.scope z := by first | exact Or.inl rfl | exact Or.inr rfl)
    (hf : X.fn x = true ∨ X.env.scope.names.lookup x = some .local := by first | exact .inl rfl | exact .inr rfl) (hf2 : X.fn y = true ∨ X.env.scope.names.lookup y = some .local := by first | exact .inl rfl | exact .inr rfl) (hf3 : X.fn z = true ∨ X.env.scope.names.lookup z = some .local := by first | exact .inl rfl | exact .inr rfl) (hc : X.calm = true := by rfl) (hs : ∀ x, foldedSetIterable iter X.env x = pure x := by intro _; rfl) :
    XS M Γ Rs X Z0 Z Hl D (.For (.Tuple [.Name x xp, .Tuple [.Name y yp, .Name z zp] kt2 tp2] kt tp) iter body [] pos :: rest) :=
  xs_for hp hi J h0 ⟨_, pg_tup hc (pgs_cons (pg_name hN hx hl hf) (pgs_cons (pg_tup hc (pgs_cons (pg_name hN hy hl2 hf2) (pgs_cons (pg_name hN hz hl3 hf3) pgs_nil))) pgs_nil)), fun t Q Γ1 Rs1 hq j => by
    obtain ⟨P1, P2, P3, e, h⟩ := hb t Q Γ1 Rs1 hq j
    subst e
    exact ⟨_, gv_three, h⟩⟩ hd hc hs
theorem xt_or3B {u v w : Bool} (h : XT M Γ Rs X a (Is u)) (h' : u = false → XT M Γ Rs X b (Is v)) (h'' : u = false → v = false → XT M Γ Rs X c (Is w)) : XT M Γ Rs X (.BoolOp .Or [a, b, c] pos) (Is (u || (v || w))) := (xt_or3 h (fun z => h' z.symm) fun z z' => h'' z.symm z'.symm).imp fun t ht => by
  rcases ht with ⟨q, rfl⟩ | ⟨q, ⟨q1, rfl⟩ | ⟨q1, q2⟩⟩
  · have q' : true = u := q
    rw [← q']
    rfl
  · have q' : false = u := q
    have r' : true = v := q1
    rw [← q', ← r']
    rfl
  · have q' : false = u := q
    have r' : false = v := q1
    have s' : t = w := q2
    show t = _
    rw [← q', ← r', s']
    rfl
/-- if c: (always) -/
theorem xs_yes {a b : List Stmt} (hc : XT M Γ Rs X c (Is true)) (h : XS M Γ Rs X Z0 Z Hl { D with nx := wpB X rest D } a) : XS M Γ Rs X Z0 Z Hl D (.If c a b pos :: rest) := xs_if hc (fun _ => h) fun q => Bool.noConfusion q
end
end Lh
namespace Lh
open PySem L2
open Evl (Ex ex_l ex_t ex_rd fresh_back)
section
variable {M : Addr → Prop} {Γ Γ' : Ct} {Rs : List Res} {X : Cx} {Z0 Z Hl : Hp} {D : Ends} {K : PySem.W.Frag} {rest : List Stmt} {a b c e : Expr} {es : List Expr} {pos p : Pos}
/-- x, y, z = [], b, c : a list that will grow, two values -/
theorem xs_par3L (i j l : Nat) {x y z : Str} {Q R : Pd} {px py pz pt pl : Pos} {kt k2 pt2} (hb : ∀ q, XE M Γ (Res.lst Z q [] :: Rs) X b Q) (hd : ∀ q, XE M Γ (Res.lst Z q [] :: Rs) X c R) (h : ∀ q, XS M (((Γ.set i (some (PV (.ref q)))).set j (some Q)).set l (some R)) (Res.lst Z q [] :: Rs) X Z0 Z Hl D rest) (hN : X.N.Nodup) (hc : X.calm = true := by rfl) (hi : X.N[i]? = some x := by rfl) (hj : X.N[j]? = some y := by rfl) (hl : X.N[l]? = some z := by rfl)
    (hij : i ≠ j := by decide) (hil : i ≠ l := by decide) (hjl : j ≠ l := by decide) (hx : X.env.scope.names.lookup x = some .local := by rfl) (hy : X.env.scope.names.lookup y = some .local := by rfl) (hz : X.env.scope.names.lookup z = some .local := by rfl)
    (hw : swappedStores [.Tuple [.Name x px, .Name y py, .Name z pz] kt pt] (.Tuple [.List [] pl, b, c] k2 pt2) X.env = pure (some [x, y, z]) := by rfl) (hs : swapsWithSole [.Tuple [.Name x px, .Name y py, .Name z pz] kt pt] (.Tuple [.List [] pl, b, c] k2 pt2) pos.line X.env = pure false := by rfl)
    (he : starEach [.List [] pl, b, c] X.env = (false, eval (.List [] pl) X.env) :: starEach [b, c] X.env := by rfl) (he2 : starEach [b, c] X.env = (false, eval b X.env) :: starEach [c] X.env := by rfl) (he3 : starEach [c] X.env = (false, eval c X.env) :: starEach [] X.env := by rfl) :
    XS M Γ Rs X Z0 Z Hl D (.Assign [.Tuple [.Name x px, .Name y py, .Name z pz] kt pt] (.Tuple [.List [] pl, b, c] k2 pt2) pos :: rest) :=
  xs_cons (ps_par3 hc hN hi hj hl hij hil hjl hx hy hz (pa_cons (pe_lst pa_nil) (pa_cons pe_wp (pa_cons pe_wp pa_nil he3) he2) he) hw hs) fun σ H0 H l' s b' k => ⟨by decide, fun q hq => by
    obtain ⟨t, k1⟩ := new_lst s k hq DAll.nil
    refine hb q σ H0 _ l' t.le k1 _ fun v H1 G1 s1 k2 a1 => ?_
    refine hd q σ H1 G1 (l'.ex s1.ex) s1.le k2 _ fun u H2 G2 s2 k3 a2 => ?_
    exact ⟨.ref q, v, u, rfl, h q _ H2 G2 ((((l'.ex (s1.ex.trans s2.ex)).set (P := PV (.ref q)) rfl).set (P := Q) (Q.m s2.ex a1)).set a2) ((t.trans s1).trans s2) (b'.trans (s1.ex.trans s2.ex)) k3⟩⟩
/-- z = [elt for x, y in pairs] -/
theorem xs_mapPr {τ : Type} (f1 f2 : τ → PyData) (ps : List τ) (n i0 j0 : Nat) (hij : i0 ≠ j0) {x y z : Str} {elt iter : Expr} {scope : Scope} {xp yp tp zp spos : Pos} {kt : Nat} (h : τ → PyData) (hi : XI M Γ Rs X (.Tuple [.Name x xp, .Name y yp] kt tp) iter ((ps.map fun z => PyData.tuple [f1 z, f2 z]).map (PD X.K)))
    (ht : ∀ z ∈ ps, Blk X scope fun Y => XE M (blkP Γ i0 j0 (PD X.K (f1 z)) (PD X.K (f2 z))) Rs Y elt (PD X.K (h z)))
    (k : XS M (Γ.set n (some (PD X.K (.list (ps.map h))))) Rs X Z0 Z Hl D rest) (hN : X.N.Nodup)
    (ok : BlkOk X.N X.env.scope scope [(x, i0), (y, j0)]) (hz : ps.length ≤ 100000) (cv : Cov M Rs) (hg : ∀ (s : Shared) (H : Hp) (C : Addr) (cl : List (Str × Addr)) (fp : List Addr), PG (X.blk s H scope (compEnvC scope cl C X.env) fp) (.Tuple [.Name x xp, .Name y yp] kt tp) (gTup X.K 2 (gCons (gName i0) (gCons (gName j0) gNil))))
    (hsw : swapsWith (.ListComp elt [⟨.Tuple [.Name x xp, .Name y yp] kt tp, iter, [], 0⟩] scope pos) (some (.Name z zp)) spos.line X.env = pure true) (hy : X.N[n]? = some z := by rfl) (hyl : X.env.scope.names.lookup z = some .local := by rfl)
    (hc : X.calm = true := by rfl) (hs : ∀ x, foldedSetIterable iter X.env x = pure x := by intro _; rfl) : XS M Γ Rs X Z0 Z Hl D (.Assign [.Name z zp] (.ListComp elt [⟨.Tuple [.Name x xp, .Name y yp] kt tp, iter, [], 0⟩] scope pos) spos :: rest) := by
  refine xs_asgT (ps_setLc (own := [(x, i0), (y, j0)]) hc hN hy hyl hsw pi_wp ok hg (fun s H C cl fp => pts_nil) blk_ok hs) (ye_lcP (K := X.K) hij hi cv (by simpa using hz) (fun n ds => ds = (ps.take n).map h) rfl fun n Q hq => ?_) fun ds hR => ?_
  · rw [List.getElem?_map, List.getElem?_map] at hq
    obtain ⟨d, hd, rfl⟩ := Option.map_eq_some_iff.mp hq
    obtain ⟨w, hw, rfl⟩ := Option.map_eq_some_iff.mp hd
    have hm := List.mem_of_getElem? hw
    exact ⟨_, _, pd_pt2, _, yt_yes, fun _ => ye_blk fun s0 H0 C cl fp => YE.imp (ht w hm s0 H0 C cl fp) fun v H hv => ⟨h w, fun ds _ hR => by rw [hR, List.take_add_one, hw]; simp, hv⟩, fun hb => Bool.noConfusion hb⟩
  · have e : ds = ps.map h := by
      rw [hR.1, List.take_of_length_le (by simp)]
    subst e
    exact k
end
end Lh
/-! Tuples of any length taken apart, with names that may be captured further in. -/
namespace Lh
open PySem L2
open Evl (Ex ex_l ex_t ex_rd fresh_back)
def gNames : List Nat → TGs
  | [] => gNil
  | i :: is => gCons (gName i) (gNames is)
def setAll (Γ : Ct) : List Nat → List Pd → Ct
  | i :: is, P :: Ps => setAll (Γ.set i (some P)) is Ps
  | _, _ => Γ
theorem gv_names : ∀ {is : List Nat} {Ps : List Pd} {Γ : Ct} {xs : List V} {σ : L2.St} {H0 H : Hp} {R : L2.St → Hp → Prop}, is.length = Ps.length → DAll Ps xs H0 → Sl Γ σ H0 → (∀ σ', Sl (setAll Γ is Ps) σ' H0 → R σ' H) → gNames is xs σ H R
  | [], [], Γ, xs, σ, H0, H, R, _, hd, l, r => ⟨hd.nil_inv, r σ l⟩
  | [], _ :: _, _, _, _, _, _, _, hl, _, _, _ => by cases hl
  | _ :: _, [], _, _, _, _, _, _, hl, _, _, _ => by cases hl
  | i :: is, P :: Ps, Γ, xs, σ, H0, H, R, hl, hd, l, r => by
    obtain ⟨x, w, e, h1, h2⟩ := hd.inv
    subst e
    exact ⟨x, w, rfl, gv_names (by simpa using hl) h2 (l.set h1) r⟩
section
variable {M : Addr → Prop} {Γ Γ' : Ct} {Rs : List Res} {X : Cx} {Z0 Z Hl : Hp} {D : Ends} {K : PySem.W.Frag} {rest : List Stmt} {a b c e : Expr} {es ts : List Expr} {pos p : Pos}
/-- x, y, .. = e, e a tuple (a written one too, where a name of it is captured) -/
theorem xs_unpN (is : List Nat) {Ps : List Pd} {kt : Nat} {pt : Pos} (he : XE M Γ Rs X e (PTs X.K Ps)) (h : XS M (setAll Γ is Ps) Rs X Z0 Z Hl D rest) (hg : PGs X ts (gNames is)) (hl : is.length = Ps.length := by rfl) (hc : X.calm = true := by rfl)
    (hn : (assignEach ts X.env).length = is.length := by rfl) (hst : (assignEach ts X.env).findIdx? (·.1) = none := by rfl)
    (hs : swapsWithSole [.Tuple ts kt pt] e pos.line X.env = pure false := by rfl) (hw : swappedStores [.Tuple ts kt pt] e X.env = pure none := by rfl)
    (h1 : (assignEach [.Tuple ts kt pt] X.env).map (·.2) = [assign (.Tuple ts kt pt) X.env] := by rfl) : XS M Γ Rs X Z0 Z Hl D (.Assign [.Tuple ts kt pt] e pos :: rest) :=
  xs_cons (ps_asg pe_wp (pg_tup (n := is.length) hc hg hn hst) hs hw h1) fun σ H0 H l s b r => he σ H0 H l s.le r _ fun v H1 G1 s1 k1 ⟨t, xs, ev, ht, hd⟩ =>
    ⟨t, xs, ev, ex_t s1.le ht, by rw [hd.1, hl], gv_names hl hd (l.ex s1.ex) fun σ' l' => h σ' H1 G1 l' (s.trans s1) (b.trans s1.ex) k1⟩
theorem pgN_nil : PGs X [] (gNames []) := pgs_nil
theorem pgN_cons {i : Nat} {x : Str} {px : Pos} {is : List Nat} (h : PGs X ts (gNames is)) (hN : X.N.Nodup) (hi : X.N[i]? = some x := by rfl) (hx : Loc X.env.scope x := by first | exact Or.inl rfl | exact Or.inr rfl)
    (hf : X.fn x = true ∨ X.env.scope.names.lookup x = some .local := by first | exact .inl rfl | exact .inr rfl)
    (hs : (assignEach (.Name x px :: ts) X.env).map (·.2) = assign (.Name x px) X.env :: (assignEach ts X.env).map (·.2) := by rfl) : PGs X (.Name x px :: ts) (gNames (i :: is)) := pgs_cons (pg_name hN hi hx hf) h hs
/-- a tuple of data as a tuple of things -/
theorem pts_of : ∀ {ds : List PyData} {v : V} {H : Hp}, (PD K (.tuple ds)).p v H → (PTs K (ds.map (PD K))).p v H := fun {ds v H} ⟨a, xs, e, h1, h2⟩ => ⟨a, xs, e, h1, h2.da⟩
theorem xe_pts {ds : List PyData} (h : XE M Γ Rs X e (PD X.K (.tuple ds))) : XE M Γ Rs X e (PTs X.K (ds.map (PD X.K))) := h.imp fun _ _ => pts_of
end
end Lh
/-! Texts of errors; errors made and raised; promises of defs that raise. -/
namespace LhX
open PySem L2 PySem.W PyProof.Rows PySem.Calls Lh
open Evl (Ex ex_l ex_t ex_rd fresh_back)
/-! ### f-strings: nothing is told of them but that they are short -/
def PShort (K : Frag) (n : Nat) : Pd := PEx (fun s : Str => s.length ≤ n) fun s => PD K (.str s)
theorem str_app_len (a b : Str) : (a ++ b).length = a.length + b.length := by
  show (a.cps ++ b.cps).size = _
  rw [Array.size_append]
  rfl
section
variable {M : Addr → Prop} {Γ : Ct} {Rs : List Res} {X : Cx} {K : Frag} {e : Expr} {es : List Expr} {pos : Pos}
theorem xe_fmtS {y : Str} (h : XE M Γ Rs X e (PD K (.str y))) (hz : y.length ≤ 2000) : XE M Γ Rs X (.FormattedValue e (-1) none pos) (PShort K 2000) :=
  YE.wp (pe_fmt pe_wp) fun σ H0 H l ex k Q q => h σ H0 H l ex k _ fun v H1 G1 s1 k1 hv => .inl ⟨y, hv, Nat.le_trans hz (by decide), q _ H1 G1 s1 k1 ⟨y, hz, rfl⟩⟩
theorem xe_fmtI {i : Int} (h : XE M Γ Rs X e (PD K (.int i))) (hz : i.natAbs.log2 < 1920) : XE M Γ Rs X (.FormattedValue e (-1) none pos) (PShort K 2000) :=
  YE.wp (pe_fmt pe_wp) fun σ H0 H l ex k Q q => h σ H0 H l ex k _ fun v H1 G1 s1 k1 hv => .inr ⟨i, hv, hz, q _ H1 G1 s1 k1 ⟨_, by
    have := int_text_length_le (k := 1920) (by decide) hz
    show (Str.ofString (toString i)).length ≤ 2000
    rw [PySem.ofString_length]
    omega, rfl⟩⟩
theorem xe_fmtC {x : Str} {j} (hz : x.length ≤ 2000) : XE M Γ Rs X (.Constant (.str x) j pos) (PShort K 2000) := YE.imp (xe_str (K := K)) fun v H h => ⟨x, hz, h⟩
/-- the parts -/
inductive XJ (M : Addr → Prop) (Γ : Ct) (Rs : List Res) (X : Cx) (K : Frag) : List Expr → Prop where
  | nil : XJ M Γ Rs X K []
  | cons {e : Expr} {es : List Expr} (h : XE M Γ Rs X e (PShort K 2000)) (r : XJ M Γ Rs X K es) : XJ M Γ Rs X K (e :: es)
theorem XJ.pj : ∀ {es : List Expr}, XJ M Γ Rs X K es → PJ X es (es.map fun e => wpE X e)
  | [], _ => .nil
  | _ :: _, .cons _ r => .cons pe_wp (XJ.pj r)
theorem XJ.run : ∀ {es : List Expr}, XJ M Γ Rs X K es → ∀ (acc : Str) (n : Nat), acc.length ≤ n → n + 2000 * es.length ≤ 100000 → ∀ (σ : L2.St) (H0 H : Hp), Sl Γ σ H0 → Ex H0 H → Rok Rs H0 H → ∀ Q : Str → Hp → Prop,
    (∀ out H0' H', Step M H0 H H0' H' → Rok Rs H0' H' → out.length ≤ n + 2000 * es.length → Q out H') → tJs (es.map fun e => wpE X e) acc σ H Q
  | [], _, acc, n, ha, hz, σ, H0, H, l, ex, k, Q, q => q acc H0 H (Step.rfl ex) k (by simpa using ha)
  | e :: es, .cons h r, acc, n, ha, hz, σ, H0, H, l, ex, k, Q, q => h σ H0 H l ex k _ fun v H1 G1 s1 k1 ⟨y, hy, hv⟩ => by
    have hz' : n + 2000 * (es.length + 1) ≤ 100000 := hz
    have hl : (acc ++ y).length ≤ n + 2000 := by
      rw [str_app_len]
      omega
    refine ⟨y, hv, ?_, XJ.run r (acc ++ y) (n + 2000) hl (by omega) σ H1 G1 (l.ex s1.ex) s1.le k1 Q fun out H2 G2 s2 k2 ho => q out H2 G2 (s1.trans s2) k2 ?_⟩
    · have : (100000 : Nat) ≤ sizeLine := by decide
      omega
    · show out.length ≤ n + 2000 * (es.length + 1)
      omega
theorem xe_joined {v1 v2 : Expr} {rest : List Expr} (h : XJ M Γ Rs X K (v1 :: v2 :: rest)) (hz : rest.length ≤ 40) : XE M Γ Rs X (.JoinedStr (v1 :: v2 :: rest) pos) (PShort K 100000) :=
  YE.wp (pe_joined h.pj) fun σ H0 H l ex k Q q => h.run Str.empty 0 (Nat.le_refl _) (by simp only [List.length_cons]; omega) σ H0 H l ex k _ fun out H1 G1 s1 k1 ho => q _ H1 G1 s1 k1 ⟨out, by simp only [List.length_cons] at ho; omega, rfl⟩
end
/-! ### what an error bears -/
/-- a field's value: a small int or a short text -/
inductive Fm : V → Prop where
  | int (i : Int) : i.natAbs.log2 < 1920 → Fm (.int i)
  | str (y : Str) : y.length ≤ 2000 → Fm (.str y)
def dOf : V → PyData
  | .int i => .int i
  | .str y => .str y
  | _ => .none
theorem Fm.dd {K : Frag} {v : V} {H : Hp} (h : Fm v) : (PD K (dOf v)).p v H := by
  cases h <;> rfl
theorem xe_fmtV {M : Addr → Prop} {Γ : Ct} {Rs : List Res} {X : Cx} {K : Frag} {e : Expr} {pos : Pos} {v : V} (hv : Fm v) (h : XE M Γ Rs X e (PD K (dOf v))) : XE M Γ Rs X (.FormattedValue e (-1) none pos) (PShort K 2000) := by
  cases hv with
  | int i hz => exact xe_fmtI h hz
  | str y hz => exact xe_fmtS h hz
/-- an error made: its object at a, its dict at dx -/
structure MadeE (H : Hp) (a C dx : Addr) (fs : List (Str × V)) (H2 : Hp) : Prop where
  obj : H2 a = some (exo a C (some dx))
  dct : H2 dx = some (exd dx fs)
  new : H dx = none
  old : ∀ b o, b ≠ a → H b = some o → H2 b = some o
abbrev spI1 (C : Addr) (k1 : Str) : Sp := fun vs H Q _ => ∃ (a : Addr) (v : V), vs = [.ref a, v] ∧ Fm v ∧ H a = some (exo a C none) ∧ ∀ dx H2, MadeE H a C dx [(k1, v)] H2 → Q .non H2
abbrev spI2 (C : Addr) (k1 k2 : Str) : Sp := fun vs H Q _ => ∃ (a : Addr) (v1 v2 : V), vs = [.ref a, v1, v2] ∧ Fm v1 ∧ Fm v2 ∧ H a = some (exo a C none) ∧ ∀ dx H2, MadeE H a C dx [(k2, v2), (k1, v1)] H2 → Q .non H2
theorem made1 {H H1 H0 H0' : Hp} {a C dx : Addr} {fs : List (Str × V)} (s : Step M0 H0 H H0' H1) (n : H1 dx = none) (ne : dx ≠ a) : MadeE H a C dx fs (upd (upd H1 dx (exd dx fs)) a (exo a C (some dx))) where
  obj := upd_same
  dct := by rw [upd_ne ne, upd_same]
  new := by
    cases e : H dx with
    | none => rfl
    | some o =>
      obtain ⟨o', h⟩ := s.th dx o e
      rw [n] at h
      cases h
  old := fun b o hb h => by
    have h1 := s.un b o (fun z => z) h
    rw [upd_ne hb, upd_ne (ne_of_none h1 n)]
    exact h1
theorem made2 {H H1 : Hp} {a C dx : Addr} {fs fs' : List (Str × V)} (h : MadeE H a C dx fs H1) (ne : dx ≠ a) : MadeE H a C dx fs' (upd H1 dx (exd dx fs')) where
  obj := by rw [upd_ne (Ne.symm ne)]; exact h.obj
  dct := upd_same
  new := h.new
  old := fun b o hb e => by rw [upd_ne (ne_of_none e h.new)]; exact h.old b o hb e
section
variable {P : Program} {w : World} {K : Frag} {mg : Str → Option Value} {base : Heap} {C f : Addr} {qual : Str} {st : Stmt} {fd : FuncData}
/-- def __init__(self, k1): super().__init__(msg); self.k1 = k1 -/
theorem ok_ini1 {k1 : Str} {msg : Expr} {p0 p1 p2 p3 p4 q1 q2 q3 q4 : Pos} (T : SupD P K mg C qual st f fd) (S : SupS ["self", k1] st) (hf : PySem.W.findIn K (.ref C) k1 = some none)
    (hst : defBody st = [.Expr (.Call (.Attribute (.Call (.Name "super" p0) [] [] p1) "__init__" p2) [msg] [] p3) p4, .Assign [.Attribute (.Name "self" q1) k1 q2] (.Name k1 q3) q4])
    (hmsg : ∀ (a : Addr) (v : V) (X : Cx), (∃ (cda cc : Addr) (A : Around) (outer : List Env) (s : Shared) (H : Hp) (E : XK), X = cxI L2.CX0 P w K mg base ["self", k1] (envI qual (defScope st) s.heap.objs.size f cda cc) A outer s H E) → Fm v → XE M0 [some (PV (.ref a)), some (PD K (dOf v))] [] X msg (PShort K 100000))
    (hps : ∀ X : Cx, (∃ (cda cc : Addr) (A : Around) (outer : List Env) (s : Shared) (H : Hp) (E : XK), X = cxI L2.CX0 P w K mg base ["self", k1] (envI qual (defScope st) s.heap.objs.size f cda cc) A outer s H E) →
      (PE X (.Name "self" q1) (tVar 0) ∧ PE X (.Name k1 q3) (tVar 1) ∧ swapsWith (.Name k1 q3) (some (.Attribute (.Name "self" q1) k1 q2)) q4.line X.env = pure false) ∧
      ∃ pl : Sem Bool, interactive X.env = false ∧ swapsWith (.Call (.Attribute (.Call (.Name "super" p0) [] [] p1) "__init__" p2) [msg] [] p3) none p4.line X.env = pure false ∧
        eval (.Call (.Attribute (.Call (.Name "super" p0) [] [] p1) "__init__" p2) [msg] [] p3) X.env = (do
          let ov ← attributeBase (.Call (.Name "super" p0) [] [] p1) "__init__" X.env (eval (.Call (.Name "super" p0) [] [] p1) X.env)
          standAt p2.atName
          let (f, first) ← holding [ov] (getMethod ov "__init__" pl)
          callWith p3 f first (backTo p3 (starEach [msg] X.env)) []) ∧
        starEach [msg] X.env = (false, eval msg X.env) :: starEach [] X.env) : FnOk P w K mg base L2.CX0 2 f fd ["self", k1] (spI1 C k1) := by
  refine fn_sup T S hst (fun vs H Q E h => ?_) fun cda cc A outer s H vs Q E X hX hr h => ?_
  · obtain ⟨a, v, rfl, _⟩ := h
    rfl
  · obtain ⟨a, v, rfl, hv, ha, hq⟩ := h
    have hX' : ∃ (cda cc : Addr) (A : Around) (outer : List Env) (s : Shared) (H : Hp) (E : XK), X = cxI L2.CX0 P w K mg base ["self", k1] (envI qual (defScope st) s.heap.objs.size f cda cc) A outer s H E := ⟨cda, cc, A, outer, s, H, E, hX⟩
    obtain ⟨⟨h1, h2, h3⟩, pl, h4, h5, h6, h7⟩ := hps X hX'
    have eK : X.K = K := by rw [hX]; rfl
    refine ⟨a, wpA X [msg], _, pl, rfl, ha, pa_wp, pss_one (ps_ost h1 h2 h3), ?_, h4, h5, h6, h7, rfl⟩
    refine xa_1 (hmsg a v X hX' hv) h7 _ H H ?_ (Ex.refl _) Rok.nil _ fun ws G0 G s1 _ d1 => ⟨?_, s1.un _ _ (fun z => z) ha, ?_⟩
    · refine ⟨rfl, fun i P q => ?_⟩
      match i with
      | 0 =>
        have e : P = PV (.ref a) := (Option.some.inj (Option.some.inj q)).symm
        subst e
        exact ⟨.ref a, rfl, rfl⟩
      | 1 =>
        have e : P = PD K (dOf v) := (Option.some.inj (Option.some.inj q)).symm
        subst e
        exact ⟨v, rfl, hv.dd⟩
      | n + 2 => simp at q
    · rw [d1.1]
      simp
    · refine ⟨v, rfl, .ref a, rfl, a, C, rfl, by rw [eK]; exact T.oex, by rw [eK]; exact hf, .inl ⟨s1.un _ _ (fun z => z) ha, fun dx n ne => hq dx _ (made1 s1 n ne)⟩⟩
/-- def __init__(self, k1, k2): super().__init__(msg); self.k1 = k1; self.k2 = k2 -/
theorem ok_ini2 {k1 k2 : Str} {msg : Expr} {p0 p1 p2 p3 p4 q1 q2 q3 q4 r1 r2 r3 r4 : Pos} (T : SupD P K mg C qual st f fd) (S : SupS ["self", k1, k2] st) (hf1 : PySem.W.findIn K (.ref C) k1 = some none) (hf2 : PySem.W.findIn K (.ref C) k2 = some none)
    (hst : defBody st = [.Expr (.Call (.Attribute (.Call (.Name "super" p0) [] [] p1) "__init__" p2) [msg] [] p3) p4, .Assign [.Attribute (.Name "self" q1) k1 q2] (.Name k1 q3) q4, .Assign [.Attribute (.Name "self" r1) k2 r2] (.Name k2 r3) r4])
    (hmsg : ∀ (a : Addr) (v1 v2 : V) (X : Cx), (∃ (cda cc : Addr) (A : Around) (outer : List Env) (s : Shared) (H : Hp) (E : XK), X = cxI L2.CX0 P w K mg base ["self", k1, k2] (envI qual (defScope st) s.heap.objs.size f cda cc) A outer s H E) → Fm v1 → Fm v2 → XE M0 [some (PV (.ref a)), some (PD K (dOf v1)), some (PD K (dOf v2))] [] X msg (PShort K 100000))
    (hps : ∀ X : Cx, (∃ (cda cc : Addr) (A : Around) (outer : List Env) (s : Shared) (H : Hp) (E : XK), X = cxI L2.CX0 P w K mg base ["self", k1, k2] (envI qual (defScope st) s.heap.objs.size f cda cc) A outer s H E) →
      (PE X (.Name "self" q1) (tVar 0) ∧ PE X (.Name k1 q3) (tVar 1) ∧ swapsWith (.Name k1 q3) (some (.Attribute (.Name "self" q1) k1 q2)) q4.line X.env = pure false ∧
        PE X (.Name "self" r1) (tVar 0) ∧ PE X (.Name k2 r3) (tVar 2) ∧ swapsWith (.Name k2 r3) (some (.Attribute (.Name "self" r1) k2 r2)) r4.line X.env = pure false) ∧
      ∃ pl : Sem Bool, interactive X.env = false ∧ swapsWith (.Call (.Attribute (.Call (.Name "super" p0) [] [] p1) "__init__" p2) [msg] [] p3) none p4.line X.env = pure false ∧
        eval (.Call (.Attribute (.Call (.Name "super" p0) [] [] p1) "__init__" p2) [msg] [] p3) X.env = (do
          let ov ← attributeBase (.Call (.Name "super" p0) [] [] p1) "__init__" X.env (eval (.Call (.Name "super" p0) [] [] p1) X.env)
          standAt p2.atName
          let (f, first) ← holding [ov] (getMethod ov "__init__" pl)
          callWith p3 f first (backTo p3 (starEach [msg] X.env)) []) ∧
        starEach [msg] X.env = (false, eval msg X.env) :: starEach [] X.env) : FnOk P w K mg base L2.CX0 2 f fd ["self", k1, k2] (spI2 C k1 k2) := by
  refine fn_sup T S hst (fun vs H Q E h => ?_) fun cda cc A outer s H vs Q E X hX hr h => ?_
  · obtain ⟨a, v1, v2, rfl, _⟩ := h
    rfl
  · obtain ⟨a, v1, v2, rfl, hv1, hv2, ha, hq⟩ := h
    have hX' : ∃ (cda cc : Addr) (A : Around) (outer : List Env) (s : Shared) (H : Hp) (E : XK), X = cxI L2.CX0 P w K mg base ["self", k1, k2] (envI qual (defScope st) s.heap.objs.size f cda cc) A outer s H E := ⟨cda, cc, A, outer, s, H, E, hX⟩
    obtain ⟨⟨h1, h2, h3, g1, g2, g3⟩, pl, h4, h5, h6, h7⟩ := hps X hX'
    have eK : X.K = K := by rw [hX]; rfl
    refine ⟨a, wpA X [msg], _, pl, rfl, ha, pa_wp, pss_cons (ps_ost h1 h2 h3) (pss_one (ps_ost g1 g2 g3)), ?_, h4, h5, h6, h7, rfl⟩
    refine xa_1 (hmsg a v1 v2 X hX' hv1 hv2) h7 _ H H ?_ (Ex.refl _) Rok.nil _ fun ws G0 G s1 _ d1 => ⟨?_, s1.un _ _ (fun z => z) ha, ?_⟩
    · refine ⟨rfl, fun i P q => ?_⟩
      match i with
      | 0 =>
        have e : P = PV (.ref a) := (Option.some.inj (Option.some.inj q)).symm
        subst e
        exact ⟨.ref a, rfl, rfl⟩
      | 1 =>
        have e : P = PD K (dOf v1) := (Option.some.inj (Option.some.inj q)).symm
        subst e
        exact ⟨v1, rfl, hv1.dd⟩
      | 2 =>
        have e : P = PD K (dOf v2) := (Option.some.inj (Option.some.inj q)).symm
        subst e
        exact ⟨v2, rfl, hv2.dd⟩
      | n + 3 => simp at q
    · rw [d1.1]
      simp
    · refine ⟨v1, rfl, .ref a, rfl, a, C, rfl, by rw [eK]; exact T.oex, by rw [eK]; exact hf1, .inl ⟨s1.un _ _ (fun z => z) ha, fun dx n ne => ?_⟩⟩
      have m1 : MadeE H a C dx [(k1, v1)] _ := made1 s1 n ne
      exact ⟨v2, rfl, .ref a, rfl, a, C, rfl, by rw [eK]; exact T.oex, by rw [eK]; exact hf2, .inr ⟨dx, [(k1, v1)], m1.obj, m1.dct, by simp, hq dx _ (made2 m1 ne)⟩⟩
end
end LhX
/-! Raising: errors made and raised, promises of defs that raise, calls that raise. -/
namespace LhX
open PySem L2 PySem.W PyProof.Rows PySem.Calls Lh
open Evl (Ex ex_l ex_t ex_rd fresh_back)
/-- an error of the class at C with these fields -/
def ErrIs (C : Addr) (fs : List (Str × V)) : XK := fun cls d H => cls = .ref C ∧ ((fs = [] ∧ d = none) ∨ ∃ dd, d = some dd ∧ H dd = some (.xd fs))
theorem ErrIs.ex {C : Addr} {fs : List (Str × V)} {cls : Value} {d : Option Addr} {H H' : Hp} (e : Ex H H') (h : ErrIs C fs cls d H) : ErrIs C fs cls d H' := ⟨h.1, h.2.imp id fun ⟨dd, h1, h2⟩ => ⟨dd, h1, e _ _ h2⟩⟩
/-- a new object that stays, within a heap that grew -/
theorem step_grow {M : Addr → Prop} {H0 H H' : Hp} {p : Addr} {o : HO} (e : Ex H0 H) (k : ∀ b u, H b = some u → H' b = some u) (n : H p = none) (hp : H' p = some o) : Lh.Step M H0 H (upd H0 p o) H' where
  un := fun a u _ h => k a u h
  th := fun a u h => ⟨u, k a u h⟩
  ex := Ex.new (fresh_back e n)
  le := fun a u h => by
    by_cases ha : a = p
    · subst ha
      rw [upd_same] at h
      rw [hp]
      exact h
    · rw [upd_ne ha] at h
      exact k a u (e a u h)
  nw := fun a u h => by
    by_cases ha : a = p
    · subst ha
      exact .inr n
    · rw [upd_ne ha] at h
      exact .inl h
section
variable {X : Cx} {x : Str} {e : Expr} {es : List Expr} {p pos : Pos} {C : Addr} {ta : TA}
/-- X(e, ..), a class over ValueError without __init__ -/
theorem pmk_plain {bmB : List Value} {B newId initId : String} (F : ExcBaseFacts B newId initId bmB) (q : excIn X.K C bmB newId = true) (gC : X.mg x = some (.ref C)) (kC : keepIn X.K (.ref C) = true) (r : Raises X (.ref C)) (hg : Gl X x) (ha : PA X (e :: es) ta)
    (hdb : (x == ("__debug__" : Str)) = false := by decide) (he : starEach (e :: es) X.env = (false, eval e X.env) :: starEach es X.env := by rfl) (hpl : (backTo pos (starEach es X.env)).any (·.1) = false := by rfl) :
    PMk X (.Call (.Name x p) (e :: es) [] pos) (fun σ H Q => ta σ H fun vs H1 => vs.length ≤ 1000 ∧ Q (.ref C) none H1) := by
  intro pins s σ H Q I h
  refine wpAny_Call_Name_kw (ld_glob I hg gC ?_ hdb)
  refine callWith_K (h₀ := X.base) I.ok.mod.kin kC (thn (ha.run pos pins s σ H _ I h) fun us s1 hh => ?_) he hpl
  obtain ⟨vs, H1, I1, r1, hz, hQ⟩ := hh
  refine ⟨I1.kIn, ?_⟩
  obtain ⟨bm, N, nm, qn, bs, hdct, sn, sub, ab, col, dd, k0, k1, k2, k3, k5, mN, hC, hN, hni, T⟩ := exc_obj I1.kIn q
  refine wpAny_call_exc_subT F T hC hN hni (fun h' a hm => ?_) (by
    show us.length ≤ sizeLine
    rw [← Paired.length r1, sizeLine_eq]
    omega)
  exact mk_of I1 hm r hQ (I1.hok.gone hm.new)
end
/-- a class of the program over ValueError -/
structure ErrC (K : Frag) (mg : Str → Option Value) (x : Str) (C : Addr) : Prop where
  gC : mg x = some (.ref C)
  kC : keepIn K (.ref C) = true
  ra1 : subIn K (.ref C) (.type "BaseException") = some true
  ra2 : typeIn K (.ref C) = some (.type "type")
/-- .. without __init__ -/
structure Err0 (K : Frag) (mg : Str → Option Value) (x : Str) (C : Addr) : Prop extends ErrC K mg x C where
  ex : excIn K C PySem.HandSPX.veTail "ValueError.__new__" = true
/-- .. with an __init__ of the program's -/
structure ErrI (P : Program) (w : World) (K : Frag) (mg : Str → Option Value) (base : Heap) (x : Str) (C fI : Addr) (fd : FuncData) (ps : List Str) (sp : Sp) : Prop extends ErrC K mg x C where
  oex : OexC K C
  iC : findIn K (.ref C) "__init__" = some (some (.ref fI))
  tI : typeIn K (.ref fI) = some (.type "function")
  ini : FnOk P w K mg base L2.CX0 2 fI fd ps sp
  bnd : Binds K fd ps []
section
variable {M : Addr → Prop} {Γ : Ct} {Rs : List Res} {X : Cx} {Z0 Z Hl : Hp} {D : Ends} {rest : List Stmt} {e : Expr} {es : List Expr} {p pos pos' : Pos} {C : Addr} {x : Str} {W : WX} {K : Frag} {mg : Str → Option Value}
/-- raise X(e, ..), X without __init__ -/
theorem xs_raise0 {Ps : List Pd} (T : Err0 K mg x C) (tk : Takes X W) (ha : XA M Γ Rs X (e :: es) Ps) (hz : Ps.length ≤ 1000) (hW : ∀ cls d σ H0 H, Lh.Step M Z0 Z H0 H → Rok Rs H0 H → ErrIs C [] cls d H0 → W cls d σ H) (hg : Gl X x := by rfl)
    (hdb : (x == ("__debug__" : Str)) = false := by decide) (he : starEach (e :: es) X.env = (false, eval e X.env) :: starEach es X.env := by rfl) (hpl : (backTo pos (starEach es X.env)).any (·.1) = false := by rfl) (hc : X.calm = true := by rfl) (eK : X.K = K := by rfl) (em : X.mg = mg := by rfl) :
    XS M Γ Rs X Z0 Z Hl D (.Raise (some (.Call (.Name x p) (e :: es) [] pos)) none pos' :: rest) := by
  subst eK em
  exact xs_cons (ps_raise hc tk (pmk_plain PySem.F.excBase_ValueError T.ex T.gC T.kC (raises_own T.ra1 T.ra2) hg pa_wp hdb he hpl)) fun σ H0 H l s b k => ha σ H0 H l s.le k _ fun vs H1 G1 s1 k1 a1 => ⟨by rw [a1.1]; exact hz, hW _ _ _ H1 G1 (s.trans s1) k1 ⟨rfl, .inl ⟨rfl, rfl⟩⟩⟩
theorem fm_of {K : Frag} {v u : V} {H : Hp} (hv : Fm v) (h : (PD K (dOf v)).p u H) : u = v := by
  cases hv <;> exact h
/-- the end of X(..): the error is in the air, its dict stays -/
theorem made_air {H0 H1 G1 H2 : Hp} {a dx : Addr} {fs : List (Str × V)} (e : Ex H1 G1) (ha : G1 a = none) (h : MadeE (upd G1 a (exo a C none)) a C dx fs H2) : dx ≠ a ∧ G1 dx = none ∧ Lh.Step M H1 G1 (upd H1 dx (.xd fs)) (upd (del H2 a) dx (.xd fs)) ∧ ErrIs C fs (.ref C) (some dx) (upd H1 dx (.xd fs)) := by
  have ne : dx ≠ a := fun z => by
    have := h.new
    rw [z, upd_same] at this
    cases this
  have n : G1 dx = none := by
    have := h.new
    rwa [upd_ne ne] at this
  refine ⟨ne, n, step_grow e (fun b u hb => ?_) n upd_same, rfl, .inr ⟨dx, rfl, upd_same⟩⟩
  have h1 : b ≠ dx := ne_of_none hb n
  have h2 : b ≠ a := ne_of_none hb ha
  rw [upd_ne h1, del_ne h2]
  exact h.old b u h2 (by rw [upd_ne h2]; exact hb)
/-- raise X(e), X with one field -/
theorem xs_raise1 {P' : Program} {w' : World} {base' : Heap} {fI : Addr} {fd : FuncData} {k1 : Str} {v : V} (T : ErrI P' w' K mg base' x C fI fd ["self", k1] (spI1 C k1)) (tk : Takes X W) (hr : Room 3 X.A) (hv : Fm v) (ha : XE M Γ Rs X e (PD K (dOf v)))
    (hW : ∀ cls d σ H0 H, Lh.Step M Z0 Z H0 H → Rok Rs H0 H → ErrIs C [(k1, v)] cls d H0 → W cls d σ H) (hg : Gl X x := by rfl)
    (hdb : (x == ("__debug__" : Str)) = false := by decide) (he : starEach [e] X.env = (false, eval e X.env) :: starEach [] X.env := by rfl) (hc : X.calm = true := by rfl) (eP : X.prog = P' := by rfl) (ew : X.w = w' := by rfl) (eK : X.K = K := by rfl) (em : X.mg = mg := by rfl) (eb : X.base = base' := by rfl) :
    XS M Γ Rs X Z0 Z Hl D (.Raise (some (.Call (.Name x p) [e] [] pos)) none pos' :: rest) := by
  subst eP ew eK em eb
  refine xs_cons (ps_raise hc tk (pmk_oex T.oex T.iC T.tI T.ini hr T.bnd (dvs := []) .nil pass0 hg T.gC pa_wp hdb he rfl)) fun σ H0 H l s b k => (xa_1 ha he) σ H0 H l s.le k _ fun vs H1 G1 s1 k1 a1 => ?_
  obtain ⟨u, w, e1, h1, h2⟩ := a1.inv
  have e2 := h2.nil_inv
  subst e1 e2
  have e3 := fm_of hv h1
  subst e3
  refine ⟨by simp, fun a na => ⟨a, u, rfl, hv, upd_same, fun dx H2 m => ?_⟩⟩
  obtain ⟨ne, n, st, er⟩ := made_air (M := M) (H0 := H1) s1.le na m
  exact ⟨rfl, dx, _, m.obj, m.dct, n, hW _ _ _ _ _ ((s.trans s1).trans st) (k1.step0 (made_air (M := M0) (H0 := H1) s1.le na m).2.2.1) er⟩
/-- raise X(e, f), X with two fields -/
theorem xs_raise2 {P' : Program} {w' : World} {base' : Heap} {fI : Addr} {fd : FuncData} {k1 k2 : Str} {v1 v2 : V} {e2 : Expr} (T : ErrI P' w' K mg base' x C fI fd ["self", k1, k2] (spI2 C k1 k2)) (tk : Takes X W) (hr : Room 3 X.A) (hv1 : Fm v1) (hv2 : Fm v2) (ha1 : XE M Γ Rs X e (PD K (dOf v1))) (ha2 : XE M Γ Rs X e2 (PD K (dOf v2)))
    (hW : ∀ cls d σ H0 H, Lh.Step M Z0 Z H0 H → Rok Rs H0 H → ErrIs C [(k2, v2), (k1, v1)] cls d H0 → W cls d σ H) (hg : Gl X x := by rfl)
    (hdb : (x == ("__debug__" : Str)) = false := by decide) (he : starEach [e, e2] X.env = (false, eval e X.env) :: starEach [e2] X.env := by rfl) (he2 : starEach [e2] X.env = (false, eval e2 X.env) :: starEach [] X.env := by rfl) (hpl : (backTo pos (starEach [e2] X.env)).any (·.1) = false := by rfl) (hc : X.calm = true := by rfl) (eP : X.prog = P' := by rfl) (ew : X.w = w' := by rfl) (eK : X.K = K := by rfl) (em : X.mg = mg := by rfl) (eb : X.base = base' := by rfl) :
    XS M Γ Rs X Z0 Z Hl D (.Raise (some (.Call (.Name x p) [e, e2] [] pos)) none pos' :: rest) := by
  subst eP ew eK em eb
  refine xs_cons (ps_raise hc tk (pmk_oex T.oex T.iC T.tI T.ini hr T.bnd (dvs := []) .nil pass0 hg T.gC pa_wp hdb he hpl)) fun σ H0 H l s b k => (xa_cons ha1 (xa_1 ha2 he2) he) σ H0 H l s.le k _ fun vs H1 G1 s1 k1 a1 => ?_
  obtain ⟨u, w, q1, h1, h2⟩ := a1.inv
  obtain ⟨u2, w2, q2, h3, h4⟩ := h2.inv
  have q3 := h4.nil_inv
  subst q1 q2 q3
  have e3 := fm_of hv1 h1
  have e4 := fm_of hv2 h3
  subst e3 e4
  refine ⟨by simp, fun a na => ⟨a, u, u2, rfl, hv1, hv2, upd_same, fun dx H2 m => ?_⟩⟩
  obtain ⟨ne, n, st, er⟩ := made_air (M := M) (H0 := H1) s1.le na m
  exact ⟨rfl, dx, _, m.obj, m.dct, n, hW _ _ _ _ _ ((s.trans s1).trans st) (k1.step0 (made_air (M := M0) (H0 := H1) s1.le na m).2.2.1) er⟩
end
/-! ### promises of defs that raise -/
/-- from things as pre tells: the error as exc tells -/
def SpX {α : Type} (pre : α → List Pd) (exc : α → XK) : Sp := fun vs H _ E => ∃ (y : α) (H0 : Hp), Ex H0 H ∧ DAll (pre y) vs H0 ∧ ∀ cls d H0' H', Lh.Step M0 H0 H H0' H' → exc y cls d H0' → E cls d H'
/-- .. of an __init__ -/
def SpIX {α : Type} (C : Addr) (pre : α → List Pd) (exc : α → XK) : Sp := fun vs H _ E => ∃ (y : α) (x dx : Addr) (H0 : Hp) (ws : List V), vs = .ref x :: ws ∧ Ex H0 H ∧ Rok [Res.ob C x dx []] H0 H ∧ DAll (pre y) ws H0 ∧ ∀ cls d H0' H', Lh.Step (MX x) H0 H H0' H' → exc y cls d H0' → E cls d H'
def noEnd : Ends := { nx := fun _ _ => False, rt := fun _ _ => False }
section
variable {K : Frag} {mg : Str → Option Value} {base : Heap} {P : Program} {w : World}
theorem fn_FX {α : Type} {pre : α → List Pd} {exc : α → XK} {x qual : Str} {st : Stmt} {f : Addr} {fd : FuncData} {N ps : List Str} {k : Nat} (F : Fun K x qual st f fd) (S : FnScope N ps (defScope st)) (len : ∀ y, (pre y).length = ps.length)
    (hb : ∀ (y : α) (Z0 Z : Hp) (E : XK) (X : Cx) (qX : ∃ (cdv : Value) (A : Around) (outer : List Env) (s : Shared), X = cxOf (L2.CX P w) P w K mg base N qual (defScope st) f cdv A outer s Z E ∧ Room k X.A), Takes X (fun cls d _ H => E cls d H) → PassesOwn (model X.prog X.w) X.A X.env X.xe → (∀ cls d H0' H', Lh.Step M0 Z0 Z H0' H' → exc y cls d H0' → E cls d H') →
      XS M0 (ctOf N (pre y)) [] X Z0 Z Z0 noEnd (defBody st)) : FnOk P w K mg base (L2.CX P w) (k + 1) f fd ps (SpX pre exc) := by
  obtain ⟨oc, od, kV, doc, pm, an, cdv, ct, osl, rfl, lk, hcd⟩ := F.ex
  refine fn_of lk hcd S (fun vs H Q E h => ?_) fun A outer s H vs Q E hr h => ?_
  · obtain ⟨y, H0, _, h, _⟩ := h
    rw [h.1, len]
  · obtain ⟨y, H0, e, h, q⟩ := h
    refine ⟨_, pss_wp, ?_⟩
    have z := hb y H0 H E _ ⟨cdv, A, outer, s, rfl, hr⟩ (takes_of rfl rfl rfl rfl) (passes_of rfl) q _ H0 H (sl_start h) (Step.rfl e) (Ex.refl _) Rok.nil
    exact fun pins s I => wpAny_mono (z pins s I) (fun fl s1 q => by
      cases fl with
      | next => obtain ⟨_, _, _, q⟩ := q; exact q.elim
      | brk => obtain ⟨_, _, _, q⟩ := q; exact q.elim
      | cont => obtain ⟨_, _, _, q⟩ := q; exact q.elim
      | ret u => obtain ⟨_, _, _, _, _, q⟩ := q; exact q.elim) fun _ _ z => z
end
end LhX
/-! Expressions that raise. -/
namespace LhX
open PySem L2 PySem.W PyProof.Rows PySem.Calls Lh
open Evl (Ex ex_l ex_t ex_rd fresh_back)
/-- a reading that ends in an error: Q is never asked -/
def YR (M : Addr → Prop) (Γ : Ct) (Rs : List Res) (Z0 Z : Hp) (t : TE) : Prop := ∀ (σ : L2.St) (H0 H : Hp), Sl Γ σ H0 → Lh.Step M Z0 Z H0 H → Rok Rs H0 H → ∀ Q : VK, t σ H Q
abbrev XR (M : Addr → Prop) (Γ : Ct) (Rs : List Res) (X : Cx) (Z0 Z : Hp) (e : Expr) : Prop := YR M Γ Rs Z0 Z (wpE X e)
def XAR (M : Addr → Prop) (Γ : Ct) (Rs : List Res) (X : Cx) (Z0 Z : Hp) (es : List Expr) : Prop := ∀ (σ : L2.St) (H0 H : Hp), Sl Γ σ H0 → Lh.Step M Z0 Z H0 H → Rok Rs H0 H → ∀ Q : List V → Hp → Prop, wpA X es σ H Q
section
variable {M : Addr → Prop} {Γ : Ct} {Rs : List Res} {X : Cx} {Z0 Z Hl : Hp} {D : Ends} {rest : List Stmt} {e : Expr} {es : List Expr} {p pos pos' : Pos} {C : Addr} {x : Str} {W : WX} {K : Frag} {mg : Str → Option Value}
/-! ### statements -/
theorem xs_retR (h : XR M Γ Rs X Z0 Z e) : XS M Γ Rs X Z0 Z Hl D (.Return (some e) pos :: rest) := xs_cons (ps_ret pe_wp) fun σ H0 H l s b k => h σ H0 H l s k _
theorem xs_exprR (h : XR M Γ Rs X Z0 Z e) (hs : swapsWith e none pos.line X.env = pure false := by rfl) : XS M Γ Rs X Z0 Z Hl D (.Expr e pos :: rest) := xs_cons (ps_expr pe_wp hs) fun σ H0 H l s b k => h σ H0 H l s k _
theorem xs_asgR (i : Nat) {y : Str} (h : XR M Γ Rs X Z0 Z e) (hN : X.N.Nodup) (hi : X.N[i]? = some y := by rfl) (hx : Loc X.env.scope y := by first | exact Or.inl rfl | exact Or.inr rfl)
    (hs : swapsWith e (some (.Name y pos')) pos.line X.env = pure false := by rfl) (hf : X.fn y = true ∨ X.env.scope.names.lookup y = some .local := by first | exact .inl rfl | exact .inr rfl) : XS M Γ Rs X Z0 Z Hl D (.Assign [.Name y pos'] e pos :: rest) :=
  xs_cons (ps_set hN hi hx pe_wp hs hf) fun σ H0 H l s b k => h σ H0 H l s k _
/-- x, y, .. = e -/
theorem xs_unpR (is : List Nat) {ts : List Expr} {kt : Nat} {pt : Pos} (he : XR M Γ Rs X Z0 Z e) (hg : PGs X ts (gNames is)) (hc : X.calm = true := by rfl)
    (hn : (assignEach ts X.env).length = is.length := by rfl) (hst : (assignEach ts X.env).findIdx? (·.1) = none := by rfl)
    (hs : swapsWithSole [.Tuple ts kt pt] e pos.line X.env = pure false := by rfl) (hw : swappedStores [.Tuple ts kt pt] e X.env = pure none := by rfl)
    (h1 : (assignEach [.Tuple ts kt pt] X.env).map (·.2) = [assign (.Tuple ts kt pt) X.env] := by rfl) : XS M Γ Rs X Z0 Z Hl D (.Assign [.Tuple ts kt pt] e pos :: rest) :=
  xs_cons (ps_asg pe_wp (pg_tup (n := is.length) hc hg hn hst) hs hw h1) fun σ H0 H l s b r => he σ H0 H l s r _
/-! ### arguments -/
theorem xar_here (h : XR M Γ Rs X Z0 Z e) (he : starEach (e :: es) X.env = (false, eval e X.env) :: starEach es X.env := by rfl) : XAR M Γ Rs X Z0 Z (e :: es) := fun σ H0 H l s k Q => PA.wp (pa_cons pe_wp pa_wp he) (h σ H0 H l s k _)
theorem xar_next {P : Pd} (h : XE M Γ Rs X e P) (hs : XAR M Γ Rs X Z0 Z es) (he : starEach (e :: es) X.env = (false, eval e X.env) :: starEach es X.env := by rfl) : XAR M Γ Rs X Z0 Z (e :: es) := fun σ H0 H l s k Q =>
  PA.wp (pa_cons pe_wp pa_wp he) (h σ H0 H l s.le k _ fun v H1 G1 s1 k1 _ => hs σ H1 G1 (l.ex s1.ex) (s.trans s1) k1 _)
/-- an argument of a call of a global name raises -/
theorem xr_argG {u : Value} (hm : X.mg x = some u) (hk : keepIn X.K u = true) (ha : XAR M Γ Rs X Z0 Z (e :: es)) (hg : Gl X x := by rfl) (hdb : (x == ("__debug__" : Str)) = false := by decide)
    (he : starEach (e :: es) X.env = (false, eval e X.env) :: starEach es X.env := by rfl) (hpl : (backTo pos (starEach es X.env)).any (·.1) = false := by rfl) : XR M Γ Rs X Z0 Z (.Call (.Name x p) (e :: es) [] pos) := fun σ H0 H l s k Q pins s0 I => by
  refine wpAny_Call_Name_kw (ld_glob I hg hm ?_ hdb)
  exact callWith_K (h₀ := X.base) I.ok.mod.kin hk (wpAny_mono (ha σ H0 H l s k (fun _ _ => False) pos pins s0 I) (fun us s1 hq => by
    obtain ⟨_, _, _, _, z⟩ := hq
    exact z.elim) fun _ _ z => z) he hpl
/-- .. of a built-in's name -/
theorem xr_argB {id : String} (hm : X.mg x = none) (hv : bootBuiltins x = some (.builtin id)) (ha : XAR M Γ Rs X Z0 Z (e :: es)) (hg : Gl X x := by rfl) (hn : x ≠ "__name__" := by decide) (hdb : (x == ("__debug__" : Str)) = false := by decide)
    (he : starEach (e :: es) X.env = (false, eval e X.env) :: starEach es X.env := by rfl) (hpl : (backTo pos (starEach es X.env)).any (·.1) = false := by rfl) : XR M Γ Rs X Z0 Z (.Call (.Name x p) (e :: es) [] pos) := fun σ H0 H l s k Q => by
  exact PE.wp (pe_callB (r := fun _ _ _ => False) (fun _ _ _ _ _ _ _ _ _ z => z.elim) hg hm hv pa_wp hn hdb he hpl) (ha σ H0 H l s k _)
theorem xr_argTy {T : String} (hm : X.mg x = none) (hv : bootBuiltins x = some (.type T)) (ha : XAR M Γ Rs X Z0 Z (e :: es)) (hg : Gl X x := by rfl) (hn : x ≠ "__name__" := by decide) (hdb : (x == ("__debug__" : Str)) = false := by decide)
    (he : starEach (e :: es) X.env = (false, eval e X.env) :: starEach es X.env := by rfl) (hpl : (backTo pos (starEach es X.env)).any (·.1) = false := by rfl) : XR M Γ Rs X Z0 Z (.Call (.Name x p) (e :: es) [] pos) := fun σ H0 H l s k Q => by
  exact PE.wp (pe_callTy (r := fun _ _ _ => False) (fun _ _ _ _ _ _ _ _ _ z => z.elim) hg hm hv pa_wp hn hdb he hpl) (ha σ H0 H l s k _)
/-- a comprehension whose first iterable raises -/
theorem xr_lc {elt tg iter : Expr} {ifs : List Expr} {scope : Scope} {own : List (Str × Nat)} {g : TG} (h : XR M Γ Rs X Z0 Z iter) (hN : X.N.Nodup) (ok : BlkOk X.N X.env.scope scope own)
    (hg : ∀ (s : Shared) (H : Hp) (C : Addr) (cl : List (Str × Addr)) (fp : List Addr), PG (X.blk s H scope (compEnvC scope cl C X.env) fp) tg g)
    {tt : TT} (ht : ∀ (s : Shared) (H : Hp) (C : Addr) (cl : List (Str × Addr)) (fp : List Addr), PTs (X.blk s H scope (compEnvC scope cl C X.env) fp) ifs tt)
    {te : TE} (he : ∀ (s : Shared) (H : Hp) (C : Addr) (cl : List (Str × Addr)) (fp : List Addr), PE (X.blk s H scope (compEnvC scope cl C X.env) fp) elt te) (hc : X.calm = true := by rfl) (hs : ∀ x, foldedSetIterable iter X.env x = pure x := by intro _; rfl) :
    XR M Γ Rs X Z0 Z (.ListComp elt [⟨tg, iter, ifs, 0⟩] scope pos) := fun σ H0 H l s k Q =>
  PE.wp (pe_lc hc hN (pi_wp (X := X) (tg := tg) (iter := iter)) ok hg ht he hs) (show wpI X tg iter σ H _ from fun pins s0 I => wpAny_mono (h σ H0 H l s k (fun _ _ => False) pins s0 I) (fun u s1 hq => by
    obtain ⟨_, _, _, _, z⟩ := hq
    exact z.elim) fun _ _ z => z)
/-! ### calls -/
/-- a def that raises, called -/
theorem xr_call {P' : Program} {w' : World} {base' : Heap} {α : Type} {pre : α → List Pd} {exc : α → XK} {f : Addr} {fd : FuncData} {ps : List Str} {k : Nat} {Ps : List Pd} (F : FnOk P' w' K mg base' (L2.CX P' w') k f fd ps (SpX pre exc)) (hr : Room k X.A) (tk : Takes X W)
    (hm : mg x = some (.ref f)) (hk : keepIn K (.ref f) = true) (hb : Binds K fd ps []) (ha : XA M Γ Rs X (e :: es) Ps) (y : α) (hx : pre y = Ps) (hW : ∀ cls d σ H0 H, Lh.Step M Z0 Z H0 H → Rok Rs H0 H → exc y cls d H0 → W cls d σ H)
    (hg : Gl X x := by rfl) (hdb : (x == ("__debug__" : Str)) = false := by decide) (he : starEach (e :: es) X.env = (false, eval e X.env) :: starEach es X.env := by rfl) (hpl : (backTo pos (starEach es X.env)).any (·.1) = false := by rfl)
    (eP : X.prog = P' := by rfl) (ew : X.w = w' := by rfl) (eK : X.K = K := by rfl) (em : X.mg = mg := by rfl) (eb : X.base = base' := by rfl) : XR M Γ Rs X Z0 Z (.Call (.Name x p) (e :: es) [] pos) := by
  subst eP ew eK em eb hx
  refine fun σ H0 H l s k Q => PE.wp (pe_callS (E := WE W) F hr hg hm hk hb (fun σ => passAt tk σ) pa_wp hdb he hpl) (ha σ H0 H l s.le k _ fun vs H1 G1 s1 k1 a1 => ?_)
  exact ⟨y, H1, s1.le, a1, fun cls d H2 G2 s2 q => hW cls d σ H2 G2 ((s.trans s1).trans s2.of0) (k1.step0 s2) q⟩
/-- a method that raises; W asks nothing of the slots -/
theorem xr_meth {P' : Program} {w' : World} {base' : Heap} {α : Type} {pre : α → List Pd} {exc : α → XK} {E : XK} {o : Expr} {m : Str} {g : Addr} {fd : FuncData} {ps : List Str} {n : Nat} {apos : Pos} {pl : Sem Bool} {Ps : List Pd} {fs : List (Str × Pd)} (F : FnOk P' w' K mg base' (L2.CX P' w') n g fd ps (SpX pre exc)) (y : α)
    (h : XE M Γ Rs X o (PObj C fs)) (ha : XA M Γ Rs X (e :: es) Ps) (hy : pre y = PObj C fs :: Ps) (hnf : fs.lookup m = none) (hc : Cls K C) (hm : Meth K C m g) (hr : Room n X.A) (hb : Binds K fd ps []) (tk : Takes X (fun cls d _ H => E cls d H))
    (hW : ∀ cls d H0 H, Lh.Step M Z0 Z H0 H → Rok Rs H0 H → exc y cls d H0 → E cls d H)
    (hst : starEach (e :: es) X.env = (false, eval e X.env) :: starEach es X.env := by rfl) (hpl : (backTo pos (starEach es X.env)).any (·.1) = false := by rfl)
    (ht : eval (.Call (.Attribute o m apos) (e :: es) [] pos) X.env = (do
      let obj ← eval o X.env
      standAt apos.atName
      let (meth, self0) ← holding [obj] (getMethod obj m pl)
      callWith pos meth self0 (backTo pos (starEach (e :: es) X.env)) (backToKw pos (keywordEach [] X.env))) := by rfl) (eP : X.prog = P' := by rfl) (ew : X.w = w' := by rfl) (eK : X.K = K := by rfl) (em : X.mg = mg := by rfl) (eb : X.base = base' := by rfl) : XR M Γ Rs X Z0 Z (.Call (.Attribute o m apos) (e :: es) [] pos) := by
  subst eP ew eK em eb
  refine fun σ H0 H l s k Q => PE.wp (pe_meth (pl := pl) (E := E) pe_wp hc hm F hr hb (dvs := []) .nil (passes_call tk fun _ _ _ _ h => h) pa_wp hst hpl ht) (h σ H0 H l s.le k _ fun v H1 G1 s1 k1 hv => ?_)
  obtain ⟨a, dx, vs, h1, h2, h3⟩ := id hv
  refine ⟨a, dx, vs, h1, s1.le _ _ h2, (h3 m).2 hnf, ?_⟩
  refine ha σ H1 G1 (l.ex s1.ex) s1.le k1 _ fun ws H2 G2 s2 k2 hw => ?_
  refine ⟨y, H2, s2.le, ?_, fun cls d H3 G3 s3 q => hW cls d H3 G3 (((s.trans s1).trans s2).trans s3.of0) (k2.step0 s3) q⟩
  rw [hy, List.append_nil]
  exact DAll.cons ((PObj C fs).m s2.ex hv) hw
/-- C(e, ..) whose __init__ raises -/
theorem xr_make {P' : Program} {w' : World} {base' : Heap} {α : Type} {pre : α → List Pd} {exc : α → XK} {E : XK} {f : Addr} {fd : FuncData} {ps : List Str} {n : Nat} {Ps : List Pd} (MK : Mk K C f) (F : FnOk P' w' K mg base' (L2.CX P' w') n f fd ps (SpIX C pre exc)) (hr : Room (n + 1) X.A) (hm : mg x = some (.ref C)) (hb : Binds K fd ps []) (tk : Takes X (fun cls d _ H => E cls d H))
    (ha : XA M Γ Rs X (e :: es) Ps) (y : α) (hx : pre y = Ps) (hW : ∀ cls d H0 H, Lh.Step M Z0 Z H0 H → Rok Rs H0 H → exc y cls d H0 → E cls d H) (hg : Gl X x := by rfl) (hdb : (x == ("__debug__" : Str)) = false := by decide)
    (he : starEach (e :: es) X.env = (false, eval e X.env) :: starEach es X.env := by rfl)
    (hpl : (backTo pos (starEach es X.env)).any (·.1) = false := by rfl) (eP : X.prog = P' := by rfl) (ew : X.w = w' := by rfl) (eK : X.K = K := by rfl) (em : X.mg = mg := by rfl) (eb : X.base = base' := by rfl) : XR M Γ Rs X Z0 Z (.Call (.Name x p) (e :: es) [] pos) := by
  subst eP ew eK em eb hx
  refine fun σ H0 H l s k Q => PE.wp (pe_make (E := E) MK F hr hg hm hb (dvs := []) .nil (passes_call tk fun _ _ _ _ h => h) pa_wp hdb he hpl) (ha σ H0 H l s.le k _ fun vs H1 G1 s1 k1 a1 o dx ho hd hne => ?_)
  have old : ∀ {a : Addr} {u : HO}, G1 a = some u → a ≠ o ∧ a ≠ dx := fun {a u} h => ⟨ne_of_none h ho, ne_of_none h hd⟩
  have ks : ∀ {a : Addr} {u : HO}, G1 a = some u → upd (upd G1 dx (.own o)) o (.ins C dx []) a = some u := fun {a u} h => by
    rw [upd_ne (old h).1, upd_ne (old h).2]
    exact h
  refine ⟨y, o, dx, H1, vs, by rw [List.append_nil], fun a u h => ks (s1.le a u h), ⟨by simp [Res.ob], fun r hr => ?_⟩, a1, fun cls d H2 G2 s2 q => hW cls d H2 G2 ((s.trans s1).trans ?_) ?_ q⟩
  · have e1 : r = Res.ob C o dx [] := by simpa using hr
    subst e1
    exact ⟨fresh_back s1.le ho, [], upd_same, fun f => ⟨fun P z => (by cases z), fun _ => rfl⟩, Nat.le_refl _⟩
  · refine ⟨fun a u _ h => s2.un a u (fun z => (old h).1 z) (ks h), fun a u h => s2.th a u (ks h), s2.ex, s2.le, fun a u h => ?_⟩
    rcases s2.nw a u h with q | q
    · exact .inl q
    · refine .inr ?_
      cases z : G1 a with
      | none => rfl
      | some u' =>
        rw [ks z] at q
        cases q
  · have ne : ∀ r ∈ Rs, ∀ a ∈ r.ad, a ≠ o := fun r hr a ha e => by
      obtain ⟨⟨u, h⟩, _⟩ := r.tr (k1.2 r hr) a ha
      exact (old h).1 e
    have nd : ∀ r ∈ Rs, ∀ a ∈ r.ad, a ≠ dx := fun r hr a ha e => by
      obtain ⟨⟨u, h⟩, _⟩ := r.tr (k1.2 r hr) a ha
      exact (old h).2 e
    exact ((k1.wr nd).wr ne).step s2 fun r hr a ha hm => ne r hr a ha hm
end
/-! ### an __init__ that raises -/
section
variable {K : Frag} {mg : Str → Option Value} {base : Heap} {P : Program} {w : World}
theorem fn_IX {α : Type} {C : Addr} {pre : α → List Pd} {exc : α → XK} {x qual : Str} {st : Stmt} {f : Addr} {fd : FuncData} {N ps : List Str} {k : Nat} (F : Fun K x qual st f fd) (S : FnScope N ps (defScope st)) (len : ∀ y, (pre y).length + 1 = ps.length)
    (hb : ∀ (y : α) (o dx : Addr) (Z0 Z : Hp) (E : XK) (X : Cx) (qX : ∃ (cdv : Value) (A : Around) (outer : List Env) (s : Shared), X = cxOf (L2.CX P w) P w K mg base N qual (defScope st) f cdv A outer s Z E ∧ Room k X.A), Takes X (fun cls d _ H => E cls d H) → PassesOwn (model X.prog X.w) X.A X.env X.xe → (∃ u, Z o = some u) → (∀ cls d H0' H', Lh.Step (MX o) Z0 Z H0' H' → exc y cls d H0' → E cls d H') →
      XS (MX o) (ctOf N (PV (.ref o) :: pre y)) [Res.ob C o dx []] X Z0 Z Z0 noEnd (defBody st)) : FnOk P w K mg base (L2.CX P w) (k + 1) f fd ps (SpIX C pre exc) := by
  obtain ⟨oc, od, kV, doc, pm, an, cdv, ct, osl, rfl, lk, hcd⟩ := F.ex
  refine fn_of lk hcd S (fun vs H Q E h => ?_) fun A outer s H vs Q E hr h => ?_
  · obtain ⟨y, o, dx, H0, ws, rfl, _, _, h, _⟩ := h
    rw [List.length_cons, h.1, len]
  · obtain ⟨y, o, dx, H0, ws, rfl, e, r, h, q⟩ := h
    refine ⟨_, pss_wp, ?_⟩
    obtain ⟨_, vs', hq, _⟩ := r.2 _ List.mem_cons_self
    have z := hb y o dx H0 H E _ ⟨cdv, A, outer, s, rfl, hr⟩ (takes_of rfl rfl rfl rfl) (passes_of rfl) ⟨_, hq⟩ q _ H0 H (sl_start (DAll.cons (P := PV (.ref o)) rfl h)) (Lh.Step.rfl e) (Ex.refl _) r
    exact fun pins s I => wpAny_mono (z pins s I) (fun fl s1 q => by
      cases fl with
      | next => obtain ⟨_, _, _, q⟩ := q; exact q.elim
      | brk => obtain ⟨_, _, _, q⟩ := q; exact q.elim
      | cont => obtain ⟨_, _, _, q⟩ := q; exact q.elim
      | ret u => obtain ⟨_, _, _, _, _, q⟩ := q; exact q.elim) fun _ _ z => z
end
end LhX
/-! Within an except suite: the error's class, its fields; count and index of lists of data. -/
namespace LhX
open PySem L2 PySem.W PyProof.Rows PySem.Calls Lh
open Evl (Ex ex_l ex_t ex_rd fresh_back)
/-- the caught error: at a, its dict d -/
def PErr (a : Addr) (fs : List (Str × V)) (d : Option Addr) : Pd := ⟨fun v H => v = .ref a ∧ ((fs = [] ∧ d = none) ∨ ∃ dd, d = some dd ∧ H dd = some (.xd fs)), fun e ⟨h1, h2⟩ => ⟨h1, h2.imp id fun ⟨dd, q1, q2⟩ => ⟨dd, q1, e _ _ q2⟩⟩⟩
def rIsX (K : Frag) (D a : Addr) (d : Option Addr) : List V → Hp → VK → Prop := fun xs H Q => ∃ (c : V) (cv : Value) (b : Bool), xs = [.ref a, c] ∧ (d = none ∨ ∃ dd fs, d = some dd ∧ H dd = some (.xd fs)) ∧ (∀ u, RelV c u → u = cv) ∧ kitOne K (.ref D) cv = some b ∧ Q (.bl b) H
theorem call_isX {X : Cx} {a D : Addr} {oe : Obj} {d : Option Addr} {pn : List (Addr × Obj)} (C : ExcC X.K D) (hz : Zc (.ref D) d oe) (hf : ∃ vs, oe.data = .fields vs) : CallR (X.suite a ((a, oe) :: pn)) (.builtin "isinstance") (rIsX X.K D a d) := by
  intro pins s σ H xs us Q I r h
  obtain ⟨c, cv, b, rfl, hd, hcv, e, q⟩ := h
  cases r with
  | cons rx rr =>
    cases rr with
    | cons rt rr =>
      cases rr
      cases rx
      have ec := hcv _ rt
      subst ec
      obtain ⟨hget, _⟩ := I.pin (a, oe) (List.mem_append.mpr (.inl List.mem_cons_self))
      obtain ⟨vs, hv⟩ := hf
      have hcl : (clsIn X.K D).isSome = true := by
        obtain ⟨cd, hc, _⟩ := any_some C.hd
        rw [hc]
        rfl
      obtain ⟨od, J⟩ : ∃ od, InstAt s.heap a oe D od := by
        rcases hd with hd | ⟨dd, fs, hd, hx⟩
        · subst hd
          refine ⟨none, hget, hz.1, ?_, ?_⟩
          · unfold notCls
            rw [hv]
          · rw [hz.2]
            trivial
        · subst hd
          have hx' : ObjOk X.prog X.w H s.heap dd (.xd fs) := I.hok dd _ hx
          obtain ⟨u, hu⟩ := objOk_get hx'
          refine ⟨some u, hget, hz.1, ?_, ?_⟩
          · unfold notCls
            rw [hv]
          · rw [hz.2]
            exact hu
      exact kia_one (kitx_exc hcl C.hg C.hk C.hs C.ha C.hn C.ht C.hm) I.kIn J e (fun z => nomatch z) fun tk => ⟨.bl b, H, I.kept (t' := tk) fun _ _ z => z, rfl, q⟩
section
variable {M : Addr → Prop} {Γ : Ct} {Rs : List Res} {X : Cx} {a D : Addr} {oe : Obj} {d : Option Addr} {pn : List (Addr × Obj)} {fs : List (Str × V)} {o c : Expr} {p pos : Pos} {K : Frag}
/-- isinstance(error, c) -/
theorem xe_isX {cv : V} {u : Value} {b : Bool} (C : ExcC X.K D) (hz : Zc (.ref D) d oe) (hf : ∃ vs, oe.data = .fields vs) (hm : X.mg "isinstance" = none) (ho : XE M Γ Rs (X.suite a ((a, oe) :: pn)) o (PErr a fs d)) (hc : XE M Γ Rs (X.suite a ((a, oe) :: pn)) c (PV cv)) (hu : ∀ w, RelV cv w → w = u) (hk : kitOne X.K (.ref D) u = some b)
    (hg : Gl X "isinstance" := by rfl) (he : starEach [o, c] X.env = (false, eval o X.env) :: starEach [c] X.env := by rfl) (he2 : starEach [c] X.env = (false, eval c X.env) :: starEach [] X.env := by rfl) (hpl : (backTo pos (starEach [c] X.env)).any (·.1) = false := by rfl) :
    XE M Γ Rs (X.suite a ((a, oe) :: pn)) (.Call (.Name "isinstance" p) [o, c] [] pos) (PD K (.bool b)) :=
  xe_callB (call_isX C hz hf) hm (by decide +kernel) (xa_cons ho (xa_1 hc he2) he) (fun xs H0 H hx ex _ => by
    obtain ⟨v, r, e1, h1, h2⟩ := hx.inv
    obtain ⟨w, r', e2, h3, h4⟩ := h2.inv
    have e3 := h4.nil_inv
    subst e1 e2 e3
    obtain ⟨e4, h5⟩ := h1
    have e5 : w = cv := h3
    subst e4 e5
    exact fun Q q => ⟨w, u, b, rfl, h5.imp (fun z => z.2) fun ⟨dd, q1, q2⟩ => ⟨dd, fs, q1, ex _ _ q2⟩, hu, hk, q _ H0 H (Lh.Step.rfl ex) rfl⟩) hg (by decide) (by decide) he hpl
/-- error.f -/
theorem xe_xf {n : Str} {v : V} (T : XfC X.K D) (hno : findIn X.K (.ref D) n = some none) (hz : Zc (.ref D) d oe) (hf : ∃ vs, oe.data = .fields vs) (ho : XE M Γ Rs (X.suite a ((a, oe) :: pn)) o (PErr a fs d)) (hl : fs.lookup n = some v) (hne : fs ≠ [])
    (hv : Fm v) (hb : attributeBase o n X.env (eval o X.env) = eval o X.env := by rfl) : XE M Γ Rs (X.suite a ((a, oe) :: pn)) (.Attribute o n pos) (PD K (dOf v)) :=
  YE.wp (pe_xf (d := d) T hno hz hf pe_wp hb) fun σ H0 H l ex k Q q => ho σ H0 H l ex k _ fun x H1 G1 s1 k1 ⟨e1, h⟩ => by
    rcases h with ⟨z, _⟩ | ⟨dd, e2, h2⟩
    · exact absurd z hne
    · exact ⟨e1, rfl, dd, fs, v, e2, s1.le _ _ h2, hl, q v H1 G1 s1 k1 hv.dd⟩
end
/-! ### l.count(x), l.index(x) -/
section
variable {X : Cx}
def rCntD (K : Frag) : V → List V → Hp → VK → Prop := fun x xs H Q => ∃ (a : Addr) (y : V) (d : PyData) (ds : List PyData), x = V.ref a ∧ xs = [y] ∧ Dp K H (V.ref a) (.list ds) ∧ Dp K H y d ∧ SeqAt.shaped (.list ds) = true ∧ SeqAt.shaped d = true ∧ Q (.int ((ds.countP fun z => PyData.eqv z d : Nat) : Int)) H
theorem mt_countD (hu : X.A.units + 65 < cLine) : MtR X "list.count" (rCntD X.K) := by
  intro pins s σ H x xs v us Q I rx rxs h
  obtain ⟨a, y, d, ds, rfl, rfl, hl, hy, sl, sd, q⟩ := h
  cases rx
  obtain ⟨uy, rfl, ry⟩ := rxs.one
  obtain ⟨bs, r1⟩ := Dp.reads I d y uy hy ry
  have hxs : PyData.canLayAll0 ds = true := SeqAt.canLay_of_shaped sl
  have room : X.A.units + 1 + min (PyData.depthAll ds) d.depth < cLine := room_in_shaped sd hu
  cases hl with
  | lst hs ha =>
    obtain ⟨its, rv, ⟨⟨cls, dd, data, sls⟩, n, ho, hc, hdn, hdt⟩, hlen⟩ := I.list hs
    simp only at hc hdt
    subst hc hdt
    obtain ⟨as, h4⟩ := Dp.readsAll I ds _ its ha rv
    have hmap : its.map (SeqAt.readOf s.heap) = ds := SeqAt.readsAll_map ds its as hxs h4
    refine call_meets PySem.F.slot_list_count ⟨_, ho, rfl⟩ PySem.F.entry_list_count (PySem.F.args_list_count_2 _ _)
      (SeqAt.list_countAt a its.toArray n dd sls uy (fun u => PyData.eqv (SeqAt.readOf s.heap u) d)) ⟨ho, SeqAt.items_eqAt (vs := its.toArray) (show ReadsAll s.heap its.toArray.toList ds as from h4) r1 hxs (SeqAt.canLay_of_shaped sd) room, ?_⟩
    have e : its.toArray.toList.countP (fun u => PyData.eqv (SeqAt.readOf s.heap u) d) = ds.countP fun z => PyData.eqv z d := by
      rw [← hmap, List.countP_map]
      rfl
    rw [e]
    exact ⟨.int _, H, I.tok _, ⟨s.toks, rfl⟩, q⟩
end
section
variable {M : Addr → Prop} {Γ : Ct} {Rs : List Res} {X : Cx} {o e : Expr} {apos pos : Pos} {ds : List PyData} {d : PyData}
theorem xe_countD {n : Nat} (hu : X.A.units + 65 < cLine) (ho : XE M Γ Rs X o (PD X.K (.list ds))) (he : XE M Γ Rs X e (PD X.K d)) (hn : (ds.countP fun z => PyData.eqv z d) = n) (sl : SeqAt.shaped (.list ds) = true) (sd : SeqAt.shaped d = true)
    (hp : PE X (.Call (.Attribute o "count" apos) [e] [] pos) (tBM X.K "list" (rCntD X.K) (wpE X o) (tCons (wpE X e) tNil))) : XE M Γ Rs X (.Call (.Attribute o "count" apos) [e] [] pos) (PD X.K (.int (n : Nat))) :=
  YE.wp hp fun σ H0 H l ex k Q q => ho σ H0 H l ex k _ fun v H1 G1 s1 k1 ⟨a, xs, e1, h1, h2⟩ => by
    subst e1
    refine ⟨.inl ⟨rfl, _, SqL.of (s1.le _ _ h1)⟩, ?_⟩
    refine he σ H1 G1 (l.ex s1.ex) s1.le k1 _ fun u H2 G2 s2 k2 hu2 => ?_
    refine ⟨a, u, d, ds, rfl, rfl, Dd.dp (.list ds) _ ⟨a, xs, rfl, s2.le _ _ (s2.ex _ _ h1), DdAll.ex (s2.ex.trans s2.le) _ _ h2⟩, Dd.dp d u (Dd.ex s2.le d u hu2), sl, sd, ?_⟩
    rw [hn]
    exact q _ H2 G2 (s1.trans s2) k2 rfl
theorem xe_indexD {j : Nat} (ho : XE M Γ Rs X o (PD X.K (.list ds))) (he : XE M Γ Rs X e (PD X.K d)) (hj : ∃ z, ds[j]? = some z ∧ PyData.eqv z d = true) (hno : ∀ (m : Nat) (z : PyData), m < j → ds[m]? = some z → PyData.eqv z d = false) (sl : SeqAt.shaped (.list ds) = true) (sd : SeqAt.shaped d = true)
    (hp : PE X (.Call (.Attribute o "index" apos) [e] [] pos) (tBM X.K "list" (rIndexD X.K) (wpE X o) (tCons (wpE X e) tNil))) : XE M Γ Rs X (.Call (.Attribute o "index" apos) [e] [] pos) (PD X.K (.int (j : Nat))) :=
  YE.wp hp fun σ H0 H l ex k Q q => ho σ H0 H l ex k _ fun v H1 G1 s1 k1 ⟨a, xs, e1, h1, h2⟩ => by
    subst e1
    refine ⟨.inl ⟨rfl, _, SqL.of (s1.le _ _ h1)⟩, ?_⟩
    refine he σ H1 G1 (l.ex s1.ex) s1.le k1 _ fun u H2 G2 s2 k2 hu2 => ?_
    obtain ⟨z, hz, hzd⟩ := hj
    exact ⟨a, u, d, ds, j, z, rfl, rfl, Dd.dp (.list ds) _ ⟨a, xs, rfl, s2.le _ _ (s2.ex _ _ h1), DdAll.ex (s2.ex.trans s2.le) _ _ h2⟩, Dd.dp d u (Dd.ex s2.le d u hu2), sl, sd, hz, hzd, hno, q _ H2 G2 (s1.trans s2) k2 rfl⟩
end
end LhX
/-! x(lambda: body), where x tries what it got and tells of the error. -/
namespace LhX
open PySem L2 PySem.W PyProof.Rows PySem.Calls Lh LamX
open LhL (tabR Made Known made_step lam_new)
open Evl (Ex ex_l ex_t ex_rd fresh_back)
/-- the classes of a program over ValueError, by their names -/
structure Ers (K : Frag) (mg : Str → Option Value) (A : Str → Addr) (names : List Str) (L : Str) : Prop where
  gl : ∀ x ∈ names, mg x = some (.ref (A x))
  glL : mg L = some (.ref (A L))
  exc : ∀ x ∈ names, ExcC K (A x)
  xf : ∀ x ∈ names, XfC K (A x)
  exm : ∀ x ∈ names, exmOne K (.ref (A x)) (.ref (A L)) = some true
  kit : ∀ x ∈ names, ∀ y ∈ names, kitOne K (.ref (A x)) (.ref (A y)) = some (decide (x = y))
  kitV : ∀ x ∈ names, kitOne K (.ref (A x)) (.type "ValueError") = some true
/-- what a def makes of the thunk that it got: good: what it tells of an error (x, its fields); none: what of none -/
def TErr (K : Frag) (A : Str → Addr) (ok : Str → List (Str × V) → Prop) (ans : Str → List (Str × V) → PyData) (back : VK → V → Hp → Prop) : (XK → Hp → VK → Prop) → Hp → VK → Prop := fun tl H Q => ∀ Qb : VK, (∀ v H', back Q v H' → Qb v H') →
  tl (fun cls d H' => ∃ (x : Str) (fs : List (Str × V)) (H0' : Hp), Ex H0' H' ∧ ok x fs ∧ ErrIs (A x) fs cls d H0' ∧ ∀ v G0 G, Lh.Step M0 H0' H' G0 G → (PD K (ans x fs)).p v G0 → Q v G) H Qb
/-- a lambda's frame -/
def IsLam (X : Cx) (scope : Scope) (E : XK) (k : Nat) (Y : Cx) : Prop := ∃ (A : Around) (outer : List Env) (s : Shared) (H : Hp) (f c' : Addr), Y = lamCx X A outer s H E scope f c' ∧ Room k Y.A
/-- the lambda's reading: whatever frame it gets -/
def tLamb (X : Cx) (scope : Scope) (body : Expr) (k : Nat) (E : XK) : TE := fun σ H Q => ∀ Y, IsLam X scope E k Y → wpE Y body σ H Q
section
variable {M : Addr → Prop} {Γ : Ct} {Rs : List Res} {X : Cx} {K : Frag}
/-- x(lambda: body) -/
theorem xe_thunk {q0 : Str} {P : Addr} {x a : Str} {g c : Addr} {k : Nat} {pg : Arguments} {bg : List Stmt} {sg : Scope} {dV kV doc pm cdv ct oc : Value} {an od : Option Addr} {osl : Array (Option Value)} {Ng : List Str} {params : Arguments} {body : Expr} {scope : Scope} {p lpos pos : Pos} {TT : (XK → Hp → VK → Prop) → Hp → VK → Prop} {T : Pd}
    (hm : X.mg x = some (.ref g)) (hk : keepIn X.K (.ref g) = true) (lk : X.K.lookup g = some ⟨oc, od, .func (fnOf x x pg bg sg dV kV doc pm an cdv ct), osl⟩) (hcg : codeIn X.K cdv x = true) (hb : L2.Binds X.K (fnOf x x pg bg sg dV kV doc pm an cdv ct) [a] []) (Sg : FnScope Ng [a] sg) (hNg : Ng[0]? = some a) (hva : Vis sg a)
    (hG : GivesTo X Ng x sg g cdv bg a (X.env.qual ++ "<lambda>") TT) (TB : TabB X.base X.mg c P) (hcode : X.env.code = .ref c) (hq0 : X.env.qual ++ "<lambda>" = q0) (hM : M P) (hr : Room (k + 2) X.A) (L : LamS X.env.scope scope) (hdef : defaultsOf params X.env = ([], []))
    (hbind : ∀ (q : Str) (cl : List (Str × Addr)) (pm cv ctv : Value), bindArgs (kla_fn "<lambda>" q params body scope cl pm cv ctv) ⟨[], []⟩ = pure [])
    (hT : ∀ (σ : L2.St) (H0 H : Hp), Sl Γ σ H0 → Ex H0 H → Rok (tabR P q0 :: Rs) H0 H → ∀ Q : VK, (∀ v H0' H', Lh.Step M H0 H H0' H' → Rok (tabR P q0 :: Rs) H0' H' → T.p v H0' → Q v H') → TT (fun E H' Q' => tLamb X scope body k E σ H' Q') H Q)
    (hg : Gl X x := by rfl) (hdb : (x == ("__debug__" : Str)) = false := by decide) (hd : (a == ("__debug__" : Str)) = false := by decide) (hcd : (a == ("__classdict__" : Str)) = false := by decide) :
    XE M Γ (tabR P q0 :: Rs) X (.Call (.Name x p) [.Lambda params body scope lpos] [] pos) T := by
  subst hq0
  intro σ H0 H l ex rok Qf q pins s I
  refine wpAny_Call_Name_kw (ld_glob I hg hm ?_ hdb)
  refine callWith_K (h₀ := X.base) I.ok.mod.kin hk ?_ (by rfl) (by rfl)
  show wpAny _ _ (spliced ((false, eval (.Lambda params body scope lpos) X.env) :: backTo pos (starEach [] X.env))) _ _ s
  obtain ⟨kP, ps, gP, kn⟩ := rok.2 _ List.mem_cons_self
  have kn1 : Known H ps (X.env.qual ++ "<lambda>") := ⟨kn.1, fun pos cv h => by
    obtain ⟨c1, e1, e2⟩ := kn.2 pos cv h
    exact ⟨c1, e1, ex _ _ e2⟩⟩
  refine spliced_cons (lam_new I TB hcode gP kn1 hdef (L.has I.ok) fun f c' pm' ctv H1 z I1 made obf fpf hc' => ?_)
  obtain ⟨K1, t1, k1⟩ := made_step hM ex rok gP kn made
  have hfr : f ∉ frs X.stack := fun h => by
    rcases List.mem_cons.mp (I1.stkSub f h) with e | e
    · exact fpf.2.1 e
    · exact fpf.2.2.1 e
  refine spliced_nil ⟨I1.kIn, ?_⟩
  have rc : codeAny (model X.prog X.w) X.A (.call (.ref g) ⟨[.ref f], []⟩) (CR C8.CX0 X.stack X.prog X.w H1 z Qf C8.E0) z := by
    refine run_ofS (N := Ng) (ps := [a]) (us := [.ref f]) (vs := [.ref f]) lk hcg Sg hr I1.env0 (hb z [.ref f] I1.kIn rfl) (.cons rfl .nil) rfl fun hr' => ?_
    obtain ⟨t', ht', hq'⟩ := hG f c' z H1 Qf (fun E H' Q' => tLamb X scope body k E σ H' Q') (fun W pn xe E p1 p2 tk hW => pe_act (i := 0) I1 L obf fpf.1 hfr (hbind _ _ _ _ _) tk hW hr' (fun A outer s H hr2 => ⟨fun pins s2 σ2 H2 Q2 I2 h2 => h2 _ ⟨A, outer, s, H, f, c', rfl, hr2⟩ pins s2 I2⟩) hNg hva hd hcd) hc'
      (hT σ K1 H1 (l.ex t1.ex) t1.le k1 Qf fun v H0' H' s' k' p' => q v H0' H' (t1.trans s') k' p')
    exact ⟨t', ht'.nox, hq'⟩
  refine wpAny_call (codeAny_mono rc fun r s2 hq => ?_)
  cases r with
  | error e => exact (show False from hq).elim
  | ok fl =>
    cases fl with
    | ret u => exact I1.after hq
    | next => exact False.elim hq
    | brk => exact False.elim hq
    | cont => exact False.elim hq
/-- .. where the body raises (x, fs) -/
theorem t_raise {Rs' : List Res} {scope : Scope} {body : Expr} {k : Nat} {A : Str → Addr} {ok : Str → List (Str × V) → Prop} {ans : Str → List (Str × V) → PyData} {back : VK → V → Hp → Prop} {x : Str} {fs : List (Str × V)} (hok : ok x fs)
    (h : ∀ (E : XK) (Y : Cx) (Z0 Z : Hp), IsLam X scope E k Y → Takes Y (fun cls d _ H => E cls d H) → (∀ cls d H0' H', Lh.Step M Z0 Z H0' H' → Rok Rs' H0' H' → ErrIs (A x) fs cls d H0' → E cls d H') → XR M Γ Rs' Y Z0 Z body) :
    ∀ (σ : L2.St) (H0 H : Hp), Sl Γ σ H0 → Ex H0 H → Rok Rs' H0 H → ∀ Q : VK, (∀ v H0' H', Lh.Step M H0 H H0' H' → Rok Rs' H0' H' → (PD K (ans x fs)).p v H0' → Q v H') → TErr K A ok ans back (fun E H' Q' => tLamb X scope body k E σ H' Q') H Q := fun σ H0 H l e rk Q q Qb _ Y hY => by
  obtain ⟨A1, outer, s, H1, f, c', eY, hr⟩ := id hY
  exact h _ Y H0 H hY (by subst eY; exact takes_of rfl rfl rfl rfl) (fun cls d H0' H' s1 k1 er => ⟨x, fs, H0', s1.le, hok, er, fun v G0 G s2 hv => q v G0 G (s1.trans s2.of0) (k1.step0 s2) hv⟩) σ H0 H l (Lh.Step.rfl e) rk _
/-- .. where it raises nothing -/
theorem t_back {Rs' : List Res} {scope : Scope} {body : Expr} {k : Nat} {A : Str → Addr} {ok : Str → List (Str × V) → Prop} {ans : Str → List (Str × V) → PyData} {back : VK → V → Hp → Prop} {T T' : Pd} (hb : ∀ (Q : VK) (v : V) (H0 H : Hp), T.p v H0 → (∀ v', T'.p v' H0 → Q v' H) → back Q v H)
    (h : ∀ (E : XK) (Y : Cx), IsLam X scope E k Y → XE M Γ Rs' Y body T) :
    ∀ (σ : L2.St) (H0 H : Hp), Sl Γ σ H0 → Ex H0 H → Rok Rs' H0 H → ∀ Q : VK, (∀ v H0' H', Lh.Step M H0 H H0' H' → Rok Rs' H0' H' → T'.p v H0' → Q v H') → TErr K A ok ans back (fun E H' Q' => tLamb X scope body k E σ H' Q') H Q := fun σ H0 H l e rk Q q Qb hQb Y hY =>
  h _ Y hY σ H0 H l e rk _ fun v H0' H' s1 k1 hv => hQb v H' <| hb Q v H0' H' hv fun v' hv' => q v' H0' H' s1 k1 hv'
end
/-! ### the def that tries -/
section
variable {X : Cx}
/-- try: a() / except L as n: suite / rest -/
theorem gives_err {K : Frag} {Ng : List Str} {x a L n q : Str} {sg : Scope} {g : Addr} {cdg : Value} {A : Str → Addr} {names : List Str} {ok : Str → List (Str × V) → Prop} {ans : Str → List (Str × V) → PyData} {i : Nat} {b₀ : Stmt} {suite rest : List Stmt} {p1 p2 p3 p4 p7 p8 : Pos} {back : VK → V → Hp → Prop}
    {k : Nat} (hr : Room k X.A) (R : Ers K X.mg A names L) (eK : X.K = K) (hgL : sg.names.lookup L = some .globalImplicit) (hdL : (L == ("__debug__" : Str)) = false) (hN : Ng.Nodup) (hi : Ng[i]? = some n) (hln : sg.names.lookup n = some .local) (hok : ∀ y fs, ok y fs → y ∈ names) (h0 : ∀ f : Addr, (L2.start Ng [V.ref f])[0]? = some (some (V.ref f)))
    (hrest : ∀ (Q : VK) (Y : Cx) (σ : L2.St) (H : Hp) (v : V), (∃ (A : Around) (outer : List Env) (s : Shared) (H : Hp), Y = (cxOf C8.CX0 X.prog X.w X.K X.mg X.base Ng x sg g cdg A outer s H C8.E0).nox ∧ Room k A) → σ.length = Ng.length → back Q v H → wpB Y rest { nx := fun _ H' => Q .non H', rt := Q } σ H)
    (hsu : ∀ (y : Str) (fs : List (Str × V)) (e : Addr) (oe : Obj) (d : Option Addr) (pn : List (Addr × Obj)) (Y : Cx) (Z0 Z : Hp) (Q : VK), (∃ (A : Around) (outer : List Env) (s : Shared) (H : Hp), Y = (cxOf C8.CX0 X.prog X.w X.K X.mg X.base Ng x sg g cdg A outer s H C8.E0).nox ∧ Room k A) → ok y fs → Zc (.ref (A y)) d oe → (∃ vs, oe.data = .fields vs) →
      (∀ v G0 G, Lh.Step M0 Z0 Z G0 G → (PD K (ans y fs)).p v G0 → Q v G) → XS M0 ((List.replicate Ng.length none).set i (some (PErr e fs d))) [] (Y.suite e ((e, oe) :: pn)) Z0 Z Z0 { nx := fun _ _ => False, rt := Q } (b₀ :: suite)) :
    GivesTo X Ng x sg g cdg (.Try [.Expr (.Call (.Name a p1) [] [] p2) p3] [.ExceptHandler (some (.Name L p4)) (some n) (b₀ :: suite) p7] [] [] p8 :: rest) a q (TErr K A ok ans back) := by
  subst eK
  intro f c' s H Q tl act hc h
  obtain ⟨Y, hY⟩ : ∃ Y, Y = (cxOf C8.CX0 X.prog X.w X.K X.mg X.base Ng x sg g cdg X.A X.stack s H C8.E0).nox := ⟨_, rfl⟩
  have hY' : ∃ (A : Around) (outer : List Env) (s : Shared) (H : Hp), Y = (cxOf C8.CX0 X.prog X.w X.K X.mg X.base Ng x sg g cdg A outer s H C8.E0).nox ∧ Room k A := ⟨X.A, X.stack, s, H, hY, hr⟩
  rw [← hY]
  have hnames : Names Y L (.ref (A L)) := by
    subst hY
    exact ⟨hgL, hdL, .inl R.glL⟩
  refine ⟨_, pss_cons (ps_try_as (X := Y) (i := i) (c := .ref (A L)) (tb := fun W D σ H => ∃ Ech : XK, (∀ cls d σ' H', Ech cls d H' → W cls d σ' H') ∧ σ[0]? = some (some (.ref f)) ∧ H c' = some (CodeO c' q) ∧ tl Ech H (fun _ H1 => D.nx σ H1))
      (ts := fun e cls d D σ H => ∀ (oe : Obj) (pn : List (Addr × Obj)), Zc cls d oe → (∃ vs, oe.data = .fields vs) → wpB (Y.suite e ((e, oe) :: pn)) (b₀ :: suite) D σ H)
      (by subst hY; rfl) (by subst hY; rfl) (by subst hY; exact hN) (by subst hY; exact hi) (by subst hY; exact hln) hnames takes0 (fun W pn xe tk _ => ?_) (fun e oe cls d pn hz hf => ?_)) (pss_wp (X := Y) (sts := rest)), ?_⟩
  · refine ⟨fun pins s' σ H' D I h' => ?_⟩
    obtain ⟨Ech, hW, h1, h2, h3⟩ := h'
    subst hY
    have hp := act W pn xe Ech p1 p2 tk hW
    exact (pss_one (ps_expr (pos := p3) hp)).run pins s' σ H' D I ⟨h1, h2, h3⟩
  · exact ⟨fun pins s' σ H' D I h' => h' oe pn hz hf pins s' I⟩
  · refine ⟨fun cls d H' => ∃ (y : Str) (fs : List (Str × V)) (H0' : Hp), Ex H0' H' ∧ ok y fs ∧ ErrIs (A y) fs cls d H0' ∧ ∀ v G0 G, Lh.Step M0 H0' H' G0 G → (PD X.K (ans y fs)).p v G0 → Q v G, fun cls d σ' H' ⟨y, fs, H0', e1, e2, e3, e4⟩ => ?_, h0 f, hc, ?_⟩
    · obtain ⟨e5, e6⟩ := e3
      subst e5
      refine ⟨true, by subst hY; exact R.exm y (hok y fs e2), fun _ e na => ?_, fun z => Bool.noConfusion z⟩
      intro oe pn hz hf pins s2 I2
      have hl2 : (σ'.set i (some (V.ref e))).length = Ng.length := by
        have := I2.len
        subst hY
        exact this
      have hil : i < Ng.length := (List.getElem?_eq_some_iff.mp hi).1
      refine wpAny_mono (hsu y fs e oe d pn Y H0' H' Q hY' e2 hz hf e4 _ H0' H' ⟨?_, fun j P hP => ?_⟩ (Lh.Step.rfl e1) (Ex.refl _) Rok.nil pins s2 I2) (fun fl s3 hs => ?_) fun _ _ z => z
      · rw [hl2, List.length_set, List.length_replicate]
      · by_cases hj : i = j
        · subst hj
          rw [List.getElem?_set_self (by rw [List.length_replicate]; exact hil)] at hP
          have eP : PErr e fs d = P := Option.some.inj (Option.some.inj hP)
          subst eP
          exact ⟨.ref e, List.getElem?_set_self (by
            rw [List.length_set] at hl2
            omega), rfl, e6⟩
        · rw [List.getElem?_set_ne hj, List.getElem?_replicate] at hP
          split at hP
          · have z : (none : Option Pd) = some P := Option.some.inj hP
            cases z
          · cases hP
      · cases fl with
        | next => obtain ⟨_, _, _, z⟩ := hs; exact z.elim
        | brk => obtain ⟨_, _, _, z⟩ := hs; exact z.elim
        | cont => obtain ⟨_, _, _, z⟩ := hs; exact z.elim
        | ret u => exact hs
    · refine h _ fun v H1 hb => hrest Q Y _ H1 v hY' ?_ hb
      have : 0 < Ng.length := Nat.lt_of_le_of_lt (Nat.zero_le i) (List.getElem?_eq_some_iff.mp hi).1
      unfold L2.start
      simp
      omega
end
end LhX
namespace K42
open PySem L2 Lh LhX
/-! ### the errors -/
abbrev s_InvalidHouse_init : Stmt := inClass (top 3) 0
theorem ss_InvalidHouse : SupS ["self", "part", "index"] s_InvalidHouse_init := ⟨rfl, rfl, rfl, by decide, fun x hx => by
    simp only [List.mem_cons, List.not_mem_nil, or_false] at hx
    rcases hx with rfl | rfl | rfl <;> rfl, by decide +kernel, fun y hy => by
    have h := PySem.mem_of_lookup hy
    have h2 : (defScope s_InvalidHouse_init).names.all (fun z => !decide (z.2 = .free) || decide (z.1 = "__class__")) = true := by decide +kernel
    have h3 := List.all_eq_true.mp h2 _ h
    simpa using h3, rfl, rfl, rfl, rfl⟩
theorem ini_InvalidHouse {P : Program} {w : World} {K : PySem.W.Frag} {mg : Str → Option Value} {base : Heap} {C f : Addr} {fd : FuncData} (T : SupD P K mg C "InvalidHouse.__init__" s_InvalidHouse_init f fd) (n1 : PySem.W.findIn K (.ref C) "part" = some none) (n2 : PySem.W.findIn K (.ref C) "index" = some none) : FnOk P w K mg base L2.CX0 2 f fd ["self", "part", "index"] (spI2 C "part" "index") := by
  refine ok_ini2 T ss_InvalidHouse n1 n2 rfl (fun a v1 v2 X ⟨cda, cc, A, outer, s, H, E, hX⟩ h1 h2 => ?_) (fun X ⟨cda, cc, A, outer, s, H, E, hX⟩ => ?_)
  · subst hX
    exact xe_joined (XJ.cons (xe_fmtC (by decide)) (XJ.cons (xe_fmtV h2 (xe_var 2)) (XJ.cons (xe_fmtC (by decide)) (XJ.cons (xe_fmtV h1 (xe_var 1)) (XJ.cons (xe_fmtC (by decide)) (XJ.nil)))))) (by decide)
  · subst hX
    exact ⟨⟨pv 0, pv 1, rfl, pv 0, pv 2, rfl⟩, _, rfl, rfl, rfl, rfl⟩
abbrev s_InvalidLog_init : Stmt := inClass (top 5) 0
theorem ss_InvalidLog : SupS ["self", "index"] s_InvalidLog_init := ⟨rfl, rfl, rfl, by decide, fun x hx => by
    simp only [List.mem_cons, List.not_mem_nil, or_false] at hx
    rcases hx with rfl | rfl <;> rfl, by decide +kernel, fun y hy => by
    have h := PySem.mem_of_lookup hy
    have h2 : (defScope s_InvalidLog_init).names.all (fun z => !decide (z.2 = .free) || decide (z.1 = "__class__")) = true := by decide +kernel
    have h3 := List.all_eq_true.mp h2 _ h
    simpa using h3, rfl, rfl, rfl, rfl⟩
theorem ini_InvalidLog {P : Program} {w : World} {K : PySem.W.Frag} {mg : Str → Option Value} {base : Heap} {C f : Addr} {fd : FuncData} (T : SupD P K mg C "InvalidLog.__init__" s_InvalidLog_init f fd) (n1 : PySem.W.findIn K (.ref C) "index" = some none) : FnOk P w K mg base L2.CX0 2 f fd ["self", "index"] (spI1 C "index") := by
  refine ok_ini1 T ss_InvalidLog n1 rfl (fun a v1 X ⟨cda, cc, A, outer, s, H, E, hX⟩ h1 => ?_) (fun X ⟨cda, cc, A, outer, s, H, E, hX⟩ => ?_)
  · subst hX
    exact xe_joined (XJ.cons (xe_fmtC (by decide)) (XJ.cons (xe_fmtV h1 (xe_var 1)) (XJ.cons (xe_fmtC (by decide)) (XJ.nil)))) (by decide)
  · subst hX
    exact ⟨⟨pv 0, pv 1, rfl⟩, _, rfl, rfl, rfl, rfl⟩
abbrev erNames : List Str := ["InvalidHouse", "UnknownFloor", "InvalidLog"]
/-- what is known of the error classes -/
structure Erx (P : Program) (w : World) (K : PySem.W.Frag) (mg : Str → Option Value) (base : Heap) (A : Str → Addr) : Prop where
  er : Ers K mg A erNames "LiftError"
  e_InvalidHouse : ∃ f fd, ErrI P w K mg base "InvalidHouse" (A "InvalidHouse") f fd ["self", "part", "index"] (spI2 (A "InvalidHouse") "part" "index")
  n_InvalidHouse_part : PySem.W.findIn K (.ref (A "InvalidHouse")) "part" = some none
  n_InvalidHouse_index : PySem.W.findIn K (.ref (A "InvalidHouse")) "index" = some none
  e_UnknownFloor : Err0 K mg "UnknownFloor" (A "UnknownFloor")
  x_UnknownFloor : PySem.W.exmOne K (.ref (A "UnknownFloor")) (.ref (A "UnknownFloor")) = some true
  e_InvalidLog : ∃ f fd, ErrI P w K mg base "InvalidLog" (A "InvalidLog") f fd ["self", "index"] (spI1 (A "InvalidLog") "index")
  n_InvalidLog_index : PySem.W.findIn K (.ref (A "InvalidLog")) "index" = some none
end K42
/-! l.extend(..), l a list at hand. -/
namespace Lh
open PySem L2
open Evl (Ex ex_l ex_t ex_rd fresh_back)
section
variable {M : Addr → Prop} {Γ Γ' : Ct} {Rs : List Res} {X : Cx} {Z0 Z Hl : Hp} {D : Ends} {K : PySem.W.Frag} {rest : List Stmt} {a b c e : Expr} {es : List Expr} {pos p : Pos}
/-- l.extend(e), e a list of data -/
theorem xs_ext {q : Addr} {o e : Expr} {Ps : List Pd} {ds : List PyData} {pos cpos apos : Pos} (ho : XE M Γ (Res.lst Z q Ps :: Rs) X o (PV (.ref q))) (he : XE M Γ (Res.lst Z q Ps :: Rs) X e (PD X.K (.list ds))) (hz : Ps.length + ds.length ≤ 1000000) (k : XS M Γ (Res.lst Z q (Ps ++ ds.map (PD X.K)) :: Rs) X Z0 Z Hl D rest)
    (hpe : PE X (.Call (.Attribute o "extend" apos) [e] [] cpos) (tBM X.K "list" (rExtend) (wpE X o) (tCons (wpE X e) tNil))) (hs : swapsWith (.Call (.Attribute o "extend" apos) [e] [] cpos) none pos.line X.env = pure false := by rfl) : XS M Γ (Res.lst Z q Ps :: Rs) X Z0 Z Hl D (.Expr (.Call (.Attribute o "extend" apos) [e] [] cpos) pos :: rest) :=
  xs_cons (ps_expr hpe hs) fun σ H0 H l s b r => ho σ H0 H l s.le r _ fun v H1 G1 s1 k1 hv => by
    have hv' : v = .ref q := hv
    subst hv'
    obtain ⟨_, _, xs1, hq1, _⟩ := k1.2 _ List.mem_cons_self
    refine ⟨.inl ⟨rfl, xs1, SqL.of hq1⟩, ?_⟩
    refine he σ H1 G1 (l.ex s1.ex) s1.le k1 _ fun y H2 G2 s2 k2 hy => ?_
    obtain ⟨hz0, h0, xs, hq, hd⟩ := k2.2 _ List.mem_cons_self
    obtain ⟨y2, zs, e2, hsq, hda⟩ := hy
    refine ⟨q, y2, xs, zs, rfl, by rw [e2], hq, s2.le _ _ hsq, by rw [hd.1, hda.len]; exact Nat.le_trans hz (by decide), ?_⟩
    have t := (s.trans s1).trans s2
    have nd := k2.1
    rw [List.flatMap_cons, List.nodup_append] at nd
    have ne : ∀ r ∈ Rs, ∀ a ∈ r.ad, a ≠ q := fun r hr a ha e => nd.2.2 q (by simp [Res.lst]) a (List.mem_flatMap.mpr ⟨r, hr, ha⟩) e.symm
    have kr : Rok Rs H2 G2 := ⟨nd.2.1, fun r hr => k2.2 r (List.mem_cons_of_mem _ hr)⟩
    refine k _ H2 _ (l.ex (s1.ex.trans s2.ex)) ⟨fun a o hm ha => ?_, fun a o ha => ?_, t.ex, fun a o ha => ?_, t.nw⟩ (b.trans (s1.ex.trans s2.ex)) ⟨k2.1, fun r hr => ?_⟩
    · rw [upd_ne (ne_of_none ha hz0)]
      exact t.un a o hm ha
    · obtain ⟨o', h'⟩ := t.th a o ha
      exact ⟨o', by rw [upd_ne (ne_of_none ha hz0)]; exact h'⟩
    · have na : a ≠ q := fun e => by
        rw [e, h0] at ha
        cases ha
      rw [upd_ne na]
      exact t.le a o ha
    · obtain e | hr := List.mem_cons.mp hr
      · subst e
        exact ⟨hz0, h0, _, upd_same, hd.app hda.da⟩
      · exact (kr.wr ne).2 r hr
/-- x, y, .. = [], e, .. , also where names of it are captured: the first is a list at hand -/
theorem xs_unpL (i0 : Nat) (is : List Nat) {Ps : List Pd} {ts : List Expr} {kt k2 : Nat} {pt pt2 pl : Pos} (ha : ∀ q, XA M Γ (Res.lst Z q [] :: Rs) X es Ps) (h : ∀ q, XS M (setAll (Γ.set i0 (some (PV (.ref q)))) is Ps) (Res.lst Z q [] :: Rs) X Z0 Z Hl D rest) (hg : PGs X ts (gNames (i0 :: is))) (hl : is.length = Ps.length := by rfl) (hc : X.calm = true := by rfl) (hz : Ps.length ≤ 100 := by decide)
    (hn : (assignEach ts X.env).length = is.length + 1 := by rfl) (hst : (assignEach ts X.env).findIdx? (·.1) = none := by rfl)
    (hs : swapsWithSole [.Tuple ts kt pt] (.Tuple (.List [] pl :: es) k2 pt2) pos.line X.env = pure false := by rfl) (hw : swappedStores [.Tuple ts kt pt] (.Tuple (.List [] pl :: es) k2 pt2) X.env = pure none := by rfl)
    (h1 : (assignEach [.Tuple ts kt pt] X.env).map (·.2) = [assign (.Tuple ts kt pt) X.env] := by rfl) (he : starEach (.List [] pl :: es) X.env = (false, eval (.List [] pl) X.env) :: starEach es X.env := by rfl) : XS M Γ Rs X Z0 Z Hl D (.Assign [.Tuple ts kt pt] (.Tuple (.List [] pl :: es) k2 pt2) pos :: rest) :=
  xs_cons (ps_asg (pe_tup (pa_cons (pe_lst pa_nil) pa_wp he)) (pg_tup (n := is.length + 1) hc hg hn hst) hs hw h1) fun σ H0 H l s b r => ⟨show 0 ≤ sizeLine by decide, fun p hp => by
    obtain ⟨t1, k1⟩ := new_lst (Ps := []) (vs := []) s r hp DAll.nil
    refine ha p σ H0 _ l t1.le k1 _ fun vs H1 G1 s1 k2 a1 => ⟨?_, fun t ht => ?_⟩
    · rw [List.length_cons, a1.1]
      exact Nat.le_trans (Nat.succ_le_succ hz) (by decide)
    · have s4 := Step.new (M := M) (o := .tup (.ref p :: vs)) s1.le ht
      have s4' := Step.new (M := M0) (o := .tup (.ref p :: vs)) s1.le ht
      have a2 : DAll Ps vs (upd H1 t (.tup (.ref p :: vs))) := a1.ex s4.ex
      refine ⟨t, .ref p :: vs, rfl, SqT.of upd_same, by rw [List.length_cons, a1.1, hl], .ref p, vs, rfl, gv_names hl a2 ((l.ex (s1.ex.trans s4.ex)).set (P := PV (.ref p)) rfl) fun σ' l' => h p σ' _ _ l' ((t1.trans s1).trans s4) (b.trans (s1.ex.trans s4.ex)) (k2.step0 s4')⟩⟩
/-- l.append(e), e one of many -/
theorem xs_appE {q : Addr} {o e : Expr} {Ps : List Pd} {α : Type} {A : α → Prop} {P : α → Pd} {pos cpos apos : Pos} (ho : XE M Γ (Res.lst Z q Ps :: Rs) X o (PV (.ref q))) (he : XE M Γ (Res.lst Z q Ps :: Rs) X e (PEx A P)) (hz : Ps.length < 1000000) (k : ∀ a, A a → XS M Γ (Res.lst Z q (Ps ++ [P a]) :: Rs) X Z0 Z Hl D rest)
    (hpe : PE X (.Call (.Attribute o "append" apos) [e] [] cpos) (tBM X.K "list" rAppend (wpE X o) (tCons (wpE X e) tNil))) (hs : swapsWith (.Call (.Attribute o "append" apos) [e] [] cpos) none pos.line X.env = pure false := by rfl) : XS M Γ (Res.lst Z q Ps :: Rs) X Z0 Z Hl D (.Expr (.Call (.Attribute o "append" apos) [e] [] cpos) pos :: rest) :=
  xs_cons (ps_expr hpe hs) fun σ H0 H l s b r => ho σ H0 H l s.le r _ fun v H1 G1 s1 k1 hv => by
    have hv' : v = .ref q := hv
    subst hv'
    obtain ⟨_, _, xs1, hq1, _⟩ := k1.2 _ List.mem_cons_self
    refine ⟨.inl ⟨rfl, xs1, SqL.of hq1⟩, ?_⟩
    refine he σ H1 G1 (l.ex s1.ex) s1.le k1 _ fun y H2 G2 s2 k2 hy0 => ?_
    obtain ⟨a, haa, hy⟩ := hy0
    obtain ⟨hz0, h0, xs, hq, hd⟩ := k2.2 _ List.mem_cons_self
    refine ⟨q, xs, y, rfl, rfl, hq, by rw [hd.1]; exact Nat.lt_of_lt_of_le hz (by decide), ?_⟩
    have t := (s.trans s1).trans s2
    have nd := k2.1
    rw [List.flatMap_cons, List.nodup_append] at nd
    have ne : ∀ r ∈ Rs, ∀ a ∈ r.ad, a ≠ q := fun r hr a ha e => nd.2.2 q (by simp [Res.lst]) a (List.mem_flatMap.mpr ⟨r, hr, ha⟩) e.symm
    have kr : Rok Rs H2 G2 := ⟨nd.2.1, fun r hr => k2.2 r (List.mem_cons_of_mem _ hr)⟩
    refine k a haa _ H2 _ (l.ex (s1.ex.trans s2.ex)) ⟨fun a o hm ha => ?_, fun a o ha => ?_, t.ex, fun a o ha => ?_, t.nw⟩ (b.trans (s1.ex.trans s2.ex)) ⟨k2.1, fun r hr => ?_⟩
    · rw [upd_ne (ne_of_none ha hz0)]
      exact t.un a o hm ha
    · obtain ⟨o', h'⟩ := t.th a o ha
      exact ⟨o', by rw [upd_ne (ne_of_none ha hz0)]; exact h'⟩
    · have na : a ≠ q := fun e => by
        rw [e, h0] at ha
        cases ha
      rw [upd_ne na]
      exact t.le a o ha
    · obtain e | hr := List.mem_cons.mp hr
      · subst e
        exact ⟨hz0, h0, _, upd_same, hd.app (DAll.cons hy DAll.nil)⟩
      · exact (kr.wr ne).2 r hr
/-- x, y, z = a, [], c, also where names of it are captured -/
theorem xs_unpM (i j m : Nat) {P Q : Pd} {ts : List Expr} {kt k2 : Nat} {pt pt2 pl : Pos} (ha : XE M Γ Rs X a P) (hc0 : ∀ q, XE M Γ (Res.lst Z q [] :: Rs) X c Q) (h : ∀ q, XS M (((Γ.set i (some P)).set j (some (PV (.ref q)))).set m (some Q)) (Res.lst Z q [] :: Rs) X Z0 Z Hl D rest) (hg : PGs X ts (gNames [i, j, m])) (hc : X.calm = true := by rfl)
    (hn : (assignEach ts X.env).length = 3 := by rfl) (hst : (assignEach ts X.env).findIdx? (·.1) = none := by rfl)
    (hs : swapsWithSole [.Tuple ts kt pt] (.Tuple [a, .List [] pl, c] k2 pt2) pos.line X.env = pure false := by rfl) (hw : swappedStores [.Tuple ts kt pt] (.Tuple [a, .List [] pl, c] k2 pt2) X.env = pure none := by rfl)
    (h1 : (assignEach [.Tuple ts kt pt] X.env).map (·.2) = [assign (.Tuple ts kt pt) X.env] := by rfl) (he : starEach [a, .List [] pl, c] X.env = (false, eval a X.env) :: starEach [.List [] pl, c] X.env := by rfl) (he1 : starEach [.List [] pl, c] X.env = (false, eval (.List [] pl) X.env) :: starEach [c] X.env := by rfl) (he2 : starEach [c] X.env = (false, eval c X.env) :: starEach [] X.env := by rfl) : XS M Γ Rs X Z0 Z Hl D (.Assign [.Tuple ts kt pt] (.Tuple [a, .List [] pl, c] k2 pt2) pos :: rest) :=
  xs_cons (ps_asg (pe_tup (pa_cons pe_wp (pa_cons (pe_lst pa_nil) (pa_cons pe_wp pa_nil he2) he1) he)) (pg_tup (n := 3) hc hg hn hst) hs hw h1) fun σ H0 H l s b r => ha σ H0 H l s.le r _ fun v H1 G1 s1 k1 a1 => ⟨show 0 ≤ sizeLine by decide, fun p hp => by
    obtain ⟨t1, k2⟩ := new_lst (Ps := []) (vs := []) (s.trans s1) k1 hp DAll.nil
    refine hc0 p σ H1 _ (l.ex s1.ex) t1.le k2 _ fun u H2 G2 s2 k3 a2 => ⟨show 3 ≤ sizeLine by decide, fun t ht => ?_⟩
    have s4 := Step.new (M := M) (o := .tup [v, .ref p, u]) s2.le ht
    have s4' := Step.new (M := M0) (o := .tup [v, .ref p, u]) s2.le ht
    have ee := (s1.ex.trans s2.ex).trans s4.ex
    exact ⟨t, [v, .ref p, u], rfl, SqT.of upd_same, rfl, v, [.ref p, u], rfl, .ref p, [u], rfl, u, [], rfl, rfl, h p _ _ _ ((((l.ex ee).set (P.m (s2.ex.trans s4.ex) a1)).set (P := PV (.ref p)) rfl).set (Q.m s4.ex a2)) ((t1.trans s2).trans s4) (b.trans ee) (k3.step0 s4')⟩⟩
end
end Lh
/-! Dicts at hand whose keys are ints, their values plain. -/
namespace Lh
open PySem L2
open Evl (Ex ex_l ex_t ex_rd fresh_back)
/-- plain data as values -/
def flatD : PyData → Bool
  | .int _ => true
  | .bool _ => true
  | .none => true
  | _ => false
def dV : PyData → V
  | .int i => .int i
  | .bool b => .bl b
  | _ => .non
theorem dd_flat {K : PySem.W.Frag} {H : Hp} {v : V} : ∀ {d : PyData}, flatD d = true → Dd K H d v → v = dV d
  | .int _, _, h => h
  | .bool _, _, h => h
  | .none, _, h => h
theorem flat_dd {K : PySem.W.Frag} {H : Hp} : ∀ {d : PyData}, flatD d = true → Dd K H d (dV d)
  | .int _, _ => rfl
  | .bool _, _ => rfl
  | .none, _ => rfl
abbrev kvD (kvs : List (Int × PyData)) : List (Key × V) := kvs.map fun kv => (Sum.inl kv.1, dV kv.2)
def Res.dI (Z : Hp) (p : Addr) (kvs : List (Int × PyData)) : Res where
  ad := [p]
  p := fun H0 H => Z p = none ∧ H0 p = none ∧ H p = some (.dK (kvD kvs))
  st := fun {H0 H H0' H'} e n q ⟨h0, h1, h2⟩ => ⟨h0, n p (by simp), by rw [q p (by simp)]; exact h2⟩
  tr := fun {H0 H} ⟨h0, h1, h2⟩ a ha => by
    have e : a = p := by simpa using ha
    subst e
    exact ⟨⟨_, h2⟩, h1⟩
/-! ### what is in it -/
def putI (kvs : List (Int × PyData)) (k : Int) (d : PyData) : List (Int × PyData) := if kvs.any (fun kv => decide (kv.1 = k)) = true then kvs.map fun kv => if kv.1 = k then (kv.1, d) else kv else kvs ++ [(k, d)]
def valI (kvs : List (Int × PyData)) (k : Int) : Option PyData := (kvs.find? fun kv => decide (kv.1 = k)).map (·.2)
def mergeI (kvs more : List (Int × PyData)) : List (Int × PyData) := more.foldl (fun acc kv => putI acc kv.1 kv.2) kvs
theorem kvD_put (kvs : List (Int × PyData)) (k : Int) (d : PyData) : kvD (putI kvs k d) = putK (kvD kvs) (Sum.inl k) (dV d) := by
  have ea : (kvD kvs).any (fun kv => decide (kv.1 = (Sum.inl k : Key))) = kvs.any (fun kv => decide (kv.1 = k)) := by
    unfold kvD
    rw [List.any_map]
    refine congrArg (fun f => kvs.any f) (funext fun kv => ?_)
    simp
  unfold putI putK
  rw [ea]
  by_cases h : kvs.any (fun kv => decide (kv.1 = k)) = true
  · rw [if_pos h, if_pos h]
    unfold kvD
    rw [List.map_map, List.map_map]
    refine List.map_congr_left fun kv _ => ?_
    by_cases e : kv.1 = k
    · subst e
      simp
    · have e2 : ¬ (Sum.inl kv.1 : Key) = Sum.inl k := fun q => e (Sum.inl.inj q)
      simp [e, e2]
  · rw [if_neg h, if_neg h]
    simp [kvD]
theorem kvD_merge : ∀ (more kvs : List (Int × PyData)), kvD (mergeI kvs more) = mergeK (kvD kvs) (kvD more)
  | [], _ => rfl
  | kv :: more, kvs => by
    show kvD (mergeI (putI kvs kv.1 kv.2) more) = mergeK (putK (kvD kvs) (Sum.inl kv.1) (dV kv.2)) (kvD more)
    rw [kvD_merge more, kvD_put]
theorem kvD_val (k : Int) : ∀ kvs : List (Int × PyData), valV (kvD kvs) (Sum.inl k) = (valI kvs k).map dV
  | [] => rfl
  | kv :: kvs => by
    by_cases e : kv.1 = k
    · have e2 : (Sum.inl kv.1 : Key) = Sum.inl k := congrArg Sum.inl e
      unfold valI
      show valV ((Sum.inl kv.1, dV kv.2) :: kvD kvs) (Sum.inl k) = _
      rw [valV_pos e2, List.find?_cons_of_pos (by simpa using e)]
      rfl
    · have e2 : ¬ (Sum.inl kv.1 : Key) = Sum.inl k := fun q => e (Sum.inl.inj q)
      have ih := kvD_val k kvs
      unfold valI at ih ⊢
      show valV ((Sum.inl kv.1, dV kv.2) :: kvD kvs) (Sum.inl k) = _
      rw [valV_neg e2, List.find?_cons_of_neg (by simpa using e)]
      exact ih
theorem keys_put (kvs : List (Int × PyData)) (k : Int) (d : PyData) : (putI kvs k d).map (·.1) = if k ∈ kvs.map (·.1) then kvs.map (·.1) else kvs.map (·.1) ++ [k] := by
  have ea : kvs.any (fun kv => decide (kv.1 = k)) = true ↔ k ∈ kvs.map (·.1) := by
    rw [List.any_eq_true, List.mem_map]
    exact ⟨fun ⟨kv, h1, h2⟩ => ⟨kv, h1, of_decide_eq_true h2⟩, fun ⟨kv, h1, h2⟩ => ⟨kv, h1, decide_eq_true h2⟩⟩
  unfold putI
  by_cases h : kvs.any (fun kv => decide (kv.1 = k)) = true
  · rw [if_pos h, if_pos (ea.mp h), List.map_map]
    refine List.map_congr_left fun kv _ => ?_
    by_cases e : kv.1 = k <;> simp [e]
  · rw [if_neg h, if_neg fun q => h (ea.mpr q)]
    simp
theorem nd_put {kvs : List (Int × PyData)} {k : Int} {d : PyData} (h : (kvs.map (·.1)).Nodup) : ((putI kvs k d).map (·.1)).Nodup := by
  rw [keys_put]
  by_cases c : k ∈ kvs.map (·.1)
  · rw [if_pos c]
    exact h
  · rw [if_neg c]
    exact List.nodup_append.mpr ⟨h, by simp, fun x hx y hy e => by
      have ey : y = k := by simpa using hy
      exact c (ey ▸ e ▸ hx)⟩
theorem mem_put {kvs : List (Int × PyData)} {k : Int} {d : PyData} {z : Int} : z ∈ (putI kvs k d).map (·.1) ↔ z ∈ kvs.map (·.1) ∨ z = k := by
  rw [keys_put]
  by_cases c : k ∈ kvs.map (·.1)
  · rw [if_pos c]
    exact ⟨.inl, fun h => h.elim id fun e => e ▸ c⟩
  · rw [if_neg c, List.mem_append]
    simp
theorem nd_merge : ∀ {more kvs : List (Int × PyData)}, (kvs.map (·.1)).Nodup → ((mergeI kvs more).map (·.1)).Nodup
  | [], _, h => h
  | _ :: more, _, h => nd_merge (more := more) (nd_put h)
theorem mem_merge {z : Int} : ∀ {more kvs : List (Int × PyData)}, z ∈ (mergeI kvs more).map (·.1) ↔ z ∈ kvs.map (·.1) ∨ z ∈ more.map (·.1)
  | [], _ => by simp [mergeI]
  | kv :: more, kvs => by
    show z ∈ (mergeI (putI kvs kv.1 kv.2) more).map (·.1) ↔ _
    rw [mem_merge (more := more), mem_put, List.map_cons, List.mem_cons]
    constructor
    · rintro ((h | h) | h)
      · exact .inl h
      · exact .inr (.inl h)
      · exact .inr (.inr h)
    · rintro (h | h | h)
      · exact .inl (.inl h)
      · exact .inl (.inr h)
      · exact .inr h
theorem val_put (kvs : List (Int × PyData)) (k j : Int) (d : PyData) : valI (putI kvs k d) j = if j = k then some d else valI kvs j := by
  unfold putI
  by_cases h : kvs.any (fun kv => decide (kv.1 = k)) = true
  · rw [if_pos h]
    induction kvs with
    | nil => cases h
    | cons kv kvs ih =>
      by_cases e : kv.1 = k
      · by_cases c : j = k
        · subst c
          simp [valI, e]
        · have e3 : ¬ k = j := fun q => c q.symm
          by_cases hk : kvs.any (fun kv => decide (kv.1 = k)) = true
          · have ih2 := ih hk
            rw [if_neg c] at ih2 ⊢
            simp only [valI, List.map_cons, if_pos e] at ih2 ⊢
            rw [List.find?_cons_of_neg (by simpa [e] using e3), List.find?_cons_of_neg (by simpa [e] using e3)]
            exact ih2
          · have e4 : (kvs.map fun kv => if kv.1 = k then (kv.1, d) else kv) = kvs := by
              conv => rhs; rw [← List.map_id kvs]
              refine List.map_congr_left fun q hq => ?_
              have : ¬ q.1 = k := fun z => hk (List.any_eq_true.mpr ⟨q, hq, decide_eq_true z⟩)
              simp [this]
            rw [if_neg c]
            simp only [valI, List.map_cons, if_pos e, e4]
            rw [List.find?_cons_of_neg (by simpa [e] using e3), List.find?_cons_of_neg (by simpa [e] using e3)]
      · have h' : kvs.any (fun kv => decide (kv.1 = k)) = true := by
          rw [List.any_cons] at h
          simpa [e] using h
        have ih2 := ih h'
        simp only [valI, List.map_cons, if_neg e] at ih2 ⊢
        by_cases c : kv.1 = j
        · have c2 : ¬ j = k := fun q => e (c.trans q)
          rw [if_neg c2, List.find?_cons_of_pos (by simpa using c), List.find?_cons_of_pos (by simpa using c)]
        · rw [List.find?_cons_of_neg (by simpa using c), List.find?_cons_of_neg (by simpa using c)]
          exact ih2
  · rw [if_neg h]
    by_cases c : j = k
    · subst c
      rw [if_pos rfl]
      unfold valI
      have : kvs.find? (fun kv => decide (kv.1 = j)) = none := by
        rw [List.find?_eq_none]
        exact fun q hq z => h (List.any_eq_true.mpr ⟨q, hq, z⟩)
      rw [List.find?_append, this]
      simp
    · rw [if_neg c]
      unfold valI
      rw [List.find?_append]
      have e3 : ¬ k = j := fun q => c q.symm
      cases kvs.find? (fun kv => decide (kv.1 = j)) <;> simp [e3]
theorem len_merge (more kvs : List (Int × PyData)) : (mergeI kvs more).length ≤ kvs.length + more.length := by
  have h := length_mergeK (kvD more) (kvD kvs)
  rw [← kvD_merge] at h
  simpa using h
/-! ### heaps -/
section
variable {M : Addr → Prop} {Rs : List Res} {Z0 Z H1 G1 : Hp} {q : Addr} {r r' : Res} {o : HO}
theorem new_res (t : Step M Z0 Z H1 G1) (k1 : Rok Rs H1 G1) (hp : G1 q = none) (ea : r.ad = [q]) (hr : Z q = none → H1 q = none → r.p H1 (upd G1 q o)) : Step M Z0 Z H1 (upd G1 q o) ∧ Rok (r :: Rs) H1 (upd G1 q o) := by
  have ne : ∀ r ∈ Rs, ∀ a ∈ r.ad, a ≠ q := fun r hr a ha e => by
    obtain ⟨⟨o, h1⟩, _⟩ := r.tr (k1.2 r hr) a ha
    rw [e, hp] at h1
    cases h1
  have hZ : Z q = none := by
    cases e : Z q with
    | none => rfl
    | some o =>
      obtain ⟨o', h'⟩ := t.th q o e
      rw [hp] at h'
      cases h'
  have aN := fresh_back t.le hp
  refine ⟨⟨fun a o hm ha => ?_, fun a o ha => ?_, t.ex, fun a o ha => ?_, t.nw⟩, ⟨?_, fun r2 hr2 => ?_⟩⟩
  · rw [upd_ne (ne_of_none ha hZ)]
    exact t.un a o hm ha
  · obtain ⟨o', h'⟩ := t.th a o ha
    exact ⟨o', by rw [upd_ne (ne_of_none h' hp)]; exact h'⟩
  · rw [upd_ne (ne_of_none (t.le a o ha) hp)]
    exact t.le a o ha
  · rw [List.flatMap_cons, List.nodup_append]
    refine ⟨by simp [ea], k1.1, fun a ha c hc e => ?_⟩
    have e1 : a = q := by simpa [ea] using ha
    obtain ⟨r2, hr2, hc2⟩ := List.mem_flatMap.mp hc
    exact ne r2 hr2 c hc2 (e ▸ e1)
  · rcases List.mem_cons.mp hr2 with e | h2
    · subst e
      exact hr hZ aN
    · exact (k1.wr ne).2 r2 h2
theorem res_wr (t : Step M Z0 Z H1 G1) (k1 : Rok (r :: Rs) H1 G1) (ea : r.ad = [q]) (ea' : r'.ad = [q]) (hz0 : Z q = none) (h0 : H1 q = none) (hr : r'.p H1 (upd G1 q o)) : Step M Z0 Z H1 (upd G1 q o) ∧ Rok (r' :: Rs) H1 (upd G1 q o) := by
  have nd := k1.1
  rw [List.flatMap_cons, List.nodup_append] at nd
  have ne : ∀ r ∈ Rs, ∀ a ∈ r.ad, a ≠ q := fun r hr a ha e => nd.2.2 q (by simp [ea]) a (List.mem_flatMap.mpr ⟨r, hr, ha⟩) e.symm
  have kr : Rok Rs H1 G1 := ⟨nd.2.1, fun r hr => k1.2 r (List.mem_cons_of_mem _ hr)⟩
  refine ⟨⟨fun a o hm ha => ?_, fun a o ha => ?_, t.ex, fun a o ha => ?_, t.nw⟩, ⟨by
    have h := k1.1
    rw [List.flatMap_cons, ea] at h
    rw [List.flatMap_cons, ea']
    exact h, fun r2 hr2 => ?_⟩⟩
  · rw [upd_ne (ne_of_none ha hz0)]
    exact t.un a o hm ha
  · obtain ⟨o', h'⟩ := t.th a o ha
    exact ⟨o', by rw [upd_ne (ne_of_none ha hz0)]; exact h'⟩
  · have na : a ≠ q := fun e => by
      rw [e, h0] at ha
      cases ha
    rw [upd_ne na]
    exact t.le a o ha
  · rcases List.mem_cons.mp hr2 with e | h2
    · subst e
      exact hr
    · exact (kr.wr ne).2 r2 h2
theorem Rok.tail (k : Rok (r :: Rs) H1 G1) : Rok Rs H1 G1 := ⟨by
  have nd := k.1
  rw [List.flatMap_cons, List.nodup_append] at nd
  exact nd.2.1, fun r hr => k.2 r (List.mem_cons_of_mem _ hr)⟩
end
section
variable {X : Cx}
/-- d.update(e), two dicts -/
def rUpd : V → List V → Hp → VK → Prop := fun x vs H Q => ∃ a b kvs more, x = .ref a ∧ vs = [.ref b] ∧ a ≠ b ∧ H a = some (.dK kvs) ∧ H b = some (.dK more) ∧ kvs.length + more.length ≤ sizeLine ∧ Q .non (upd H a (.dK (mergeK kvs more)))
theorem mt_upd : MtM X "dict.update" rUpd := by
  intro pins s σ H x vs v us Q I rx rv h
  obtain ⟨a, b, kvs, more, rfl, rfl, hne, hA, hB, hz, q⟩ := h
  cases rx
  obtain ⟨u, rfl, ru⟩ := rv.one
  cases ru
  obtain ⟨z, hd, vs, rel, dd⟩ := dk_of I.hok hA
  obtain ⟨z2, hd2, vs2, rel2, dd2⟩ := dk_of I.hok hB
  have hl : vs.length + vs2.length ≤ sizeLine := by rw [← rel.length, ← rel2.length]; exact hz
  refine call_meetsIn PySem.F.slot_dict_update dd.typeIs PySem.F.entry_dict_update (PySem.F.args_dict_update_2 _ _) (meets_dict_update (mixKind X.prog X.w) a b hne hd2) ⟨vs, vs2, dd, dd2, hl, fun h' dd' _ hs => ?_⟩
  have he : ∃ q, h'.get? a = some q := let ⟨q, _, _, hq, _⟩ := dd'; ⟨q, hq⟩
  exact ⟨.non, _, d_write I (by rw [hA]; exact True.intro) hs he (dk_new (Nat.le_trans (length_mergeK more kvs) hz) hd (KV.merge rel2 rel) dd'), rfl, q⟩
end
section
variable {M : Addr → Prop} {Γ Γ' : Ct} {Rs : List Res} {X : Cx} {Z0 Z Hl : Hp} {D : Ends} {K : PySem.W.Frag} {rest : List Stmt} {a b c o e : Expr} {pos p : Pos} {q : Addr} {kvs more : List (Int × PyData)}
/-- something at hand is wanted no more -/
theorem xs_drop {r : Res} (h : XS M Γ Rs X Z0 Z Hl D rest) : XS M Γ (r :: Rs) X Z0 Z Hl D rest := fun σ H0 H l s b k => h σ H0 H l s b k.tail
/-- x = {} -/
theorem xs_newD (i : Nat) {x : Str} {pos pos' p : Pos} (k : ∀ q, XS M (Γ.set i (some (PV (.ref q)))) (Res.dI Z q [] :: Rs) X Z0 Z Hl D rest) (hN : X.N.Nodup)
    (hi : X.N[i]? = some x := by rfl) (hx : Loc X.env.scope x := by first | exact Or.inl rfl | exact Or.inr rfl) (hs : swapsWith (.Dict [] [] p) (some (.Name x pos')) pos.line X.env = pure false := by rfl) (hf : X.fn x = true ∨ X.env.scope.names.lookup x = some .local := by first | exact .inl rfl | exact .inr rfl) :
    XS M Γ Rs X Z0 Z Hl D (.Assign [.Name x pos'] (.Dict [] [] p) pos :: rest) :=
  xs_cons (ps_set hN hi hx pe_dnewK hs hf) fun σ H0 H l s b r q hq => by
    obtain ⟨t, k1⟩ := new_res (r := Res.dI Z q []) (o := .dK []) s r hq rfl fun h0 h1 => ⟨h0, h1, by rw [upd_same]; rfl⟩
    exact k q _ H0 _ (l.set rfl) t b k1
/-- t makes a new dict of these -/
def DE (M : Addr → Prop) (Γ : Ct) (Rs : List Res) (t : TE) (kvs : List (Int × PyData)) : Prop := ∀ (σ : L2.St) (H0 H : Hp), Sl Γ σ H0 → Ex H0 H → Rok Rs H0 H → ∀ Q : VK,
  (∀ (p : Addr) (H1 G1 : Hp), Step M H0 H H1 G1 → Rok Rs H1 G1 → G1 p = none → Q (.ref p) (upd G1 p (.dK (kvD kvs)))) → t σ H Q
abbrev prKD (kv : Int × PyData) : PyData := .tuple [.int kv.1, kv.2]
theorem dd_pairs {K : PySem.W.Frag} {H G : Hp} (e : Ex H G) : ∀ {kvs : List (Int × PyData)} {xs : List V}, (∀ kv ∈ kvs, flatD kv.2 = true) → DdAll K H (kvs.map prKD) xs → ∃ ps : List Addr, xs = ps.map V.ref ∧ Paired (fun p kv => SqT K G p [kV kv.1, kv.2]) ps (kvD kvs)
  | [], xs, _, h => ⟨[], h, .nil⟩
  | kv :: kvs, xs, hf, ⟨x, r, e1, ⟨a, ys, e2, h2, h3⟩, h4⟩ => by
    obtain ⟨ps, e5, h5⟩ := dd_pairs e (kvs := kvs) (fun q hq => hf q (List.mem_cons_of_mem _ hq)) h4
    obtain ⟨y1, r1, e6, h6, h7⟩ := h3
    obtain ⟨y2, r2, e7, h8, h9⟩ := h7
    have e10 : r2 = [] := h9
    have e11 : y1 = .int kv.1 := h6
    have e12 : y2 = dV kv.2 := dd_flat (hf kv List.mem_cons_self) h8
    subst e10 e11 e12 e7 e6 e5 e2 e1
    exact ⟨a :: ps, rfl, .cons (ex_t e h2) h5⟩
/-- dict(l), l a list of pairs -/
theorem de_dict {p2 : Pos} (hm : X.mg "dict" = none) (h : XE M Γ Rs X a (PD X.K (.list (more.map prKD)))) (hfl : ∀ kv ∈ more, flatD kv.2 = true) (hc : X.calm = true := by rfl) (hg : Gl X "dict" := by rfl) (he : starEach [a] X.env = (false, eval a X.env) :: starEach [] X.env := by rfl) : DE M Γ Rs (wpE X (.Call (.Name "dict" p2) [a] [] pos)) (mergeI [] more) :=
  fun σ H0 H l ex k Q q => PE.wp (pe_callTy (call_dictP hc) hg hm (by decide +kernel) (pa_cons pe_wp pa_nil he) (by decide) (by decide) he rfl) (h σ H0 H l ex k _ fun v H1 G1 s1 k1 hv => by
    obtain ⟨t, ys, rfl, h1, h2⟩ := hv
    obtain ⟨ps, e5, h5⟩ := dd_pairs s1.le hfl h2
    subst e5
    refine ⟨t, ps, kvD more, rfl, ?_, h5, fun p hp => ?_⟩
    · exact SqL.of (s1.le _ _ h1)
    · have e : mergeK [] (kvD more) = kvD (mergeI [] more) := (kvD_merge more []).symm
      rw [e]
      exact q p H1 G1 s1 k1 hp)
/-- d.update(dict(..)) -/
theorem xs_updD {cpos apos : Pos} (ho : XE M Γ (Res.dI Z q kvs :: Rs) X o (PV (.ref q))) (he : DE M Γ (Res.dI Z q kvs :: Rs) (wpE X e) more) (hz : kvs.length + more.length ≤ 1000000) (k : XS M Γ (Res.dI Z q (mergeI kvs more) :: Rs) X Z0 Z Hl D rest)
    (hpe : PE X (.Call (.Attribute o "update" apos) [e] [] cpos) (tBM X.K "dict" rUpd (wpE X o) (tCons (wpE X e) tNil))) (hs : swapsWith (.Call (.Attribute o "update" apos) [e] [] cpos) none pos.line X.env = pure false := by rfl) : XS M Γ (Res.dI Z q kvs :: Rs) X Z0 Z Hl D (.Expr (.Call (.Attribute o "update" apos) [e] [] cpos) pos :: rest) :=
  xs_cons (ps_expr hpe hs) fun σ H0 H l s b r => ho σ H0 H l s.le r _ fun v H1 G1 s1 k1 hv => by
    have hv' : v = .ref q := hv
    subst hv'
    obtain ⟨_, _, hq1⟩ := k1.2 _ List.mem_cons_self
    refine ⟨.inr (.inr (.inl ⟨rfl, .inl ⟨_, hq1⟩⟩)), ?_⟩
    refine he σ H1 G1 (l.ex s1.ex) s1.le k1 _ fun p H2 G2 s2 k2 hp => ?_
    obtain ⟨hz0, h0, hq2⟩ := k2.2 _ List.mem_cons_self
    have ne : q ≠ p := ne_of_none hq2 hp
    have t := (s.trans s1).trans s2
    have hn : Z p = none := by
      cases e : Z p with
      | none => rfl
      | some o =>
        obtain ⟨o', h'⟩ := t.th p o e
        rw [hp] at h'
        cases h'
    -- the new dict is laid beside what is known
    obtain ⟨t2, k3⟩ : Step M Z0 Z H2 (upd G2 p (.dK (kvD more))) ∧ Rok (Res.dI Z q kvs :: Rs) H2 (upd G2 p (.dK (kvD more))) := by
      obtain ⟨t3, k4⟩ := new_res (r := Res.dI Z p more) (o := .dK (kvD more)) t k2 hp rfl fun h0 h1 => ⟨h0, h1, by rw [upd_same]⟩
      exact ⟨t3, k4.tail⟩
    refine ⟨q, p, kvD kvs, kvD more, rfl, rfl, ne, by rw [upd_ne ne]; exact hq2, upd_same, by rw [List.length_map, List.length_map]; exact Nat.le_trans hz (by decide), ?_⟩
    rw [← kvD_merge]
    obtain ⟨t4, k5⟩ := res_wr (r' := Res.dI Z q (mergeI kvs more)) (o := .dK (kvD (mergeI kvs more))) t2 k3 rfl rfl hz0 h0 ⟨hz0, h0, by rw [upd_same]⟩
    exact k _ H2 _ (l.ex (s1.ex.trans s2.ex)) t4 (b.trans (s1.ex.trans s2.ex)) k5
/-- sorted(d), d at hand -/
theorem xe_sortDI {R : List Int} (hm : X.mg "sorted" = none) (h : XE M Γ (Res.dI Z q kvs :: Rs) X a (PV (.ref q))) (hnd : (kvs.map (·.1)).Nodup) (hR : R.Pairwise (· < ·)) (h64 : R.length < 64) (hmem : ∀ z, z ∈ R ↔ z ∈ kvs.map (·.1))
    (hc : X.calm = true := by rfl) (hg : Gl X "sorted" := by rfl) (he : starEach [a] X.env = (false, eval a X.env) :: starEach [] X.env := by rfl) :
    XE M Γ (Res.dI Z q kvs :: Rs) X (.Call (.Name "sorted" p) [a] [] pos) (PD X.K (.list (li R))) :=
  YE.wp (pe_callB (call_sortedDI hc) hg hm (by decide +kernel) (pa_cons pe_wp pa_nil he) (by decide) (by decide) he rfl) fun σ H0 H l ex k Q q' => h σ H0 H l ex k _ fun v H1 G1 s1 k1 hv => by
    have hv' : v = .ref q := hv
    subst hv'
    obtain ⟨_, _, hq1⟩ := k1.2 _ List.mem_cons_self
    have hRn : R.Nodup := hR.imp fun h => by omega
    have hp : R.Perm (kvs.map (·.1)) := (List.perm_ext_iff_of_nodup hRn hnd).mpr hmem
    refine ⟨q, kvD kvs, kvs.map (·.1), rfl, .inl hq1, by simp [kvD], by rw [← hp.length_eq]; exact h64, fun ys p hy hs hn => ?_⟩
    have ey : ys = R := List.Perm.eq_of_pairwise (le := fun a b => decide (a ≤ b)) (fun a b _ _ h1 h2 => by
      have h1' : a ≤ b := by simpa using h1
      have h2' : b ≤ a := by simpa using h2
      omega) (hs.imp fun h => by simpa using h) (hR.imp fun h => by simp; omega) (hy.trans hp.symm)
    subst ey
    have t := Step.new (M := M0) (o := .lst (ys.map V.int)) s1.le hn
    exact q' _ _ _ (s1.trans t.of0) (k1.step0 t) ⟨p, ys.map V.int, rfl, upd_same, DdAll.of_ints ys⟩
end
end Lh
/-! The head of a law with a lambda: what is held behind the top, without the empty tables; properties and their getters. -/
namespace LhH
open PySem PySem.Spec PyProof.Rows L2 He
/-- a property of a class, its getter -/
structure GetD where
  cls : Str
  nm : Str
  qual : Str
  params : Arguments
  body : List Stmt
  scope : Scope
def pAd (K : PySem.W.Frag) (d : GetD) : Addr := ma K (ga K d.cls) d.nm
def gAd (K : PySem.W.Frag) (d : GetD) : Addr := match PySem.W.recIn K (pAd K d) "property" with
  | some (.ref f :: _) => f
  | _ => 0
def isProp (K : PySem.W.Frag) (d : GetD) : Bool := match PySem.W.recIn K (pAd K d) "property" with
  | some (.ref _ :: _) => true
  | _ => false
def gW (K : PySem.W.Frag) (d : GetD) : FnW := match K.lookup (gAd K d) with
  | some ⟨_, _, .func k, _⟩ =>
    some (k.name, k.qualname, k.params,
      k.body, k.scope, k.globals, k.closure, k.builtins)
  | _ => none
def GetD.val (d : GetD) : FnW := some (d.nm, d.qual, d.params, .stmts d.body, d.scope, mainGlobals, [], builtinsNs)
def codeB (K : PySem.W.Frag) (d : GetD) : Bool := match K.lookup (gAd K d) with
  | some ⟨_, _, .func fd, _⟩ => PySem.W.codeIn K fd.code d.qual && (dflB K fd.defaults [] && kwdB K fd.kwdefaults [])
  | _ => false
def GetD.ok (K : PySem.W.Frag) (d : GetD) : Bool := eqO (PySem.W.findIn K (.ref (ga K d.cls)) d.nm) (some (some (.ref (pAd K d)))) && (eqO (PySem.W.specialIn K (.ref (pAd K d)) "__get__") (some (some (.builtin "property.__get__"))) && (decide (PySem.W.takesIn K (.ref (pAd K d)) = some true) && (isProp K d && (PySem.W.keepIn K (.ref (gAd K d)) && codeB K d))))
theorem GetD.prop {K : PySem.W.Frag} {d : GetD} (c : d.ok K = true) : PropOf K (ga K d.cls) d.nm (pAd K d) (gAd K d) := by
  obtain ⟨c1, c2⟩ := ba c
  obtain ⟨c3, c4⟩ := ba c2
  obtain ⟨c5, c6⟩ := ba c4
  obtain ⟨c7, _⟩ := ba c6
  refine ⟨eqO_ok c1, eqO_ok c3, of_decide_eq_true c5, ?_⟩
  unfold isProp at c7
  unfold gAd
  split at c7
  · rename_i f r e
    rw [e]
    exact ⟨r, rfl⟩
  · cases c7
theorem GetD.funD {K : PySem.W.Frag} {d : GetD} (e : gW K d = d.val) (c : d.ok K = true) : ∃ fd, FunD K d.nm d.qual d.params d.body d.scope [] [] (gAd K d) fd := by
  obtain ⟨_, c2⟩ := ba c
  obtain ⟨_, c4⟩ := ba c2
  obtain ⟨_, c6⟩ := ba c4
  obtain ⟨_, c8⟩ := ba c6
  obtain ⟨kp, c9⟩ := ba c8
  unfold gW at e
  unfold codeB at c9
  cases q : K.lookup (gAd K d) with
  | none =>
    rw [q] at c9
    cases c9
  | some o =>
    obtain ⟨oc, od, dt, osl⟩ := o
    rw [q] at c9 e
    cases dt with
    | func fd =>
      obtain ⟨w1, w2, w3, w4, w5, w6, w7, w8, w9, w10, w11, w12, w13, w14, w15⟩ := fd
      have e2 : (some (w1, w2, w3, w4, w5, w6, w7, w15) : FnW) = some (d.nm, d.qual, d.params, .stmts d.body, d.scope, mainGlobals, [], builtinsNs) := e
      simp only [Prod.mk.injEq, Option.some.injEq] at e2
      obtain ⟨u1, u2, u3, u4, u5, u6, u7, u8⟩ := e2
      subst u1 u2 u3 u4 u5 u6 u7 u8
      have c3 : (PySem.W.codeIn K w13 d.qual && (dflB K w8 [] && kwdB K w9 [])) = true := c9
      obtain ⟨k1, k2⟩ := ba c3
      obtain ⟨k3, k4⟩ := ba k2
      exact ⟨_, ⟨oc, od, w8, w9, w10, w11, w12, w13, w14, osl, rfl, q, k1, dflB_ok k3, kwdB_ok k4⟩, kp⟩
    | _ => cases c9
theorem fun_of {K : PySem.W.Frag} {x qual : Str} {st : Stmt} {f : Addr} {fd : FuncData} (F : FunD K x qual (defArgs st) (defBody st) (defScope st) [] [] f fd) : Fun K x qual st f fd := by
  obtain ⟨⟨oc, od, dV, kV, doc, pm, an, cdv, ct, osl, e, lk, c, hD, _⟩, kp⟩ := F
  rcases hD with ⟨_, e2⟩ | ⟨e2, _⟩
  · subst e2
    exact ⟨⟨oc, od, kV, doc, pm, an, cdv, ct, osl, e, lk, c⟩, kp⟩
  · exact absurd rfl e2
theorem code_of {K : PySem.W.Frag} {x qual : Str} {st : Stmt} {p : Defn} {fd : FuncData} (F : FunD K x qual (defArgs st) (defBody st) (defScope st) [] [] (fAd K p) fd) : LhL.CodeAt K x qual st (fAd K p) fd (cT K p).1 := by
  obtain ⟨⟨oc, od, dV, kV, doc, pm, an, cdv, ct, osl, e, lk, c, hD, _⟩, kp⟩ := F
  obtain ⟨u, rfl⟩ := codeIn_ref c
  rcases hD with ⟨_, e2⟩ | ⟨e2, _⟩
  · subst e2
    have e3 : (cT K p).1 = u := codeOf_eq lk (by rw [e])
    rw [e3]
    exact ⟨oc, od, kV, doc, pm, an, ct, osl, e, lk, c⟩
  · exact absurd rfl e2
/-! ### a part without its empty tables -/
def bare (K0 : PySem.W.Frag) : PySem.W.Frag := K0.filter fun q => !emptyTab q.2
theorem look_filter {a : Addr} {o : Obj} : ∀ {l : List (Addr × Obj)}, (l.map (·.1)).Nodup → (a, o) ∈ l → l.lookup a = some o
  | [], _, h => by cases h
  | (b, u) :: r, nd, h => by
    have nd' : b ∉ r.map (·.1) ∧ (r.map (·.1)).Nodup := List.nodup_cons.mp nd
    show (match a == b with | true => some u | false => r.lookup a) = some o
    obtain e | h := List.mem_cons.mp h
    · injection e with e1 e2
      subst e1 e2
      rw [beq_self_eq_true]
    · have ne : (a == b) = false := beq_eq_false_iff_ne.mpr fun e => nd'.1 (by
        rw [← e]
        exact List.mem_map.mpr ⟨(a, o), h, rfl⟩)
      rw [ne]
      exact look_filter nd'.2 h
theorem bare_look {K0 : PySem.W.Frag} (nd : (K0.map (·.1)).Nodup) {a : Addr} {o : Obj} (h : (bare K0).lookup a = some o) : K0.lookup a = some o ∧ emptyTab o = false := by
  have hm := lookup_mem h
  obtain ⟨h1, h2⟩ := List.mem_filter.mp hm
  refine ⟨look_filter nd h1, ?_⟩
  cases q : emptyTab o with
  | false => rfl
  | true =>
    have no : (!emptyTab o) = true := h2
    rw [q] at no
    cases no
theorem bare_in {K0 : PySem.W.Frag} (nd : (K0.map (·.1)).Nodup) {h : Heap} (X : K0.In h) : (bare K0).In h := fun a o e => X a o (bare_look nd e).1
theorem bare_none {K0 : PySem.W.Frag} (nd : (K0.map (·.1)).Nodup) {a : Addr} {o : Obj} (h : K0.lookup a = some o) (ht : emptyTab o = true) : (bare K0).lookup a = none := by
  cases e : (bare K0).lookup a with
  | none => rfl
  | some u =>
    obtain ⟨h1, h2⟩ := bare_look nd e
    rw [h] at h1
    have eo := Option.some.inj h1
    rw [← eo, ht] at h2
    cases h2
def ndB : List Addr → Bool
  | [] => true
  | a :: r => r.all (fun b => !Nat.beq a b) && ndB r
theorem nd_of : ∀ {l : List Addr}, ndB l = true → l.Nodup
  | [], _ => List.nodup_nil
  | a :: r, h => by
    obtain ⟨h1, h2⟩ := ba (show (r.all (fun b => !Nat.beq a b) && ndB r) = true from h)
    refine List.nodup_cons.mpr ⟨fun hm => ?_, nd_of h2⟩
    have h3 := List.all_eq_true.mp h1 a hm
    rw [Nat.beq_refl] at h3
    cases h3
/-- what is asked of a part: facts, defs, getters, one def's table -/
def asked (fa : List Fa) (fn : List DefD) (gs : List GetD) (p : Defn) (ex : PySem.W.Frag → Bool) (K0 : PySem.W.Frag) : AlD × List FnW × Bool :=
  (obsD fa fn (bare K0), gs.map (gW (bare K0)), ex (bare K0) && (gs.all (GetD.ok (bare K0)) && (PySem.W.codeHdIn (bare K0) (cT (bare K0) p).1 (cT (bare K0) p).2 && (match K0.lookup (cT (bare K0) p).2 with
    | some o => emptyTab o
    | none => false))))
structure Told (fa : List Fa) (fn : List DefD) (gs : List GetD) (p : Defn) (ex : PySem.W.Frag → Bool) (h : Heap) (K : PySem.W.Frag) : Prop where
  in_ : K.In h
  d : SaysD fa fn K
  gw : gs.map (gW K) = gs.map GetD.val
  gok : ∀ d ∈ gs, d.ok K = true
  more : ex K = true
  hd : PySem.W.codeHdIn K (cT K p).1 (cT K p).2 = true
  out : K.lookup (cT K p).2 = none
  empty : h.get? (cT K p).2 = some { cls := .none, data := .fields #[] }
theorem told {fa : List Fa} {fn : List DefD} {gs : List GetD} {p : Defn} {ex : PySem.W.Frag → Bool} {K0 : PySem.W.Frag} {h : Heap} (nd : (K0.map (·.1)).Nodup) (X : K0.In h) (e : asked fa fn gs p ex K0 = (valD fn, gs.map GetD.val, true)) : Told fa fn gs p ex h (bare K0) := by
  have e1 : obsD fa fn (bare K0) = valD fn := congrArg (fun z : AlD × List FnW × Bool => z.1) e
  have e2 : gs.map (gW (bare K0)) = gs.map GetD.val := congrArg (fun z : AlD × List FnW × Bool => z.2.1) e
  have e3 := congrArg (fun z : AlD × List FnW × Bool => z.2.2) e
  obtain ⟨h1, h2⟩ := ba e3
  obtain ⟨h3, h4⟩ := ba h2
  obtain ⟨h5, h6⟩ := ba h4
  cases q : K0.lookup (cT (bare K0) p).2 with
  | none =>
    rw [q] at h6
    cases h6
  | some o =>
    rw [q] at h6
    have h7 : emptyTab o = true := h6
    exact ⟨bare_in nd X, e1, e2, fun d hd => List.all_eq_true.mp h3 d hd, h1, h5, bare_none nd q h7, by
      rw [X _ _ q, emptyTab_eq h7]⟩
/-- .. of a part that holds no table, the tables' places told beside it -/
def askedM (fa : List Fa) (fn : List DefD) (gs : List GetD) (p : Defn) (ex : PySem.W.Frag → Bool) (ts : List Addr) (K : PySem.W.Frag) : AlD × List FnW × Bool :=
  (obsD fa fn K, gs.map (gW K), ex K && (gs.all (GetD.ok K) && (PySem.W.codeHdIn K (cT K p).1 (cT K p).2 && ((K.lookup (cT K p).2).isNone && ts.contains (cT K p).2))))
theorem toldM {fa : List Fa} {fn : List DefD} {gs : List GetD} {p : Defn} {ex : PySem.W.Frag → Bool} {ts : List Addr} {K : PySem.W.Frag} {h : Heap} (X : K.In h) (hT : ∀ P ∈ ts, h.get? P = some { cls := .none, data := .fields #[] }) (e : askedM fa fn gs p ex ts K = (valD fn, gs.map GetD.val, true)) : Told fa fn gs p ex h K := by
  have e1 : obsD fa fn K = valD fn := congrArg (fun z : AlD × List FnW × Bool => z.1) e
  have e2 : gs.map (gW K) = gs.map GetD.val := congrArg (fun z : AlD × List FnW × Bool => z.2.1) e
  have e3 := congrArg (fun z : AlD × List FnW × Bool => z.2.2) e
  obtain ⟨h1, h2⟩ := ba e3
  obtain ⟨h3, h4⟩ := ba h2
  obtain ⟨h5, h6⟩ := ba h4
  obtain ⟨h7, h8⟩ := ba h6
  exact ⟨X, e1, e2, fun d hd => List.all_eq_true.mp h3 d hd, h1, h5, Option.isNone_iff_eq_none.mp h7, hT _ (List.contains_iff_mem.mp h8)⟩
theorem Told.get {fa : List Fa} {fn : List DefD} {gs : List GetD} {p : Defn} {ex : PySem.W.Frag → Bool} {h : Heap} {K : PySem.W.Frag} (c : Told fa fn gs p ex h K) (i : Nat) {d : GetD} (hi : gs[i]? = some d := by rfl) : PropOf K (ga K d.cls) d.nm (pAd K d) (gAd K d) ∧ ∃ fd, FunD K d.nm d.qual d.params d.body d.scope [] [] (gAd K d) fd := by
  have inG := List.mem_of_getElem? hi
  have e := congrArg (fun l : List FnW => l[i]?) c.gw
  have e' : (gs.map (gW K))[i]? = (gs.map GetD.val)[i]? := e
  rw [List.getElem?_map, List.getElem?_map, hi] at e'
  exact ⟨GetD.prop (c.gok d inG), GetD.funD (Option.some.inj e') (c.gok d inG)⟩
end LhH
/-! A law with tables of several defs, and errors: its def, its head. -/
namespace LhX
open PySem L2 PySem.W PyProof.Rows PySem.Calls Lh
open He (ga ma fAd cT dflB dflB_ok SaysD obsD valD AlD DefD Defn FnW ba eqO eqO_ok codeIn_ref codeOf_eq)
open Evl (Ex ex_l ex_t ex_rd fresh_back)
section
variable {K : Frag} {mg : Str → Option Value} {base : Heap} {P : Program} {w : World}
/-- the law's promise; tables stand at Ps -/
abbrev spLawN (K : Frag) (Ps : List Addr) : Sp := fun vs H Q _ => ∃ (a : Addr) (ns : List Int), vs = [.ref a] ∧ SqL K H a (ns.map V.int) ∧ (∀ P ∈ Ps, H P = some (.tbl #[])) ∧ ns.length ≤ 63 ∧ (∀ z ∈ ns, Builtin.Int.intBits z ≤ 1048576) ∧ ∀ H', Q (.bl true) H'
theorem fn_LN {x qual : Str} {st : Stmt} {f c : Addr} {fd : FuncData} {N ps : List Str} {k : Nat} (Ts : List (Addr × Str)) (nd : (Ts.map (·.1)).Nodup) (F : LhL.CodeAt K x qual st f fd c) (S : FnScope N ps (defScope st)) (len : ps.length = 1)
    (hb : ∀ (ns : List Int) (Z0 Z : Hp) (Q : VK) (X : Cx) (qX : ∃ (A : Around) (outer : List Env) (s : Shared) (E : XK), X = (cxOf L2.CX0 P w K mg base N qual (defScope st) f (.ref c) A outer s Z E).nox ∧ Room k X.A), (∀ H', Q (.bl true) H') → ns.length ≤ 63 →
      XS (fun a => a ∈ Ts.map (·.1)) (ctOf N [PSc K ns]) (Ts.map fun p => LhL.tabR p.1 p.2) X Z0 Z Z0 { nx := fun _ H' => Q .non H', rt := Q } (defBody st)) : FnOk P w K mg base L2.CX0 (k + 1) f fd ps (spLawN K (Ts.map (·.1))) := by
  obtain ⟨oc, od, kV, doc, pm, an, ct, osl, rfl, lk, hcd⟩ := F.ex
  refine fn_of lk hcd S (fun vs H Q E h => ?_) fun A outer s H vs Q E hr h => ?_
  · obtain ⟨a, ns, e, _⟩ := h
    rw [e, len]
    rfl
  · obtain ⟨a, ns, e, h1, hP, hl, _, q⟩ := h
    subst e
    obtain ⟨H0, hH0⟩ : ∃ H0 : Hp, H0 = fun a => if a ∈ Ts.map (·.1) then none else H a := ⟨_, rfl⟩
    have hin : ∀ a, a ∈ Ts.map (·.1) → H0 a = none := fun a ha => by
      rw [hH0]
      simp only [if_pos ha]
    have hout : ∀ a, a ∉ Ts.map (·.1) → H0 a = H a := fun a ha => by
      rw [hH0]
      simp only [if_neg ha]
    have ex : Ex H0 H := fun a o ha => by
      by_cases z : a ∈ Ts.map (·.1)
      · rw [hin a z] at ha
        cases ha
      · rw [hout a z] at ha
        exact ha
    have h2 : SqL K H0 a (ns.map V.int) := by
      rcases h1 with h1 | h1
      · refine .inl ?_
        have na : a ∉ Ts.map (·.1) := fun z => by
          have h3 := hP a z
          rcases h1 with h1 | ⟨o, h1⟩
          · rw [h3] at h1
            cases h1
          · rw [h3] at h1
            cases h1
        rcases h1 with h1 | ⟨o, h1⟩
        · exact .inl (by rw [hout a na]; exact h1)
        · exact .inr ⟨o, by rw [hout a na]; exact h1⟩
      · exact .inr h1
    have rk : Rok (Ts.map fun p => LhL.tabR p.1 p.2) H0 H := ⟨by
      have e : (Ts.map fun p => LhL.tabR p.1 p.2).flatMap (·.ad) = Ts.map (·.1) := by
        clear nd hP hH0 hin hout ex h2 hb
        induction Ts with
        | nil => rfl
        | cons t r ih =>
          rw [List.map_cons, List.flatMap_cons, ih]
          rfl
      rw [e]
      exact nd, fun r hr => by
      obtain ⟨p, hp, rfl⟩ := List.mem_map.mp hr
      have hp1 : p.1 ∈ Ts.map (·.1) := List.mem_map.mpr ⟨p, hp, rfl⟩
      exact ⟨hin _ hp1, #[], hP _ hp1, ⟨by trivial, fun pos cv h => by cases h⟩⟩⟩
    exact ⟨_, pss_wp.nox, hb ns H0 H Q _ ⟨A, outer, s, E, rfl, hr⟩ q hl _ H0 H (sl_start (DAll.cons ⟨a, rfl, h2⟩ DAll.nil)) (Lh.Step.rfl ex) (Ex.refl _) rk⟩
end
/-! ### errors' __init__s, told by the head -/
structure SupQ where
  cls : Str
  qual : Str
  params : Arguments
  body : List Stmt
  scope : Scope
def sAd (K : Frag) (d : SupQ) : Addr := ma K (ga K d.cls) "__init__"
abbrev SupW := Option (Str × Str × Arguments × FuncBody × Scope × Addr × List Str × Addr)
def sW (K : Frag) (d : SupQ) : SupW := match K.lookup (sAd K d) with
  | some ⟨_, _, .func k, _⟩ => some (k.name, k.qualname, k.params, k.body, k.scope, k.globals, k.closure.map (·.1), k.builtins)
  | _ => none
def SupQ.val (d : SupQ) : SupW := some ("__init__", d.qual, d.params, .stmts d.body, d.scope, mainGlobals, [("__class__" : Str)], builtinsNs)
/-- the class object -/
def oexB (K : Frag) (C : Addr) : Bool := match K.lookup C with
  | some ⟨.type "type", _, .cls cd, sl⟩ => (match cd.mro, sl.toList with
    | .ref C' :: bm, [_, _, _, _, some (.builtin n), _] => C' == C && (n == "ValueError.__new__" && (!cd.hasDel && (cd.hasDict && PySem.HandSPX.refsVE bm)))
    | _, _ => false)
  | _ => false
def oexM (K : Frag) (C : Addr) : Bool := oexB K C && (eqO (findIn K (.ref C) "__setattr__") (some (some (.builtin "object.__setattr__"))) && (decide (subIn K (.ref C) (.type "BaseException") = some true) && (decide (typeIn K (.ref C) = some (.type "type")) && keepIn K (.ref C))))
theorem oexM_ok {K : Frag} {C : Addr} (h : oexM K C = true) : OexC K C := by
  obtain ⟨h1, h⟩ := ba h
  obtain ⟨h2, h⟩ := ba h
  obtain ⟨h3, h⟩ := ba h
  obtain ⟨h4, h5⟩ := ba h
  refine ⟨?_, eqO_ok h2, of_decide_eq_true h3, of_decide_eq_true h4, h5⟩
  unfold oexB at h1
  split at h1
  · rename_i dd cd sl ho
    split at h1
    · rename_i C' bm k0 k1 k2 k3 n k5 hm hs
      obtain ⟨q1, h1⟩ := ba h1
      obtain ⟨q2, h1⟩ := ba h1
      obtain ⟨q3, h1⟩ := ba h1
      obtain ⟨q4, q5⟩ := ba h1
      have e1 : C' = C := beq_iff_eq.mp q1
      have e2 : n = "ValueError.__new__" := beq_iff_eq.mp q2
      subst e1 e2
      obtain ⟨nm, bs, mro, ns, qn, hd, sn, sub, ab, col, del⟩ := cd
      dsimp only at hm q3 q4
      subst hm q4
      have e3 : del = false := by simpa using q3
      subst e3
      have hsl : sl = #[k0, k1, k2, k3, some (.builtin "ValueError.__new__"), k5] := by
        obtain ⟨l⟩ := sl
        simp only at hs
        rw [hs]
      subst hsl
      exact ⟨nm, qn, ns, bs, bm, sn, sub, ab, col, dd, k0, k1, k2, k3, k5, ho, q5⟩
    · cases h1
  · cases h1
def fileB (K : Frag) (pf : Str) (cd : Value) : Bool := match cd with
  | .ref a => (match K.lookup a with
    | some ⟨_, _, .fields vs, _⟩ => (match (vs[2]? : Option Value) with
      | some (.str f _) => pf == f
      | _ => false)
    | _ => false)
  | _ => false
def cellB (K : Frag) (C : Addr) (cl : List (Str × Addr)) : Bool := match cl with
  | [(_, cc)] => (match K.lookup cc with
    | some ⟨_, _, .cell (some (.ref D)), _⟩ => Nat.beq D C
    | _ => false)
  | _ => false
theorem cellB_ok {K : Frag} {C cc : Addr} {cn : Str} (h : cellB K C [(cn, cc)] = true) : ∃ ocl ocd osl, K.lookup cc = some ⟨ocl, ocd, .cell (some (.ref C)), osl⟩ := by
  have h' : (match K.lookup cc with
    | some ⟨_, _, .cell (some (.ref D)), _⟩ => Nat.beq D C
    | _ => false) = true := h
  cases q : K.lookup cc with
  | none =>
    rw [q] at h'
    cases h'
  | some o =>
    obtain ⟨oc, od, dt, osl⟩ := o
    rw [q] at h'
    cases dt with
    | cell v =>
      cases v with
      | none => cases h'
      | some u =>
        cases u with
        | ref D =>
          have e : D = C := Nat.eq_of_beq_eq_true h'
          subst e
          exact ⟨oc, od, osl, rfl⟩
        | _ => cases h'
    | _ => cases h'
theorem fileB_ok {K : Frag} {pf : Str} {a : Addr} (h : fileB K pf (.ref a) = true) : ∃ ccl cdd vs ccs f tf, K.lookup a = some ⟨ccl, cdd, .fields vs, ccs⟩ ∧ (vs[2]? : Option Value) = some (.str f tf) ∧ (pf == f) = true := by
  have h' : (match K.lookup a with
    | some ⟨_, _, .fields vs, _⟩ => (match (vs[2]? : Option Value) with
      | some (.str f _) => pf == f
      | _ => false)
    | _ => false) = true := h
  cases q : K.lookup a with
  | none =>
    rw [q] at h'
    cases h'
  | some o =>
    obtain ⟨oc, od, dt, osl⟩ := o
    rw [q] at h'
    cases dt with
    | fields vs =>
      have h2 : (match (vs[2]? : Option Value) with
        | some (.str f _) => pf == f
        | _ => false) = true := h'
      cases q2 : (vs[2]? : Option Value) with
      | none =>
        rw [q2] at h2
        cases h2
      | some u =>
        rw [q2] at h2
        cases u with
        | str f tf => exact ⟨oc, od, vs, osl, f, tf, rfl, q2, h2⟩
        | _ => cases h2
    | _ => cases h'
def supB (K : Frag) (pf : Str) (d : SupQ) : Bool := match K.lookup (sAd K d) with
  | some ⟨_, _, .func fd, _⟩ => codeIn K fd.code d.qual && (dflB K fd.defaults [] && (fileB K pf fd.code && cellB K (ga K d.cls) fd.closure))
  | _ => false
def SupQ.ok (K : Frag) (pf : Str) (d : SupQ) : Bool :=
  supB K pf d && (eqO (nsIn K mainGlobals d.cls) (some (some (.ref (ga K d.cls)))) && (eqO (nsIn K mainGlobals "super") (some none) && (eqO (nsIn K cStatics "thirdparty.any") (some none) && (eqO (ks_superIn K (ga K d.cls) (ga K d.cls) "__init__") (some (some (.builtin "ValueError.__init__"))) &&
    (decide (subIn K (.ref (ga K d.cls)) (.type "ValueError") = some true) && (decide (mroIn K (ga K d.cls) (.ref (ga K d.cls)) = some true) && (oexM K (ga K d.cls) && (eqO (findIn K (.ref (ga K d.cls)) "__init__") (some (some (.ref (sAd K d)))) && decide (typeIn K (.ref (sAd K d)) = some (.type "function"))))))))))
theorem SupQ.told {K : Frag} {P : Program} {mg : Str → Option Value} {h : Heap} {d : SupQ} {st : Stmt} (X : K.In h) (G : h.Ns mainGlobals mg) (e : sW K d = d.val) (c : d.ok K P.main.file = true) (hd : d = ⟨d.cls, d.qual, defArgs st, defBody st, defScope st⟩) (top : (P.main.scope.names.lookup ("super" : Str)).isSome = false) :
    ∃ fd, SupD P K mg (ga K d.cls) d.qual st (sAd K d) fd ∧ ErrC K mg d.cls (ga K d.cls) ∧ OexC K (ga K d.cls) ∧ findIn K (.ref (ga K d.cls)) "__init__" = some (some (.ref (sAd K d))) ∧ typeIn K (.ref (sAd K d)) = some (.type "function") ∧
      ∃ (cl : List (Str × Addr)) (kV doc pm cdv ct : Value) (an : Option Addr), fd = fnX "__init__" d.qual (defArgs st) (defBody st) (defScope st) cl .none kV doc pm an cdv ct := by
  obtain ⟨c0, c⟩ := ba c
  obtain ⟨c1, c⟩ := ba c
  obtain ⟨c2, c⟩ := ba c
  obtain ⟨c3, c⟩ := ba c
  obtain ⟨c4, c⟩ := ba c
  obtain ⟨c5, c⟩ := ba c
  obtain ⟨c6, c⟩ := ba c
  obtain ⟨c7, c⟩ := ba c
  obtain ⟨c8, c9⟩ := ba c
  have ox := oexM_ok c7
  have hp : d.params = defArgs st := by rw [hd]
  have hb : d.body = defBody st := by rw [hd]
  have hs : d.scope = defScope st := by rw [hd]
  unfold sW at e
  unfold supB at c0
  cases q : K.lookup (sAd K d) with
  | none =>
    rw [q] at c0
    cases c0
  | some o =>
    obtain ⟨oc, od, dt, osl⟩ := o
    rw [q] at c0 e
    cases dt with
    | func fd =>
      obtain ⟨w1, w2, w3, w4, w5, w6, w7, w8, w9, w10, w11, w12, w13, w14, w15⟩ := fd
      have e2 : (some (w1, w2, w3, w4, w5, w6, w7.map (·.1), w15) : SupW) = some (("__init__" : Str), d.qual, d.params, FuncBody.stmts d.body, d.scope, mainGlobals, [("__class__" : Str)], builtinsNs) := e
      simp only [Prod.mk.injEq, Option.some.injEq] at e2
      obtain ⟨u1, u2, u3, u4, u5, u6, u7, u8⟩ := e2
      subst u1 u2 u3 u4 u5 u6 u8
      have c0' : (codeIn K w13 d.qual && (dflB K w8 [] && (fileB K P.main.file w13 && cellB K (ga K d.cls) w7))) = true := c0
      obtain ⟨k1, c0⟩ := ba c0'
      obtain ⟨k2, c0⟩ := ba c0
      obtain ⟨k3, k4⟩ := ba c0
      obtain ⟨cda, rfl⟩ := codeIn_ref k1
      have hdV := dflB_ok k2
      rcases hdV with ⟨_, e3⟩ | ⟨e3, _⟩
      · subst e3
        cases w7 with
        | nil => simp at u7
        | cons p7 r7 =>
          obtain ⟨cn, cc⟩ := p7
          have e7 : cn = "__class__" ∧ r7 = [] := by simpa using u7
          obtain ⟨rfl, rfl⟩ := e7
          obtain ⟨ocl, ocd, osl2, lcc⟩ := cellB_ok k4
          obtain ⟨ccl, cdd, vs, ccs, f, tf, lcd, hvs, hf⟩ := fileB_ok k3
          rw [hp, hb, hs] at *
          exact ⟨_, ⟨⟨oc, w9, w10, w11, w14, ccl, ocl, od, w12, cdd, ocd, osl, ccs, osl2, cda, cc, vs, f, tf, rfl, q, k1, lcd, hvs, hf, lcc⟩, top, mg_none_of X G (eqO_ok c2), eqO_ok c3, eqO_ok c4, of_decide_eq_true c5, of_decide_eq_true c6, ox⟩,
            ⟨mg_of X G (eqO_ok c1), ox.kC, ox.exC, ox.tyC⟩, ox, eqO_ok c8, of_decide_eq_true c9, _, _, _, _, _, _, _, rfl⟩
      · exact absurd rfl e3
    | _ => cases c0
end LhX
/-! The head of a law with errors and tables of several defs. -/
namespace LhX
open PySem L2 PySem.W PyProof.Rows PySem.Calls Lh
open He (ga ma fAd cT SaysD obsD valD AlD DefD Defn FnW Fa ba eqO eqO_ok)
open LhH (GetD gW ndB nd_of)
def excB (K : Frag) (C : Addr) : Bool := eqO (findIn K (.ref C) "__getattribute__") (some (some (.builtin "BaseException.__getattribute__"))) && (eqO (findIn K (.ref C) "__getattr__") (some none) && (decide (subIn K (.ref C) (.type "BaseException") = some true) && (hasDictIn K C && (eqO (findIn K (.ref C) "__class__") (some (some (.builtin "object.__class__"))) &&
  (eqO (specialIn K (.builtin "object.__class__") "__get__") (some (some (.builtin "getset_descriptor.__get__"))) && (decide (takesIn K (.builtin "object.__class__") = some true) && decide (mroIn K C (.type "object") = some true)))))))
theorem excB_ok {K : Frag} {C : Addr} (h : excB K C = true) : ExcC K C ∧ XfC K C := by
  obtain ⟨h1, h⟩ := ba h
  obtain ⟨h2, h⟩ := ba h
  obtain ⟨h3, h⟩ := ba h
  obtain ⟨h4, h⟩ := ba h
  obtain ⟨h5, h⟩ := ba h
  obtain ⟨h6, h⟩ := ba h
  obtain ⟨h7, h8⟩ := ba h
  exact ⟨⟨eqO_ok h1, eqO_ok h2, of_decide_eq_true h3, h4, eqO_ok h5, eqO_ok h6, of_decide_eq_true h7, of_decide_eq_true h8⟩, ⟨eqO_ok h1, eqO_ok h2, of_decide_eq_true h3, h4⟩⟩
def ersB (K : Frag) (names : List Str) (L : Str) : Bool := eqO (nsIn K mainGlobals L) (some (some (.ref (ga K L)))) && names.all fun x => eqO (nsIn K mainGlobals x) (some (some (.ref (ga K x)))) && (excB K (ga K x) && (decide (exmOne K (.ref (ga K x)) (.ref (ga K L)) = some true) && (decide (kitOne K (.ref (ga K x)) (.type "ValueError") = some true) &&
  names.all fun y => decide (kitOne K (.ref (ga K x)) (.ref (ga K y)) = some (decide (x = y))))))
theorem ersB_ok {K : Frag} {mg : Str → Option Value} {h : Heap} {names : List Str} {L : Str} (X : K.In h) (G : h.Ns mainGlobals mg) (e : ersB K names L = true) : Ers K mg (ga K) names L := by
  obtain ⟨h1, h2⟩ := ba e
  have h3 := fun x hx => List.all_eq_true.mp h2 x hx
  refine ⟨fun x hx => ?_, mg_of X G (eqO_ok h1), fun x hx => ?_, fun x hx => ?_, fun x hx => ?_, fun x hx y hy => ?_, fun x hx => ?_⟩
  · obtain ⟨q1, _⟩ := ba (h3 x hx)
    exact mg_of X G (eqO_ok q1)
  · obtain ⟨_, q⟩ := ba (h3 x hx)
    obtain ⟨q2, _⟩ := ba q
    exact (excB_ok q2).1
  · obtain ⟨_, q⟩ := ba (h3 x hx)
    obtain ⟨q2, _⟩ := ba q
    exact (excB_ok q2).2
  · obtain ⟨_, q⟩ := ba (h3 x hx)
    obtain ⟨_, q⟩ := ba q
    obtain ⟨q3, _⟩ := ba q
    exact of_decide_eq_true q3
  · obtain ⟨_, q⟩ := ba (h3 x hx)
    obtain ⟨_, q⟩ := ba q
    obtain ⟨_, q⟩ := ba q
    obtain ⟨_, q5⟩ := ba q
    exact of_decide_eq_true (List.all_eq_true.mp q5 y hy)
  · obtain ⟨_, q⟩ := ba (h3 x hx)
    obtain ⟨_, q⟩ := ba q
    obtain ⟨_, q⟩ := ba q
    obtain ⟨q4, _⟩ := ba q
    exact of_decide_eq_true q4
def err0B (K : Frag) (x : Str) : Bool := eqO (nsIn K mainGlobals x) (some (some (.ref (ga K x)))) && (keepIn K (.ref (ga K x)) && (decide (subIn K (.ref (ga K x)) (.type "BaseException") = some true) && (decide (typeIn K (.ref (ga K x)) = some (.type "type")) && excIn K (ga K x) PySem.HandSPX.veTail "ValueError.__new__")))
theorem err0B_ok {K : Frag} {mg : Str → Option Value} {h : Heap} {x : Str} (X : K.In h) (G : h.Ns mainGlobals mg) (e : err0B K x = true) : Err0 K mg x (ga K x) := by
  obtain ⟨h1, e⟩ := ba e
  obtain ⟨h2, e⟩ := ba e
  obtain ⟨h3, e⟩ := ba e
  obtain ⟨h4, h5⟩ := ba e
  exact ⟨⟨mg_of X G (eqO_ok h1), h2, of_decide_eq_true h3, of_decide_eq_true h4⟩, h5⟩
def noB (K : Frag) (x f : Str) : Bool := eqO (findIn K (.ref (ga K x)) f) (some none)
/-- what is asked: facts, defs, getters, errors' __init__s, tables -/
def askedX (fa : List Fa) (fn : List DefD) (gs : List GetD) (ps : List Defn) (ss : List SupQ) (pf : Str) (ex : Frag → Bool) (ts : List Addr) (K : Frag) : AlD × List FnW × List SupW × Bool :=
  (obsD fa fn K, gs.map (gW K), ss.map (sW K), ex K && (gs.all (GetD.ok K) && (ss.all (SupQ.ok K pf) && (ndB (ps.map fun p => (cT K p).2) && ps.all fun p => codeHdIn K (cT K p).1 (cT K p).2 && ((K.lookup (cT K p).2).isNone && ts.contains (cT K p).2)))))
structure ToldX (fa : List Fa) (fn : List DefD) (gs : List GetD) (ps : List Defn) (ss : List SupQ) (pf : Str) (ex : Frag → Bool) (h : Heap) (K : Frag) : Prop where
  in_ : K.In h
  d : SaysD fa fn K
  gw : gs.map (gW K) = gs.map GetD.val
  gok : ∀ d ∈ gs, d.ok K = true
  sw : ss.map (sW K) = ss.map SupQ.val
  sok : ∀ d ∈ ss, d.ok K pf = true
  more : ex K = true
  nd : (ps.map fun p => (cT K p).2).Nodup
  hd : ∀ p ∈ ps, codeHdIn K (cT K p).1 (cT K p).2 = true
  out : ∀ p ∈ ps, K.lookup (cT K p).2 = none
  empty : ∀ p ∈ ps, h.get? (cT K p).2 = some { cls := .none, data := .fields #[] }
theorem toldX {fa : List Fa} {fn : List DefD} {gs : List GetD} {ps : List Defn} {ss : List SupQ} {pf : Str} {ex : Frag → Bool} {ts : List Addr} {K : Frag} {h : Heap} (X : K.In h) (hT : ∀ P ∈ ts, h.get? P = some { cls := .none, data := .fields #[] }) (e : askedX fa fn gs ps ss pf ex ts K = (valD fn, gs.map GetD.val, ss.map SupQ.val, true)) : ToldX fa fn gs ps ss pf ex h K := by
  have e1 : obsD fa fn K = valD fn := congrArg (fun z : AlD × List FnW × List SupW × Bool => z.1) e
  have e2 : gs.map (gW K) = gs.map GetD.val := congrArg (fun z : AlD × List FnW × List SupW × Bool => z.2.1) e
  have e3 : ss.map (sW K) = ss.map SupQ.val := congrArg (fun z : AlD × List FnW × List SupW × Bool => z.2.2.1) e
  have e4 := congrArg (fun z : AlD × List FnW × List SupW × Bool => z.2.2.2) e
  obtain ⟨h1, e4⟩ := ba e4
  obtain ⟨h2, e4⟩ := ba e4
  obtain ⟨h3, e4⟩ := ba e4
  obtain ⟨h4, h5⟩ := ba e4
  have h6 := fun p hp => ba (List.all_eq_true.mp h5 p hp)
  exact ⟨X, e1, e2, fun d hd => List.all_eq_true.mp h2 d hd, e3, fun d hd => List.all_eq_true.mp h3 d hd, h1, nd_of h4, fun p hp => (h6 p hp).1, fun p hp => Option.isNone_iff_eq_none.mp (ba (h6 p hp).2).1, fun p hp => hT _ (List.contains_iff_mem.mp (ba (h6 p hp).2).2)⟩
section
variable {fa : List Fa} {fn : List DefD} {gs : List GetD} {ps : List Defn} {ss : List SupQ} {pf : Str} {ex : Frag → Bool} {h : Heap} {K : Frag}
theorem ToldX.get (c : ToldX fa fn gs ps ss pf ex h K) (i : Nat) {d : GetD} (hi : gs[i]? = some d := by rfl) : PropOf K (ga K d.cls) d.nm (LhH.pAd K d) (LhH.gAd K d) ∧ ∃ fd, FunD K d.nm d.qual d.params d.body d.scope [] [] (LhH.gAd K d) fd := by
  have inG := List.mem_of_getElem? hi
  have e := congrArg (fun l : List FnW => l[i]?) c.gw
  have e' : (gs.map (gW K))[i]? = (gs.map GetD.val)[i]? := e
  rw [List.getElem?_map, List.getElem?_map, hi] at e'
  exact ⟨GetD.prop (c.gok d inG), GetD.funD (Option.some.inj e') (c.gok d inG)⟩
theorem ToldX.sup {P : Program} {mg : Str → Option Value} (c : ToldX fa fn gs ps ss P.main.file ex h K) (G : h.Ns mainGlobals mg) (top : (P.main.scope.names.lookup ("super" : Str)).isSome = false) (i : Nat) {d : SupQ} {st : Stmt} (hi : ss[i]? = some d) (hd : d = ⟨d.cls, d.qual, defArgs st, defBody st, defScope st⟩) :
    ∃ fd, SupD P K mg (ga K d.cls) d.qual st (sAd K d) fd ∧ ErrC K mg d.cls (ga K d.cls) ∧ OexC K (ga K d.cls) ∧ findIn K (.ref (ga K d.cls)) "__init__" = some (some (.ref (sAd K d))) ∧ typeIn K (.ref (sAd K d)) = some (.type "function") ∧
      ∃ (cl : List (Str × Addr)) (kV doc pm cdv ct : Value) (an : Option Addr), fd = fnX "__init__" d.qual (defArgs st) (defBody st) (defScope st) cl .none kV doc pm an cdv ct := by
  have inS := List.mem_of_getElem? hi
  have e := congrArg (fun l : List SupW => l[i]?) c.sw
  have e' : (ss.map (sW K))[i]? = (ss.map SupQ.val)[i]? := e
  rw [List.getElem?_map, List.getElem?_map, hi] at e'
  exact SupQ.told c.in_ G (Option.some.inj e') (c.sok d inS) hd top
end
/-- an error class with an __init__, by its parts -/
theorem errI_of {P : Program} {w : World} {K : Frag} {mg : Str → Option Value} {base : Heap} {x : Str} {C fI : Addr} {fd : FuncData} {ps : List Str} {sp : Sp} (e : ErrC K mg x C) (o : OexC K C) (iC : findIn K (.ref C) "__init__" = some (some (.ref fI))) (tI : typeIn K (.ref fI) = some (.type "function")) (F : FnOk P w K mg base L2.CX0 2 fI fd ps sp) (b : Binds K fd ps []) : ErrI P w K mg base x C fI fd ps sp := ⟨e, o, iC, tI, F, b⟩
end LhX
/-! Objects of an own class compared by their own ==; isinstance of an own class. -/
namespace LhX
open PySem L2 PySem.W PyProof.Rows PySem.Calls Lh
open He (ba eqO eqO_ok)
/-- an own class as isinstance sees it -/
structure OwnC (K : Frag) (C : Addr) : Prop where
  at_ : findIn K (.ref C) "__class__" = some (some (.builtin "object.__class__"))
  gt : specialIn K (.builtin "object.__class__") "__get__" = some (some (.builtin "getset_descriptor.__get__"))
  tk : takesIn K (.builtin "object.__class__") = some true
  mr : mroIn K C (.type "object") = some true
  me : kitOne K (.ref C) (.ref C) = some true
  tup : kitOne K (.type "tuple") (.ref C) = some false
  nf : notFirst K C (.type "tuple") = true
def ownB (K : Frag) (C : Addr) : Bool := eqO (findIn K (.ref C) "__class__") (some (some (.builtin "object.__class__"))) && (eqO (specialIn K (.builtin "object.__class__") "__get__") (some (some (.builtin "getset_descriptor.__get__"))) && (decide (takesIn K (.builtin "object.__class__") = some true) && (decide (mroIn K C (.type "object") = some true) &&
  (decide (kitOne K (.ref C) (.ref C) = some true) && (decide (kitOne K (.type "tuple") (.ref C) = some false) && notFirst K C (.type "tuple"))))))
theorem ownB_ok {K : Frag} {C : Addr} (h : ownB K C = true) : OwnC K C := by
  obtain ⟨h1, h⟩ := ba h
  obtain ⟨h2, h⟩ := ba h
  obtain ⟨h3, h⟩ := ba h
  obtain ⟨h4, h⟩ := ba h
  obtain ⟨h5, h⟩ := ba h
  obtain ⟨h6, h7⟩ := ba h
  exact ⟨eqO_ok h1, eqO_ok h2, of_decide_eq_true h3, of_decide_eq_true h4, of_decide_eq_true h5, of_decide_eq_true h6, h7⟩
theorem ty_ob {K : Frag} {C : Addr} (o : OwnC K C) (c : Cls K C) {fs : List (Str × Pd)} {v : V} {H : Hp} (h : (PObj C fs).p v H) : TyX K H v (.ref C) := by
  obtain ⟨a, dx, vs, rfl, h2, _⟩ := h
  exact .base (.ins h2 c o.at_ o.gt o.tk o.mr)
theorem nf_me {K : Frag} {C : Addr} : notFirst K C (.ref C) = true := by
  unfold notFirst
  simp
/-- x == y where x is an object with an own == -/
def rEqO (K : Frag) (C : Addr) (sp : Sp) (E : XK) : R2 := fun x y H Q => ∃ a dx fs t, x = .ref a ∧ H a = some (.ins C dx fs) ∧ TyX K H y t ∧ notFirst K C t = true ∧ sp [x, y] H (fun v H' => ∃ u, v = .bl u ∧ Q (.bl u) H') E
section
variable {M : Addr → Prop} {Γ : Ct} {Rs : List Res} {X : Cx} {K : Frag} {a b : Expr} {pos p : Pos} {C : Addr}
theorem op_eqO {CX : CXT} {n : Nat} {g : Addr} {fd : FuncData} {ps : List Str} {sp : Sp} {E : XK} (F : FnOk X.prog X.w X.K X.mg X.base CX n g fd ps sp) (hf : findIn X.K (.ref C) "__eq__" = some (some (.ref g))) (hi : isFn X.K (.ref g) = true) (hb : Binds X.K fd ps []) (hr : Room n X.A) (hx : Passes CX X E) : OpR X (compareOp .Eq) (rEqO X.K C sp E) := by
  intro pins s σ H x y v u Q I rx ry hq
  obtain ⟨a, dx, fs, t, rfl, ha, ty, hn, hsp⟩ := hq
  cases rx
  show wpAny (model X.prog X.w) X.A (richCompare .Eq (.ref a) u) (EP X pins σ Q) X.xe s
  obtain ⟨mA, J, _⟩ := ins_get I.hok ha
  obtain ⟨od, J, _⟩ := J.look
  obtain ⟨m, hF⟩ := I.fr
  obtain ⟨Pp, kx, hP, _⟩ := kit_of I ry ty
  refine cmp_K (op := .Eq) (tb := t) hr.units0 hF I.ok.mod.kin J (kx.ty _ _ I.kIn hP) hn hf hi ?_
  have hl := F.len _ _ _ _ hsp
  have r2 : Vals [V.ref a, y] [Value.ref a, u] := .cons rfl (.cons ry .nil)
  refine wpAny_call (codeAny_mono (F.run X.A X.stack s H ⟨[.ref a, u], []⟩ [.ref a, u] [.ref a, y] _ E hr I.env0 (by
    have := hb s [.ref a, u] I.kIn (by simpa using hl)
    simpa using this) r2 hsp) fun r s' hq => ?_)
  cases r with
  | error e => exact hx pins σ H s e s' I hq
  | ok fl =>
    cases fl with
    | ret w =>
      obtain ⟨z, H', I', rz, u', ez, q⟩ := I.after hq
      subst ez
      cases rz
      exact ⟨.bl u', H', I', rfl, q⟩
    | next => exact False.elim hq
    | brk => exact False.elim hq
    | cont => exact False.elim hq
theorem yl_eqO {α : Type} {pre : α → List Pd} {post : α → Pd} {fs : List (Str × Pd)} {B : Pd} {t : Value} {z : Bool} (y : α) (hy : pre y = [PObj C fs, B]) (hz : post y = PD X.K (.bool z)) (hty : ∀ v H, B.p v H → TyX X.K H v t) (hn : notFirst X.K C t = true) {u v : V} {H0 H : Hp} {E : XK} (hu : (PObj C fs).p u H0) (hv : B.p v H0) (e : Evl.Ex H0 H) : Yld H0 H (PD X.K (.bool z)) (rEqO X.K C (SpP pre post) E u v H) := by
  obtain ⟨a, dx, vs, h1, h2, h3⟩ := id hu
  refine fun Q q => ⟨a, dx, vs, t, by rw [h1], e _ _ h2, hty _ _ (B.m e hv), hn, y, H0, e, Rok.nil, by rw [hy]; exact DAll.cons hu (DAll.cons hv DAll.nil), fun v H2 G2 s2 _ p2 => ?_⟩
  rw [hz] at p2
  have p3 : v = .bl z := p2
  exact ⟨z, p3, q _ H2 G2 (s2.imp fun _ z => z) rfl⟩
theorem xe_eqO {P' : Program} {w' : World} {K' : Frag} {base' : Heap} {mg' : Str → Option Value} {α : Type} {pre : α → List Pd} {post : α → Pd} {fs : List (Str × Pd)} {B : Pd} {t : Value} {z : Bool} {n : Nat} {g : Addr} {fd : FuncData} {ps : List Str} (F : FnOk P' w' K' mg' base' CX0 n g fd ps (SpP pre post)) (y : α) (ha : XE M Γ Rs X a (PObj C fs)) (hb : XE M Γ Rs X b B) (hy : pre y = [PObj C fs, B]) (hz : post y = PD K' (.bool z)) (hty : ∀ v H, B.p v H → TyX K' H v t) (hn : notFirst K' C t = true)
    (hm : Meth K' C "__eq__" g) (hr : Room n X.A) (hbd : Binds K' fd ps []) (eP : X.prog = P' := by rfl) (ew : X.w = w' := by rfl) (eK : X.K = K' := by rfl) (em : X.mg = mg' := by rfl) (eb : X.base = base' := by rfl) : XE M Γ Rs X (.Compare a [.Eq] [b] pos) (PD K' (.bool z)) := by
  subst eP ew eK em eb
  exact xe_cmp (op_eqO F hm.at_ hm.fn hbd hr pass0 (E := E0)) ha hb (fun x v H0 H hx hv e _ => yl_eqO y hy hz hty hn hx hv e) (nomark _)
theorem xt_eqO {P' : Program} {w' : World} {K' : Frag} {base' : Heap} {mg' : Str → Option Value} {α : Type} {pre : α → List Pd} {post : α → Pd} {fs : List (Str × Pd)} {B : Pd} {t : Value} {z : Bool} {n : Nat} {g : Addr} {fd : FuncData} {ps : List Str} (F : FnOk P' w' K' mg' base' CX0 n g fd ps (SpP pre post)) (y : α) (ha : XE M Γ Rs X a (PObj C fs)) (hb : XE M Γ Rs X b B) (hy : pre y = [PObj C fs, B]) (hz : post y = PD K' (.bool z)) (hty : ∀ v H, B.p v H → TyX K' H v t) (hn : notFirst K' C t = true)
    (hm : Meth K' C "__eq__" g) (hr : Room n X.A) (hbd : Binds K' fd ps []) (eP : X.prog = P' := by rfl) (ew : X.w = w' := by rfl) (eK : X.K = K' := by rfl) (em : X.mg = mg' := by rfl) (eb : X.base = base' := by rfl) : XT M Γ Rs X (.Compare a [.Eq] [b] pos) (Is z) := by
  subst eP ew eK em eb
  exact xt_cmp (K := X.K) (op_eqO F hm.at_ hm.fn hbd hr pass0 (E := E0)) ha hb (fun x v H0 H hx hv e _ => (yl_eqO y hy hz hty hn hx hv e).pb) (nomark _)
/-- isinstance(a, x), x an own class -/
theorem xe_isO {P : Pd} {t : Value} {x : Str} {u : Bool} {pt : Pos} (hty : ∀ v H, P.p v H → TyX X.K H v t) (hk : kitOne X.K t (.ref C) = some u) (hm : X.mg "isinstance" = none) (hC : X.mg x = some (.ref C)) (h : XE M Γ Rs X a P) (hb : bootBuiltins "isinstance" = some (.builtin "isinstance") := by decide +kernel) (hg : Gl X "isinstance" := by rfl) (hg2 : Gl X x := by rfl)
    (hd : (x == ("__debug__" : Str)) = false := by decide) (he : starEach [a, .Name x pt] X.env = (false, eval a X.env) :: starEach [.Name x pt] X.env := by rfl) (he2 : starEach [.Name x pt] X.env = (false, eval (.Name x pt) X.env) :: starEach [] X.env := by rfl) (hpl : (backTo pos (starEach [.Name x pt] X.env)).any (·.1) = false := by rfl) :
    XE M Γ Rs X (.Call (.Name "isinstance" p) [a, .Name x pt] [] pos) (PD K (.bool u)) :=
  xe_callB call_isi hm hb (xa_cons h (xa_1 (YE.wp (pe_glob (v := .ref C) hg2 hC rfl hd) (ye_c (P := PV (.ref C)) fun _ => rfl)) he2) he) (fun xs H0 H hx e _ => by
    obtain ⟨x, r, e1, h1, h3⟩ := hx.inv
    obtain ⟨y, r', e2, h2, h4⟩ := h3.inv
    have e3 := h4.nil_inv
    have h2' : y = .ref C := h2
    subst e1 e2 e3 h2'
    exact Yld.val (z := .bl u) e rfl fun Q k => ⟨x, .ref C, t, .ref C, u, rfl, .own C, hty _ _ (P.m e h1), hk, k⟩) hg (by decide) (by decide) he hpl
/-- a tuple again and again -/
theorem xe_repT {ds : List PyData} {k : Int} (ha : XE M Γ Rs X a (PD X.K (.tuple ds))) (hb : XE M Γ Rs X b (PD X.K (.int k))) (hne : ds ≠ []) (hk : 2 ≤ k ∧ k ≤ 1000) (hz : ds.length ≤ 1000) : XE M Γ Rs X (.BinOp a .Mult b pos) (PD X.K (.tuple (List.replicate k.toNat ds).flatten)) :=
  xe_bin op_repT ha hb fun x y H0 H hx hy e _ => by
    obtain ⟨a, xs, ex, h1, h2⟩ := hx
    refine Yld.newT e (dd_rep h2 _) fun Q q => ⟨a, k, xs, ex, hy, Evl.ex_t e h1, fun z => hne (List.length_eq_zero_iff.mp (by rw [← h2.len, z]; rfl)), hk.1, hk.2, by rw [h2.len]; exact hz, q⟩
/-- a call without arguments of a def that works on the first of those at hand -/
theorem xe_callM0 {P' : Program} {w' : World} {K' : Frag} {mg' : Str → Option Value} {base' : Heap} {α : Type} {M1 : α → Addr → Prop} {R1 : α → List Res} {pre : α → List Pd} {post : α → Pd} {x : Str} {f : Addr} {fd : FuncData} {ps : List Str} {k : Nat} {r1 : Res} {Rs2 : List Res} (F : FnOk P' w' K' mg' base' CX0 k f fd ps (SpF M1 R1 pre post)) (y : α) (hr : Room k X.A)
    (hm : mg' x = some (.ref f)) (hk : keepIn K' (.ref f) = true) (hb : Binds K' fd ps []) (hp : pre y = []) (h1 : R1 y = [r1]) (h2 : ∀ a, M1 y a → M a) (h3 : ∀ a, M1 y a → a ∈ r1.ad) (hg : Gl X x := by rfl) (hdb : (x == ("__debug__" : Str)) = false := by decide)
    (eP : X.prog = P' := by rfl) (ew : X.w = w' := by rfl) (eK : X.K = K' := by rfl) (em : X.mg = mg' := by rfl) (eb : X.base = base' := by rfl) : XE M Γ (r1 :: Rs2) X (.Call (.Name x p) [] [] pos) (post y) := by
  subst eP ew eK em eb
  exact YE.wp (pe_call0 F hr hg hm hk hb (dvs := []) .nil pass0 hdb) fun σ H0 H l ex r Q q => by
    have d := r.1
    rw [List.flatMap_cons, List.nodup_append] at d
    refine ⟨y, H0, ex, ?_, by rw [hp]; exact DAll.nil, fun v H2 G2 s2 k2 p2 => ?_⟩
    · rw [h1]
      exact ⟨by simpa using d.1, fun r' hr => r.2 r' (by rw [List.mem_singleton.mp hr]; exact List.mem_cons_self)⟩
    · have k3 : Rok Rs2 H2 G2 := (show Rok Rs2 H0 H from ⟨d.2.1, fun r' hr => r.2 r' (List.mem_cons_of_mem _ hr)⟩).step s2 fun r' hr a ha hm => d.2.2 a (h3 a hm) a (List.mem_flatMap.mpr ⟨r', hr, ha⟩) rfl
      refine q v H2 G2 (s2.imp h2) ⟨r.1, fun r' hr => ?_⟩ p2
      rcases List.mem_cons.mp hr with e1 | hr
      · rw [e1]
        exact k2.2 r1 (by rw [h1]; exact List.mem_cons_self)
      · exact k3.2 r' hr
end
end LhX
/-! `l != []` of a list of things; a tuple of one thing again and again. -/
namespace LhX
open PySem PySem.Spec PyProof.Rows L2 Lh
open Evl (Ex ex_l ex_t ex_rd fresh_back)
theorem op_ne0 {X : Cx} (hu : X.A.units + 64 < cLine) : OpR X (compareOp .NotEq) (fun x y H Q => ∃ a b xs, x = V.ref a ∧ y = V.ref b ∧ SqL X.K H a xs ∧ SqL X.K H b [] ∧ Q (.bl (!xs.isEmpty)) H) := by
  intro pins s σ H x y v u Q I rx ry h
  obtain ⟨a, b, xs, rfl, rfl, ha, hb, q⟩ := h
  cases rx
  cases ry
  obtain ⟨us, r1, p1, _⟩ := I.list ha
  obtain ⟨ws, r2, p2, _⟩ := I.list hb
  have hws : ws = [] := by
    cases r2
    rfl
  subst hws
  cases xs with
  | nil =>
    have hus : us = [] := by
      cases r1
      rfl
    subst hus
    exact SeqAt.RcNeAt.lists (e := fun _ => true) p1.isList p2.isList rfl (by omega) (fun j h1 _ => absurd h1 (Nat.not_lt_zero j)) _ _ _ _ ⟨.bl _, H, I, rfl, q⟩
  | cons x xs =>
    have hus : (us.toArray.size != ([] : List Value).toArray.size) = true := by
      cases r1
      simp
    exact SeqAt.RcNeAt.lists_lengths p1.isList p2.isList hus (by omega) _ _ _ _ ⟨.bl _, H, I, rfl, q⟩
section
variable {M : Addr → Prop} {Γ : Ct} {Rs : List Res} {X : Cx} {a b o : Expr} {pos : Pos}
/-- o != [], a list of things -/
theorem xt_ne0 {Ps : List Pd} {n : Nat} (hr : Room n X.A) (ho : XE M Γ Rs X o (PLs Ps)) {pl : Pos} : XT M Γ Rs X (.Compare o [.NotEq] [.List [] pl] pos) (Is (!Ps.isEmpty)) :=
  xt_cmp (K := X.K) (op_ne0 (room_u hr)) ho (xe_lst (K := X.K) (ds := []) xa_nil (by simp)) (fun x y H0 H hx hy e r => by
    obtain ⟨q, xs, ex, h1, h2⟩ := hx
    obtain ⟨q', ys, ey, h3, h4⟩ := hy
    have hl := h2.1
    have hys : ys = [] := by
      have := h4.len
      exact List.length_eq_zero_iff.mp (by rw [this]; rfl)
    subst hys
    have he : xs.isEmpty = Ps.isEmpty := by
      cases xs <;> cases Ps <;> simp_all
    refine (Yld.val (z := .bl (!Ps.isEmpty)) (C := PD X.K (.bool (!Ps.isEmpty))) e rfl fun Q k => ⟨q, q', xs, ex, ey, SqL.of (e _ _ h1), SqL.of (e _ _ h3), ?_⟩).pb
    rw [he]
    exact k) (nomark _)
/-- (x,) * k -/
theorem xe_rep1 {P : Pd} {k : Int} (ha : XE M Γ Rs X a (PTs X.K [P])) (hb : XE M Γ Rs X b (PD X.K (.int k))) (hk : 2 ≤ k ∧ k ≤ 1000) : XE M Γ Rs X (.BinOp a .Mult b pos) (PTs X.K (List.replicate k.toNat P)) :=
  xe_bin op_repT ha hb fun x y H0 H hx hy e _ => by
    obtain ⟨a, xs, ex, h1, h2⟩ := hx
    obtain ⟨v, r, e1, q1, h3⟩ := h2.inv
    have e2 := h3.nil_inv
    subst e1 e2
    have fl : ∀ n, (List.replicate n [v]).flatten = List.replicate n v := fun n => by
      induction n with
      | zero => rfl
      | succ n ih => rw [List.replicate_succ, List.flatten_cons, ih, List.replicate_succ]; rfl
    refine fun Q q => ⟨a, k, [v], ex, hy, Evl.ex_t e h1, by simp, hk.1, hk.2, by show 1 ≤ 1000; decide, fun t ht => ?_⟩
    rw [fl]
    refine q _ (upd H0 t (.tup (List.replicate k.toNat v))) _ (Step.new e ht) ⟨t, _, rfl, SqT.of upd_same, ⟨by simp, fun i P' hi => ?_⟩⟩
    have hi' : i < k.toNat := by simpa using (List.getElem?_eq_some_iff.mp hi).1
    rw [List.getElem?_replicate, if_pos hi'] at hi
    have e3 : P = P' := Option.some.inj hi
    subst e3
    refine ⟨v, by rw [List.getElem?_replicate, if_pos hi'], P.m (Ex.new (fresh_back e ht)) q1⟩
end
end LhX
/-! A statement's expression out of sight: the elaborator else looks into what it does. -/
namespace LhX
open PySem L2 Lh
section
variable {M : Addr → Prop} {Γ : Ct} {Rs : List Res} {X : Cx} {Z0 Z Hl : Hp} {D : Ends} {rest body el : List Stmt} {tg iter e : Expr} {tgs es : List Expr} {pos : Pos} {k : Nat} {P : Pd} {Ps : List Pd}
theorem xs_hidF (h : ∀ e', e' = iter → XS M Γ Rs X Z0 Z Hl D (.For tg e' body el pos :: rest)) : XS M Γ Rs X Z0 Z Hl D (.For tg iter body el pos :: rest) := h _ rfl
theorem xs_hidA (h : ∀ e', e' = e → XS M Γ Rs X Z0 Z Hl D (.Assign tgs e' pos :: rest)) : XS M Γ Rs X Z0 Z Hl D (.Assign tgs e pos :: rest) := h _ rfl
theorem xe_hidT (h : ∀ es', es' = es → XE M Γ Rs X (.Tuple es' k pos) P) : XE M Γ Rs X (.Tuple es k pos) P := h _ rfl
theorem xe_hidL (h : ∀ es', es' = es → XE M Γ Rs X (.List es' pos) P) : XE M Γ Rs X (.List es pos) P := h _ rfl
theorem xa_hid (h : ∀ e', e' = e → XA M Γ Rs X (e' :: es) Ps) : XA M Γ Rs X (e :: es) Ps := h _ rfl
end
end LhX
/-! Reading the last of a list at hand. -/
namespace LhX
open PySem L2 Lh
open Evl (Ex ex_l ex_t ex_rd fresh_back)
section
variable {M : Addr → Prop} {Γ : Ct} {Rs : List Res} {X : Cx} {Z : Hp} {o e : Expr} {pos : Pos}
/-- l[-1], a list at hand -/
theorem xe_lastN {q : Addr} {Ps : List Pd} {P : Pd} (ho : XE M Γ (Res.lst Z q (Ps ++ [P]) :: Rs) X o (PV (.ref q))) (he : XE M Γ (Res.lst Z q (Ps ++ [P]) :: Rs) X e (PD X.K (.int (-1)))) (hs : PlainIx e := by exact fun _ _ => rfl) : XE M Γ (Res.lst Z q (Ps ++ [P]) :: Rs) X (.Subscript o e pos) P :=
  YE.wp (pe_ix ix_list pe_wp pe_wp hs) (ye_op ho he fun x y H0 H hx hy ex r => by
    obtain ⟨_, _, xs, hq, hd⟩ := r.2 _ List.mem_cons_self
    obtain ⟨v, q1, q2⟩ := hd.2 Ps.length P (by simp)
    have hl : xs.length = Ps.length + 1 := by
      have := hd.1
      rw [List.length_append] at this
      exact this
    have hne : xs ≠ [] := fun z => by
      rw [z] at hl
      cases hl
    have hv : xs.getLast hne = v := by
      rw [List.getLast_eq_getElem]
      have h := List.getElem?_eq_some_iff.mp q1
      obtain ⟨h1, h2⟩ := h
      simp only [hl, Nat.add_sub_cancel]
      exact h2
    have ea : atI xs (-1) = some v := by
      have h := atI_last xs.dropLast (xs.getLast hne)
      rw [List.dropLast_concat_getLast hne, hv] at h
      exact h
    exact Yld.val (z := v) ex q2 fun Q k => ⟨q, xs, -1, v, hx, hy, SqL.of hq, ea, k⟩)
end
end LhX
/-! sorted(l), l a list of tuples of ints, all of one length, that ascends already: any number of them. -/
namespace LhX
open PySem PySem.Spec PyProof.Rows L2 Lh
open Evl (Ex ex_l ex_t ex_rd fresh_back)
theorem lex_back : ∀ {p q r : List Int}, HT.lexLt q p = false → HT.lexLt r q = false → HT.lexLt r p = false
  | _, _, [], _, _ => by
    rename_i p q h1 h2
    cases q with
    | nil => exact h1
    | cons y q => cases h2
  | [], _, _ :: _, _, _ => rfl
  | x :: p, [], z :: r, h1, _ => by cases h1
  | x :: p, y :: q, z :: r, h1, h2 => by
    rw [HT.lexLt_cons] at h1 h2 ⊢
    by_cases e1 : y = x
    · subst e1
      rw [if_pos rfl] at h1
      by_cases e2 : z = y
      · subst e2
        rw [if_pos rfl] at h2 ⊢
        exact lex_back h1 h2
      · rw [if_neg e2] at h2 ⊢
        exact h2
    · rw [if_neg e1] at h1
      have g1 := of_decide_eq_false h1
      by_cases e2 : z = y
      · subst e2
        rw [if_neg e1]
        exact h1
      · rw [if_neg e2] at h2
        have g2 := of_decide_eq_false h2
        rw [if_neg (by omega)]
        exact decide_eq_false (by omega)
theorem lex_swo {α : Type} (k : α → List Int) : SrtO.Swo fun x y => HT.lexLt (k x) (k y) := ⟨fun _ _ h => lex_asym h, fun _ _ _ h1 h2 => lex_back h1 h2⟩
section
variable {prog : Program} {w : World} {A : Around} {s : Shared} {Q : Bool → Shared → Prop}
theorem lex_run {b fin : Bool} {us : List Value} {p : List Int} (hu : IntsAre us p) : ∀ {vs : List Value} {q : List Int} (i : Nat), IntsAre vs q → fin = decide (p.length < q.length) → Q (HT.lexLt p q) s → PySem.W.KatLex prog w A b fin Q (us.zip vs) i s := by
  induction hu with
  | nil =>
    intro vs q i hv hf hq
    subst hf
    refine PySem.W.kat_nil ?_
    cases q <;> exact hq
  | @cons m t us p hu ih =>
    intro vs q i hv hf hq
    cases hv with
    | nil =>
      subst hf
      exact PySem.W.kat_nil hq
    | @cons m' t' vs q hv =>
      refine PySem.W.kat_cons (wpAny_eqBool_int (PySem.W.kat_go (fun e => ?_) fun e => ?_))
      · have e' : m = m' := by simpa using e
        rw [HT.lexLt_cons, if_pos e'] at hq
        exact PySem.W.kat_yes (ih (i + 1) hv (by rw [hf]; simp) hq)
      · have e' : ¬ m = m' := by simpa using e
        rw [HT.lexLt_cons, if_neg e'] at hq
        exact PySem.W.kat_no (TS.oneLt_ints _ hq)
theorem tups_can {a : Addr} {vs : List Value} {d : Nat} {B : Int} {k : Value → List Int} (hd : 1 ≤ d) (h0 : 0 < vs.length) (ok : TS.TupsOk s.heap d B vs) (hk : ∀ v ∈ vs, TS.TupInts s.heap v (k v)) (na : ∀ o, s.heap.get? a = some o → o.cls ≠ .type "tuple") :
    SrtO.SortableO prog w A s a vs fun x y => HT.lexLt (k x) (k y) := fun h' keep => by
  have kp : ∀ b o, s.heap.get? b = some o → o.cls = .type "tuple" → h'.get? b = some o := fun b o e c => keep b o (fun z => na o (z ▸ e) c) e
  obtain ⟨fs, f1, f2, f3⟩ := TS.firsts_of hd vs (ok.keeps kp)
  refine ⟨tuples' true, fun Q E hq => PySem.W.kat_kind (T := .type "int") f1 (by omega) (fun f hf => ?_) rfl ?_, fun p q hp hq => ?_⟩
  · obtain ⟨n, t, rfl⟩ := f3 f hf
    exact PySem.W.Looks.of_pure rfl
  · have e : (Value.type "int" != Value.type "tuple") = true := by decide +kernel
    rw [e]
    exact hq
  · obtain ⟨a1, xs, e1, ⟨o1, g1, _, n1, d1⟩, i1⟩ := (hk _ hp).keeps kp
    obtain ⟨a2, ys, e2, ⟨o2, g2, _, n2, d2⟩, i2⟩ := (hk _ hq).keeps kp
    rw [e1, e2]
    refine PySem.W.kat_lt g1 d1 g2 d2 (lex_run i1 0 i2 ?_ ⟨rfl, ?_⟩)
    · rw [← i1.length, ← i2.length, Array.length_toList, Array.length_toList]
    · show _ = HT.lexLt (k p.1) (k q.1)
      rw [e1, e2]
end
/-- place by place, tuples of these ints -/
def TupsAt (K : PySem.W.Frag) (H : Hp) (xs : List V) (gs : List (List Int)) : Prop := xs.length = gs.length ∧ ∀ (i : Nat) (x : V) (g : List Int), xs[i]? = some x → gs[i]? = some g → ∃ t, x = V.ref t ∧ SqT K H t (g.map V.int)
def rSortTu (K : PySem.W.Frag) : List V → Hp → VK → Prop := fun vs H Q => ∃ (a : Addr) (xs : List V) (gs : List (List Int)) (d : Nat) (B : Int), 1 ≤ d ∧ vs = [V.ref a] ∧ SqL K H a xs ∧ TupsAt K H xs gs ∧ (∀ g ∈ gs, g.length = d ∧ TS.Bd B g) ∧ SrtO.Srtd HT.lexLt gs ∧
  ∀ ys p, ys.length = gs.length → (∀ (i : Nat) (y : V) (g : List Int), ys[i]? = some y → gs[i]? = some g → ∃ j : Nat, xs[j]? = some y ∧ gs[j]? = some g) → H p = none → Q (.ref p) (upd H p (.lst ys))
theorem ints_off {h : Heap} {v : Value} {g : List Int} (x : TS.TupInts h v g) : TS.intsOf h v = g := x.ints
theorem cr_sortTu {X : Cx} : CallR X (.builtin "sorted") (rSortTu X.K) := by
  rintro pins s σ H vs us Q I r ⟨a, xs, gs, d, B, hd, rfl, hs, hx, hg, hso, q⟩
  obtain ⟨its, rv, hl, hz⟩ := I.list hs
  obtain ⟨u, rfl, ru⟩ := vals1 r
  obtain rfl : u = Value.ref a := ru
  have there : ∀ (i : Nat) (x : V), xs[i]? = some x → ∃ g, gs[i]? = some g := fun i x hi => by
    have := (List.getElem?_eq_some_iff.mp hi).1
    have l := hx.1
    exact ⟨gs[i], List.getElem?_eq_getElem (by omega)⟩
  obtain ⟨e1, e2⟩ := refs_back rv fun x m => by
    obtain ⟨i, hi⟩ := List.getElem?_of_mem m
    obtain ⟨g, hgi⟩ := there i x hi
    obtain ⟨t, e, _⟩ := hx.2 i x g hi hgi
    exact ⟨t, e⟩
  have len := rv.length
  have tup : ∀ (i : Nat) (v : Value), its[i]? = some v → ∃ g t, gs[i]? = some g ∧ v = Value.ref t ∧ SqT X.K H t (g.map V.int) ∧ TS.TupInts s.heap v g := fun i v hv => by
    have hi : i < xs.length := by
      have := (List.getElem?_eq_some_iff.mp hv).1
      omega
    obtain ⟨g, hgi⟩ := there i xs[i] (List.getElem?_eq_getElem hi)
    obtain ⟨t, e, ht⟩ := hx.2 i xs[i] g (List.getElem?_eq_getElem hi) hgi
    obtain ⟨u, hu, ru⟩ := rv.get (List.getElem?_eq_getElem hi)
    have eu : u = v := Option.some.inj (hu.symm.trans hv)
    subst eu
    rw [e] at ru
    obtain rfl : u = Value.ref t := ru
    obtain ⟨its2, r2, p2, _⟩ := I.tuple ht
    exact ⟨g, t, hgi, rfl, ht, t, its2.toArray, rfl, p2, by rw [List.toList_toArray]; exact ints_of_vals r2⟩
  have tup2 : ∀ v ∈ its, ∃ g ∈ gs, TS.TupInts s.heap v g := fun v hv => by
    obtain ⟨i, hi⟩ := List.getElem?_of_mem hv
    obtain ⟨g, t, h1, h2, h3, h4⟩ := tup i v hi
    exact ⟨g, List.mem_of_getElem? h1, h4⟩
  have all : its.map (TS.intsOf s.heap) = gs := by
    refine List.ext_getElem? fun i => ?_
    rw [List.getElem?_map]
    cases hv : its[i]? with
    | none =>
      have h1 := List.getElem?_eq_none_iff.mp hv
      have l := hx.1
      exact (List.getElem?_eq_none_iff.mpr (by omega)).symm
    | some v =>
      obtain ⟨g, t, h1, _, _, h4⟩ := tup i v hv
      rw [h1]
      exact congrArg some (ints_off h4)
  refine SrtO.sorted_ord (ltv := fun x y => HT.lexLt (TS.intsOf s.heap x) (TS.intsOf s.heap y)) (lex_swo (TS.intsOf s.heap)) hl.isList (by rw [← rv.length]; exact hz) (fun h2 h1 b hb kk => ?_) fun out o1 o2 => ?_
  · refine tups_can (s := { s with heap := h1 }) (d := d) (B := B) (k := TS.intsOf s.heap) hd (by omega) (fun v hv => ?_) (fun v hv => ?_) fun o e => ?_
    · obtain ⟨g, g1, g2⟩ := tup2 v hv
      exact ⟨g, g2.keeps fun b o e _ => (kk b o e).2, (hg g g1).1, (hg g g1).2⟩
    · obtain ⟨g, g1, g2⟩ := tup2 v hv
      show TS.TupInts h1 v (TS.intsOf s.heap v)
      rw [ints_off g2]
      exact g2.keeps fun b o e _ => (kk b o e).2
    · have e' : some o = some _ := e.symm.trans hb
      cases e'
      intro c
      exact absurd (Value.type.inj c) (by decide)
  · have h3 : ∀ u ∈ out, ∃ a, u = Value.ref a := fun u hu => e2 u (o2.perm.mem_iff.mp hu)
    obtain ⟨n, hn⟩ := PyProof.Rows.sortedAll_at s.heap its out.toArray
    have same : out.map (TS.intsOf s.heap) = gs := by
      have h := SrtO.Stb.map (lex_swo (fun g : List Int => g)) (TS.intsOf s.heap) o2
      rw [all] at h
      exact SrtO.stb_uniq (lex_swo (fun g : List Int => g)) (SrtO.srtd_map o1) hso h
    have hol : out.length = gs.length := by rw [← same, List.length_map]
    refine ⟨.ref _, upd H (s.heap.objs.size + 1) (.lst (out.map backV)), I.laid (t' := s.toks) (fun _ _ => PyProof.Rows.sortedAll_old) (Nat.le_succ _) ⟨?_, out, n, vals_back h3, hn⟩, rfl, q _ _ (by rw [List.length_map, hol]) (fun i y g hy hgi => ?_) (I.hok.fresh (Nat.le_succ _))⟩
    · rw [List.length_map, hol, ← hx.1]
      exact hz
    · rw [List.getElem?_map] at hy
      obtain ⟨v, hv, rfl⟩ := Option.map_eq_some_iff.mp hy
      obtain ⟨j, hj⟩ := List.getElem?_of_mem (o2.perm.mem_iff.mp (List.mem_of_getElem? hv))
      obtain ⟨g', t, h1, rfl, h5, h4⟩ := tup j v hj
      have eg : g' = g := by
        have h6 : gs[i]? = some (TS.intsOf s.heap (Value.ref t)) := by rw [← same, List.getElem?_map, hv]; rfl
        rw [ints_off h4, hgi] at h6
        exact (Option.some.inj h6).symm
      subst eg
      exact ⟨j, by rw [e1, List.getElem?_map, hj]; rfl, h1⟩
theorem tups_of {K : PySem.W.Frag} {H : Hp} {gs : List (List Int)} {xs : List V} (h : DdAll K H (gs.map fun g => PyData.tuple (li g)) xs) : TupsAt K H xs gs := by
  have hl := h.len
  rw [List.length_map] at hl
  refine ⟨hl, fun i x g hx hg => ?_⟩
  obtain ⟨v, h1, t, vs, e, h3, h4⟩ := h.get (i := i) (d := .tuple (li g)) (by rw [List.getElem?_map, hg]; rfl)
  have ev : v = x := Option.some.inj (h1.symm.trans hx)
  subst ev
  have e4 := h4.ints
  subst e4
  exact ⟨t, e, h3⟩
theorem dds_tups {K : PySem.W.Frag} {H : Hp} : ∀ {gs : List (List Int)} {xs : List V}, TupsAt K H xs gs → DdAll K H (gs.map fun g => PyData.tuple (li g)) xs
  | [], xs, h => List.length_eq_zero_iff.mp h.1
  | g :: gs, [], h => by
    have := h.1
    simp at this
  | g :: gs, x :: xs, h => by
    obtain ⟨t, e, ht⟩ := h.2 0 x g rfl rfl
    have l : xs.length = gs.length := by simpa using h.1
    exact ⟨x, xs, rfl, ⟨t, g.map V.int, e, ht, DdAll.of_ints g⟩, dds_tups ⟨l, fun i y g' hy hg => h.2 (i + 1) y g' (by simpa using hy) (by simpa using hg)⟩⟩
theorem TupsAt.ex {K : PySem.W.Frag} {H H' : Hp} (e : Ex H H') {xs : List V} {gs : List (List Int)} (h : TupsAt K H xs gs) : TupsAt K H' xs gs := ⟨h.1, fun i x g hx hg => by
  obtain ⟨t, e1, h1⟩ := h.2 i x g hx hg
  exact ⟨t, e1, ex_t e h1⟩⟩
section
variable {M : Addr → Prop} {Γ : Ct} {Rs : List Res} {X : Cx} {a : Expr} {p pos : Pos}
/-- sorted(l), l ascends already -/
theorem xe_sortTu {gs : List (List Int)} {d : Nat} {B : Int} (hm : X.mg "sorted" = none) (h : XE M Γ Rs X a (PD X.K (.list (gs.map fun g => .tuple (li g))))) (hd : 1 ≤ d) (hg : ∀ g ∈ gs, g.length = d ∧ TS.Bd B g) (hso : SrtO.Srtd HT.lexLt gs) (hgl : Gl X "sorted" := by rfl) (he : starEach [a] X.env = (false, eval a X.env) :: starEach [] X.env := by rfl) :
    XE M Γ Rs X (.Call (.Name "sorted" p) [a] [] pos) (PD X.K (.list (gs.map fun g => .tuple (li g)))) :=
  xe_callB cr_sortTu hm (by decide +kernel) (xa_1 h he) (fun xs H0 H hx e _ => by
    obtain ⟨x, e1, q, ys, e2, h1, h2⟩ := da1 hx
    subst e1 e2
    exact fun Q k => ⟨q, ys, gs, d, B, hd, rfl, SqL.of (e _ _ h1), (tups_of h2).ex e, hg, hso, fun zs p hl hz hp => k _ (upd H0 p (.lst zs)) _ (Lh.Step.new e hp) ⟨p, zs, rfl, upd_same, dds_tups (TupsAt.ex (Ex.new (fresh_back e hp)) ⟨hl, fun i y g hy hgi => by
      obtain ⟨j, j1, j2⟩ := hz i y g hy hgi
      exact (tups_of h2).2 j y g j1 j2⟩)⟩⟩) hgl (by decide) (by decide) he rfl
end
end LhX
namespace K42
open PySem L2 Lh LhX
/-! ### all ways, one by one -/
theorem fm_congr {α β : Type} {f h : α → List β} : ∀ {l : List α}, (∀ x ∈ l, f x = h x) → l.flatMap f = l.flatMap h
  | [], _ => rfl
  | x :: l, e => by rw [List.flatMap_cons, List.flatMap_cons, e x List.mem_cons_self, fm_congr fun y hy => e y (List.mem_cons_of_mem _ hy)]
theorem sum_0 : ∀ l : List Int, (l.map fun _ => (0 : Int)).sum = 0
  | [] => rfl
  | x :: l => by rw [List.map_cons, List.sum_cons, sum_0 l]; rfl
def waysF (g b : List Int) : List Row → Int → List (List Int)
  | [], f => [[f]]
  | r :: rs, f => (nextF g b r f).flatMap fun o => (waysF g b rs o).map (f :: ·)
def allW (g b st : List Int) (rows : List Row) : List (List Int) := st.flatMap (waysF g b rows)
abbrev endW (w : List Int) : Int := w.getLastD 0
theorem waysF_cons {g b : List Int} {r : Row} {rs : List Row} {f : Int} : waysF g b (r :: rs) f = (nextF g b r f).flatMap fun o => (waysF g b rs o).map (f :: ·) := rfl
theorem waysF_len {g b : List Int} : ∀ {rows : List Row} {f : Int} {w : List Int}, w ∈ waysF g b rows f → w.length = rows.length + 1 ∧ w[0]? = some f
  | [], f, w, h => by
    have e : w = [f] := by simpa [waysF] using h
    subst e
    exact ⟨rfl, rfl⟩
  | r :: rs, f, w, h => by
    rw [waysF_cons, List.mem_flatMap] at h
    obtain ⟨o, _, h2⟩ := h
    obtain ⟨u, hu, rfl⟩ := List.mem_map.mp h2
    exact ⟨by rw [List.length_cons, (waysF_len hu).1]; rfl, rfl⟩
theorem waysF_in {g b : List Int} : ∀ {rows : List Row} {f : Int} {w : List Int}, (0 ≤ f ∧ f ≤ g.length) → w ∈ waysF g b rows f → ∀ x ∈ w, 0 ≤ x ∧ x ≤ g.length
  | [], f, w, hf, h => by
    have e : w = [f] := by simpa [waysF] using h
    subst e
    intro x hx
    have e : x = f := by simpa using hx
    rw [e]
    exact hf
  | r :: rs, f, w, hf, h => by
    rw [waysF_cons, List.mem_flatMap] at h
    obtain ⟨o, ho, h2⟩ := h
    obtain ⟨u, hu, rfl⟩ := List.mem_map.mp h2
    intro x hx
    rcases List.mem_cons.mp hx with e | hx
    · rw [e]
      exact hf
    · exact waysF_in (nextF_in hf ho) hu x hx
/-- longer by one row -/
theorem waysF_snoc {g b : List Int} {r : Row} : ∀ {rows : List Row} {f : Int}, waysF g b (rows ++ [r]) f = (waysF g b rows f).flatMap fun w => (nextF g b r (endW w)).map fun o => w ++ [o]
  | [], f => by
    show (nextF g b r f).flatMap (fun o => (waysF g b [] o).map (f :: ·)) = _
    simp [waysF, List.flatMap_singleton, List.map_eq_flatMap]
  | r0 :: rs, f => by
    show (nextF g b r0 f).flatMap (fun o => (waysF g b (rs ++ [r]) o).map (f :: ·)) = _
    rw [waysF_cons, List.flatMap_assoc]
    refine fm_congr fun o _ => ?_
    rw [waysF_snoc, List.map_flatMap, List.flatMap_map]
    refine fm_congr fun w hw => ?_
    have hne : w ≠ [] := fun e => by
      have := (waysF_len hw).1
      rw [e] at this
      simp at this
    rw [List.map_map]
    have e : endW (f :: w) = endW w := by
      show (f :: w).getLastD 0 = w.getLastD 0
      rw [List.getLastD_cons]
      cases w with
      | nil => exact absurd rfl hne
      | cons x xs => rfl
    rw [e]
    rfl
theorem allW_snoc {g b st : List Int} {rows : List Row} {r : Row} : allW g b st (rows ++ [r]) = (allW g b st rows).flatMap fun w => (nextF g b r (endW w)).map fun o => w ++ [o] := by
  unfold allW
  rw [List.flatMap_assoc]
  exact fm_congr fun f _ => waysF_snoc
/-! ### how many -/
theorem len_flat {α β : Type} (f : α → List β) : ∀ l : List α, (((l.flatMap f).length : Nat) : Int) = (l.map fun x => ((f x).length : Int)).sum
  | [] => rfl
  | x :: l => by
    rw [List.flatMap_cons, List.length_append, List.map_cons, List.sum_cons, ← len_flat f l]
    omega
theorem ways_count {g b : List Int} : ∀ {rows : List Row} {f : Int}, (0 ≤ f ∧ f ≤ g.length) → (((waysF g b rows f).length : Nat) : Int) = gtI (headM g b rows) f
  | [], f, hf => by
    rw [headM_nil_at hf.1 hf.2]
    rfl
  | r :: rs, f, hf => by
    rw [headM_at hf.1 hf.2, waysF_cons, len_flat]
    unfold sumAt
    refine congrArg List.sum (List.map_congr_left fun o ho => ?_)
    rw [List.length_map]
    exact ways_count (nextF_in hf ho)
theorem all_count {g b st : List Int} {rows : List Row} (hs : ∀ x ∈ st, 0 ≤ x ∧ x ≤ g.length) : (((allW g b st rows).length : Nat) : Int) = countM g b st rows := by
  unfold allW countM sumAt
  rw [len_flat]
  exact congrArg List.sum (List.map_congr_left fun f hf => ways_count (hs f hf))
end K42
namespace K42
open PySem L2 Lh LhX
theorem all_len {g b st : List Int} {rows : List Row} {w : List Int} (h : w ∈ allW g b st rows) : w.length = rows.length + 1 := by
  obtain ⟨f, _, hw⟩ := List.mem_flatMap.mp h
  exact (waysF_len hw).1
/-! ### in order -/
theorem nextF_asc {g b : List Int} {r : Row} {f : Int} : (nextF g b r f).Pairwise (· < ·) := by
  cases r with
  | go s => exact (rgI_up _).sublist List.filter_sublist
  | gap => exact rgI_up _
  | bell u =>
    show (if decide (f ∈ b) = u then [f] else []).Pairwise (· < ·)
    split <;> simp
  | look l =>
    show (if f ∈ l then [f] else []).Pairwise (· < ·)
    split <;> simp
  | door => exact List.pairwise_singleton _ _
theorem flat_asc {l : List Int} {h : Int → List (List Int)} (hl : l.Pairwise (· < ·)) (h1 : ∀ o ∈ l, SrtO.Srtd HT.lexLt (h o)) (h2 : ∀ o, ∀ w ∈ h o, w[0]? = some o) : SrtO.Srtd HT.lexLt (l.flatMap h) := by
  refine List.pairwise_flatMap.mpr ⟨h1, hl.imp fun {a b} hab u hu v hv => ?_⟩
  have e1 := h2 a u hu
  have e2 := h2 b v hv
  cases u with
  | nil => cases e1
  | cons x u =>
    cases v with
    | nil => cases e2
    | cons y v =>
      have q1 : x = a := by simpa using e1
      have q2 : y = b := by simpa using e2
      subst q1 q2
      rw [HT.lexLt_cons, if_neg (by omega)]
      exact decide_eq_false (by omega)
theorem waysF_asc {g b : List Int} : ∀ {rows : List Row} {f : Int}, SrtO.Srtd HT.lexLt (waysF g b rows f)
  | [], f => List.pairwise_singleton _ _
  | r :: rs, f => by
    have h := flat_asc (l := nextF g b r f) (h := waysF g b rs) nextF_asc (fun o _ => waysF_asc) fun o w hw => (waysF_len hw).2
    have e : waysF g b (r :: rs) f = ((nextF g b r f).flatMap (waysF g b rs)).map (f :: ·) := by
      rw [waysF_cons, List.map_flatMap]
    rw [e]
    refine List.pairwise_map.mpr (h.imp fun {u v} huv => ?_)
    rw [HT.lexLt_cons, if_pos rfl]
    exact huv
theorem allW_asc {g b st : List Int} {rows : List Row} (hs : st.Pairwise (· < ·)) : SrtO.Srtd HT.lexLt (allW g b st rows) := flat_asc hs (fun _ _ => waysF_asc) fun o w hw => (waysF_len hw).2
end K42
namespace K42
open PySem L2 Lh LhX
/-! ### not too many -/
def hgt (g : List Int) (i : Int) : Int := (g.take i.toNat).sum
theorem cut_sum (g : List Int) {a c : Nat} (h : a ≤ c) : ((g.drop a).take (c - a)).sum = (g.take c).sum - (g.take a).sum := by
  have e : g.take c = g.take a ++ (g.drop a).take (c - a) := by
    have h1 := List.take_append_drop a (g.take c)
    rw [List.take_take, List.drop_take, Nat.min_eq_left h] at h1
    exact h1.symm
  rw [e, List.sum_append]
  omega
theorem far_hgt (g : List Int) (i j : Int) : far g i j = hgt g (max i j) - hgt g (min i j) := by
  unfold far hgt
  refine cut_sum g ?_
  omega
theorem hgt_less {g : List Int} (hg : GapsOk g) {i j : Int} (hi : 0 ≤ i ∧ i ≤ g.length) (hj : 0 ≤ j ∧ j ≤ g.length) (h : i < j) : hgt g i < hgt g j := by
  have h1 := (far_bounds hg hi hj (by omega)).1
  rw [far_hgt, show max i j = j by omega, show min i j = i by omega] at h1
  omega
theorem go_two {g b : List Int} {s f : Int} (hg : GapsOk g) (hf : 0 ≤ f ∧ f ≤ g.length) : (nextF g b (.go s) f).length ≤ 2 := by
  have asc := nextF_asc (g := g) (b := b) (r := .go s) (f := f)
  have each : ∀ o ∈ nextF g b (.go s) f, (0 ≤ o ∧ o ≤ g.length) ∧ far g f o = s := fun o ho => by
    have h := List.mem_filter.mp ho
    exact ⟨fl_in h.1, of_decide_eq_true h.2⟩
  generalize nextF g b (.go s) f = l at asc each
  match l, asc, each with
  | [], _, _ => simp
  | [_], _, _ => simp
  | [_, _], _, _ => simp
  | x :: y :: z :: l, asc, each =>
    exfalso
    obtain ⟨hx, ex⟩ := each x (by simp)
    obtain ⟨hy, ey⟩ := each y (by simp)
    obtain ⟨hz, ez⟩ := each z (by simp)
    have hxy : x < y := (List.pairwise_cons.mp asc).1 y (by simp)
    have hyz : y < z := (List.pairwise_cons.mp (List.pairwise_cons.mp asc).2).1 z (by simp)
    have h1 := hgt_less hg hx hy hxy
    have h2 := hgt_less hg hy hz hyz
    rw [far_hgt] at ex ey ez
    rcases Int.le_total f y with h | h
    · rw [show max f y = y by omega, show min f y = f by omega] at ey
      rw [show max f z = z by omega, show min f z = f by omega] at ez
      omega
    · rw [show max f y = f by omega, show min f y = y by omega] at ey
      rw [show max f x = f by omega, show min f x = x by omega] at ex
      omega
def isGap : Row → Bool
  | .gap => true
  | _ => false
def capN : List Row → Nat
  | [] => 1
  | r :: rs => (if isGap r = true then 7 else 2) * capN rs
theorem next_cap {g b : List Int} {r : Row} {f : Int} (hg : GapsOk g) (h6 : g.length ≤ 6) (hf : 0 ≤ f ∧ f ≤ g.length) : (nextF g b r f).length ≤ if isGap r = true then 7 else 2 := by
  cases r with
  | go s => exact go_two hg hf
  | gap =>
    show (rgI 0 (g.length + 1)).length ≤ 7
    rw [rgI_len]
    omega
  | bell u =>
    show (if decide (f ∈ b) = u then [f] else []).length ≤ 2
    split <;> simp
  | look l =>
    show (if f ∈ l then [f] else []).length ≤ 2
    split <;> simp
  | door =>
    show [f].length ≤ 2
    simp
theorem flat_cap {α β : Type} (h : α → List β) {c : Nat} : ∀ {l : List α}, (∀ x ∈ l, (h x).length ≤ c) → (l.flatMap h).length ≤ l.length * c
  | [], _ => by simp
  | x :: l, e => by
    have h1 := e x List.mem_cons_self
    have h2 := flat_cap h (l := l) fun y hy => e y (List.mem_cons_of_mem _ hy)
    rw [List.flatMap_cons, List.length_append, List.length_cons, Nat.succ_mul]
    omega
theorem ways_cap {g b : List Int} (hg : GapsOk g) (h6 : g.length ≤ 6) : ∀ {rows : List Row} {f : Int}, (0 ≤ f ∧ f ≤ g.length) → (waysF g b rows f).length ≤ capN rows
  | [], f, hf => Nat.le_refl _
  | r :: rs, f, hf => by
    rw [waysF_cons]
    have h := flat_cap (fun o => (waysF g b rs o).map (f :: ·)) (l := nextF g b r f) (c := capN rs) fun o ho => by
      rw [List.length_map]
      exact ways_cap hg h6 (nextF_in hf ho)
    exact Nat.le_trans h (Nat.mul_le_mul_right _ (next_cap hg h6 hf))
abbrev gapsN (rows : List Row) : Nat := (rows.filter isGap).length
theorem cap_is : ∀ rows : List Row, capN rows = 7 ^ gapsN rows * 2 ^ (rows.length - gapsN rows) ∧ gapsN rows ≤ rows.length
  | [] => ⟨rfl, Nat.le_refl _⟩
  | r :: rs => by
    obtain ⟨h1, h2⟩ := cap_is rs
    show (if isGap r = true then 7 else 2) * capN rs = _ ∧ _
    cases e : isGap r with
    | true =>
      have e2 : gapsN (r :: rs) = gapsN rs + 1 := by
        show ((r :: rs).filter isGap).length = _
        rw [List.filter_cons, if_pos e]
        rfl
      rw [e2, List.length_cons, h1, if_pos rfl]
      refine ⟨?_, by omega⟩
      rw [show rs.length + 1 - (gapsN rs + 1) = rs.length - gapsN rs by omega, Nat.pow_succ, Nat.mul_comm (7 ^ _) 7, Nat.mul_assoc]
    | false =>
      have e2 : gapsN (r :: rs) = gapsN rs := by
        show ((r :: rs).filter isGap).length = _
        rw [List.filter_cons, if_neg (by rw [e]; decide)]
      rw [e2, List.length_cons, h1, if_neg (by decide)]
      refine ⟨?_, by omega⟩
      rw [show rs.length + 1 - gapsN rs = (rs.length - gapsN rs) + 1 by omega, Nat.pow_succ]
      simp only [Nat.mul_comm, Nat.mul_left_comm, Nat.mul_assoc]
theorem cap_small {rows : List Row} (h3 : gapsN rows ≤ 3) (h8 : rows.length ≤ 8) : capN rows ≤ 10976 := by
  obtain ⟨h1, h2⟩ := cap_is rows
  rw [h1]
  have h4 : 2 ^ (rows.length - gapsN rows) ≤ 2 ^ (8 - gapsN rows) := Nat.pow_le_pow_right (by decide) (by omega)
  refine Nat.le_trans (Nat.mul_le_mul_left _ h4) ?_
  generalize gapsN rows = k at h3
  match k, h3 with
  | 0, _ => decide
  | 1, _ => decide
  | 2, _ => decide
  | 3, _ => decide
theorem all_cap {g b st : List Int} {rows : List Row} (hg : GapsOk g) (h6 : g.length ≤ 6) (hs : ∀ x ∈ st, 0 ≤ x ∧ x ≤ g.length) (hl : st.length ≤ 7) (h3 : gapsN rows ≤ 3) (h8 : rows.length ≤ 8) : (allW g b st rows).length ≤ 76832 := by
  have h := flat_cap (waysF g b rows) (l := st) (c := 10976) fun f hf => Nat.le_trans (ways_cap hg h6 (hs f hf)) (cap_small h3 h8)
  have h2 : st.length * 10976 ≤ 7 * 10976 := Nat.mul_le_mul_right _ hl
  exact Nat.le_trans h (Nat.le_trans h2 (by decide))
theorem gapsN_take {rows : List Row} {t : Nat} : gapsN (rows.take t) ≤ gapsN rows := ((List.take_sublist t rows).filter isGap).length_le
end K42
namespace K42
open PySem L2 Lh
/-! ### the law's log: at most one gap -/
theorem eqv_gap (r : Row) : PyData.eqv (rowD r) (.tuple [.str "gap"]) = isGap r := by
  cases r with
  | go s =>
    show (PyData.eqv (.str "go") (.str "gap") && PyData.eqvAll [.int s] []) = false
    have e : PyData.eqv (.str "go") (.str "gap") = false := by decide +kernel
    rw [e]
    rfl
  | bell u =>
    show (PyData.eqv (.str "bell") (.str "gap") && PyData.eqvAll [.bool u] []) = false
    have e : PyData.eqv (.str "bell") (.str "gap") = false := by decide +kernel
    rw [e]
    rfl
  | look l =>
    show (PyData.eqv (.str "look") (.str "gap") && PyData.eqvAll [.tuple (li l)] []) = false
    have e : PyData.eqv (.str "look") (.str "gap") = false := by decide +kernel
    rw [e]
    rfl
  | gap => decide +kernel
  | door => decide +kernel
theorem any_gap (rows : List Row) : ((rows.map rowD).any fun z => PyData.eqv z (.tuple [.str "gap"])) = rows.any isGap := by
  rw [List.any_map]
  congr 1
  funext r
  exact eqv_gap r
theorem gapsN_snoc {rows : List Row} {r : Row} (h1 : gapsN rows ≤ 1) (h : isGap r = true → rows.any isGap = false) : gapsN (rows ++ [r]) ≤ 1 := by
  show ((rows ++ [r]).filter isGap).length ≤ 1
  rw [List.filter_append, List.length_append]
  cases e : isGap r with
  | true =>
    have h0 : rows.filter isGap = [] := List.filter_eq_nil_iff.mpr fun x hx => by
      have := List.any_eq_false.mp (h e) x hx
      exact this
    rw [h0, List.filter_cons, if_pos e]
    simp
  | false =>
    have e2 : [r].filter isGap = [] := by rw [List.filter_cons, if_neg (by rw [e]; decide)]; rfl
    rw [e2]
    simpa using h1
theorem gap_kind {r : Row} (h : isGap r = true) : r.kind = "gap" := by
  cases r with
  | gap => rfl
  | _ => cases h
section
variable {M : Addr → Prop} {Γ : Ct} {Rs : List Res} {X : Cx} {Z : Hp} {K : PySem.W.Frag} {a b : Expr} {pos : Pos}
/-- d in a list at hand, told -/
theorem xt_inMx {q : Addr} {d : PyData} {ds : List PyData} {n : Nat} (hr : Room n X.A) (ha : XE M Γ (Res.lst Z q (ds.map (PD X.K)) :: Rs) X a (PD X.K d)) (hb : XE M Γ (Res.lst Z q (ds.map (PD X.K)) :: Rs) X b (PV (.ref q))) (h1 : SeqAt.shaped d = true) (h2 : SeqAt.shaped (.list ds) = true) (hm : behindInMarks .In b = false := by rfl) :
    XT M Γ (Res.lst Z q (ds.map (PD X.K)) :: Rs) X (.Compare a [.In] [b] pos) (Is (ds.any fun z => PyData.eqv z d)) :=
  xt_cmp (K := X.K) (op_inD (by have := hr.un; omega)) ha hb (fun x y H0 H hx hy e r => by
    obtain ⟨_, _, xs, hq, hd⟩ := r.2 _ List.mem_cons_self
    have hy' : y = .ref q := hy
    have d2 : Dd X.K H (.list ds) y := ⟨q, xs, hy', hq, DdAll.ex e _ _ hd.dd⟩
    exact (Yld.val (z := .bl (ds.any fun z => PyData.eqv z d)) (C := PD X.K (.bool (ds.any fun z => PyData.eqv z d))) e rfl fun Q k => ⟨d, ds, Dd.dp d x (Dd.ex e _ _ hx), Dd.dp (.list ds) y d2, h1, h2, k⟩).pb) hm
end
section
variable {K : PySem.W.Frag} {mg : Str → Option Value} {base : Heap} {P : Program} {w : World}
abbrev spLLog1 (K : PySem.W.Frag) : Sp := SpF (α := { p : ((Addr × Addr) × List Int × List Int) × List Int × Int // LowHouse p.1.2.1 p.1.2.2 ∧ (p.2.1.Sublist (rgI 0 (p.1.2.1.length + 1)) ∧ p.2.1 ≠ []) ∧ 0 ≤ p.2.2 ∧ p.2.2 ≤ 900 }) (fun p => MB p.1.1.1.1 p.1.1.1.2) (fun p => [Res.mix p.1.1.1.1 p.1.1.1.2]) (fun p => [PV (.ref p.1.1.1.1), PD K (drawnD p.1.1.2.1 p.1.1.2.2), PD K (.tuple (li p.1.2.1)), PD K (.int p.1.2.2)])
  (fun p => PEx (fun rows : List Row => ((∀ r ∈ rows, r.Lo p.1.1.2.1) ∧ gapsN rows ≤ 1) ∧ (rows.length : Int) ≤ p.1.2.2) fun rows => PD K (logD rows))
theorem ok_law_log1 (T : Txt K mg) : FnOk P w K mg base CX0 3 T.f__law_log T.d__law_log ["_law_h", "_law_drawn", "_law_start_here", "_law_many"] (spLLog1 K) := by
  refine fn_F T.F__law_log sc__law_log (fun _ => rfl) fun ⟨⟨⟨⟨bx, l⟩, g, b⟩, st, mo⟩, hh, hst, hm⟩ Z0 Z Q X qX hQ => ?_
  obtain ⟨cdv, A, outer, s, E, rfl, hr⟩ := qX
  have hh2 : LowHouse g b := hh
  have hh' : HouseOk g b := hh2.1
  have hst' : st.Sublist (rgI 0 (g.length + 1)) ∧ st ≠ [] := hst
  have hm' : 0 ≤ mo ∧ mo ≤ 900 := hm
  have h9 := hh'.gaps.nine
  have hsl : st.length ≤ 10 := by
    have := hst'.1.length_le
    rw [rgI_len] at this
    omega
  have hsp : 1 ≤ st.length := List.length_pos_iff.mpr hst'.2
  have hln : ((li st).length : Int) = st.length := by simp [li]
  refine xs_parL 4 5 (P := PEx (fun f : Int => 0 ≤ f ∧ f ≤ g.length) fun f => PD K (.int f)) (YE.imp (xe_ixTE (B := fun d => ∃ f, d = .int f ∧ f ∈ st) (xe_var 2) (xe_next T (hr.mono (by decide)) (xe_var 0) (xe_lenT T.z_len (xe_var 2)) (by rw [hln]; omega) (by rw [hln]; omega) (fun _ h => h)) (fun k hk => ixE_li ⟨hk.1, by have := hk.2; rw [hln] at this; exact this⟩)) fun v H h => ?_) (fun q => ?_) sc__law_log.nd
  · obtain ⟨d, ⟨f, rfl, hf⟩, hv⟩ := h
    exact ⟨f, fl_in (hst'.1.subset hf), hv⟩
  refine xs_slot 4 rfl fun f0 hf0 => ?_
  refine xs_swap (xs_forNE 6 (xi_rangeE T.z_range (xe_next T (hr.mono (by decide)) (xe_var 0) (xe_add (xe_var 3) xe_int) (by show 1 ≤ mo + 1; omega) (by show mo + 1 < 1000000; omega) (fun _ h => h)) (fun n hn => by
      obtain ⟨a, c⟩ := hn
      have c' : n < mo + 1 := c
      constructor <;> omega)) (fun t Γ1 Rs1 => ∃ (rows : List Row) (f : Int) (a6 a7 a8 : Option Pd), ((∀ r ∈ rows, r.Lo g) ∧ gapsN rows ≤ 1) ∧ rows.length = t ∧ (0 ≤ f ∧ f ≤ g.length) ∧
      Γ1 = [some (PV (.ref bx)), some (PD K (drawnD g b)), some (PD K (.tuple (li st))), some (PD K (.int mo)), some (PD K (.int f)), some (PV (.ref q)), a6, a7, a8] ∧ Rs1 = [Res.mix bx l, Res.lst Z q ((rows.map rowD).map (PD K))]) ⟨[], f0, none, none, none, ⟨(fun r hr => by cases hr), Nat.zero_le _⟩, rfl, hf0, rfl, rfl⟩ ?_ ?_ sc__law_log.nd)
  · rintro n hn t Qt Γ1 Rs1 hq ⟨rows, f, a6, a7, a8, ⟨hok, hgp⟩, hlen, hf, rfl, rfl⟩ Hs
    have htn : t < n.toNat := by
      have := (List.getElem?_eq_some_iff.mp hq).1
      simpa [li, rgI_len] using this
    obtain ⟨hn1, hn2⟩ := hn
    have hn2' : n < mo + 1 := hn2
    refine xs_unpE 7 8 (xe_callM (ok_law_row T) (C := PEx (fun q : Row × Int => q.1.Lo g ∧ 0 ≤ q.2 ∧ q.2 ≤ g.length) fun q => PT2 K (PD K (.tuple q.1.ds)) (PD K (.int q.2))) hr T.g__law_row T.F__law_row.kp T.b__law_row (xa_cons (xe_var 0) (xa_cons (xe_var 1) (xa_1 (xe_var 4)))) (fun vs H h => ⟨⟨(((bx, l), g, b), f), hh2, hf⟩, h, rfl, fun _ h => h, fun a ha => by
      have ha' : a = bx ∨ a = l := ha
      simpa [Res.mix] using ha', fun _ _ h => h⟩)) (fun q1 hq1 => ?_) sc__law_log.nd
    obtain ⟨r, f1⟩ := q1
    obtain ⟨hr1, hf1⟩ := hq1
    have hr1' : r.Lo g := hr1
    have hf1' : 0 ≤ f1 ∧ f1 ≤ g.length := hf1
    refine xs_unpE 7 4 (A := fun q : Row × Int => (q.1.Lo g ∧ (isGap q.1 = true → rows.any isGap = false)) ∧ 0 ≤ q.2 ∧ q.2 ≤ g.length) (P := fun q => PD K (.tuple q.1.ds)) (Q := fun q => PD K (.int q.2)) (xe_ifx (xt_andB (xt_eqS (K := K) (xe_ixT (xe_var 7) xe_int r.k0) xe_str) fun _ => yt_swap (xt_inMx (ds := rows.map rowD) hr (xe_tup (K := K) (ds := [.str "gap"]) (xa_1 xe_str) (by simp)) (xe_var 5) (by decide +kernel) (shaped_rows rows))) (fun _ => ?_) fun hno => ?_) (fun q2 hq2 => ?_) sc__law_log.nd
    · refine YE.imp (xe_tupP (K := K) (Ps := [PD K (.tuple [.str "door"]), PD K (.int f)]) (xa_cons (xe_tup (K := K) (ds := [.str "door"]) (xa_1 xe_str) (by simp)) (xa_1 (xe_var 4))) (by simp)) fun v H h => ?_
      exact ⟨(.door, f), ⟨⟨True.intro, fun z => nomatch z⟩, hf⟩, PTs.two h⟩
    · refine YE.imp (xe_tupP (K := K) (Ps := [PD K (.tuple r.ds), PD K (.int f1)]) (xa_cons (xe_var 7) (xa_1 (xe_var 8))) (by simp)) fun v H h => ?_
      refine ⟨(r, f1), ⟨⟨hr1', fun hgap => ?_⟩, hf1'⟩, PTs.two h⟩
      have hno' : false = (decide (r.kind = "gap") && ((rows.map rowD).any fun z => PyData.eqv z (.tuple [.str "gap"]))) := hno
      rw [decide_eq_true (gap_kind hgap), any_gap, Bool.true_and] at hno'
      exact hno'.symm
    obtain ⟨r2, f2⟩ := q2
    obtain ⟨⟨hr2, hgr2⟩, hf2⟩ := hq2
    have hr2' : r2.Lo g := hr2
    refine xs_swap (xs_app (q := q) (P := PD K (rowD r2)) (xe_var 5) (xe_var 7) (by rw [List.length_map, List.length_map]; omega) (xs_swap (xs_turn (fun σ H h => h) ⟨rows ++ [r2], f2, _, _, _, ⟨fun r' hr => ?_, gapsN_snoc hgp hgr2⟩, by simp [hlen], hf2, rfl, by simp⟩)) (pe_bm PySem.F.plainAttrs_list PySem.F.slot_list_append PySem.F.type_list_append mt_append pe_wp (pa_cons pe_wp pa_nil)))
    rcases List.mem_append.mp hr with h | h
    · exact hok r' h
    · have e : r' = r2 := by simpa using h
      subst e
      exact hr2'
  · rintro n hn Γ1 Rs1 ⟨rows, f, a6, a7, a8, hok, hlen, hf, rfl, rfl⟩
    obtain ⟨hn1, hn2⟩ := hn
    have hn2' : n < mo + 1 := hn2
    have hz : (rows.length : Int) ≤ mo := by
      rw [hlen]
      simp only [li, List.length_map, rgI_len]
      omega
    refine xs_swap (xs_frzK 5 rfl rfl ?_)
    exact xs_ret (xe_var 5) fun v H0 H s k hv => hQ v H0 H s k ⟨rows, ⟨hok, hz⟩, hv⟩
end
end K42
namespace K42
open PySem L2 Lh
/-! ### ways and moments -/
theorem way_head {g b : List Int} {rows : List Row} {f : Int} {v : List Int} (h : v ∈ waysF g b rows f) : v = f :: v.tail := by
  have h2 := (waysF_len h).2
  cases v with
  | nil => cases h2
  | cons x v =>
    have e : x = f := by simpa using h2
    rw [e]
    rfl
theorem endW_cons {f : Int} {u : List Int} (h : u ≠ []) : endW (f :: u) = endW u := by
  show (f :: u).getLastD 0 = u.getLastD 0
  rw [List.getLastD_cons]
  cases u with
  | nil => exact absurd rfl h
  | cons x xs => rfl
theorem way_ne {g b : List Int} {rows : List Row} {f : Int} {v : List Int} (h : v ∈ waysF g b rows f) : v ≠ [] := fun e => by
  have := (waysF_len h).1
  rw [e] at this
  simp at this
theorem waysF_app {g b : List Int} {c : List Row} : ∀ {a : List Row} {f : Int} {w : List Int}, w ∈ waysF g b (a ++ c) f ↔ ∃ u ∈ waysF g b a f, ∃ v ∈ waysF g b c (endW u), w = u ++ v.tail
  | [], f, w => by
    show w ∈ waysF g b c f ↔ _
    constructor
    · intro h
      exact ⟨[f], by simp [waysF], w, h, way_head h⟩
    · rintro ⟨u, hu, v, hv, rfl⟩
      have e : u = [f] := by simpa [waysF] using hu
      subst e
      have hv' : v ∈ waysF g b c f := hv
      have := way_head hv'
      show f :: v.tail ∈ _
      rw [← this]
      exact hv'
  | r :: a, f, w => by
    show w ∈ (nextF g b r f).flatMap (fun o => (waysF g b (a ++ c) o).map (f :: ·)) ↔ _
    constructor
    · intro h
      obtain ⟨o, ho, h2⟩ := List.mem_flatMap.mp h
      obtain ⟨w', hw', rfl⟩ := List.mem_map.mp h2
      obtain ⟨u, hu, v, hv, rfl⟩ := waysF_app.mp hw'
      refine ⟨f :: u, by rw [waysF_cons]; exact List.mem_flatMap.mpr ⟨o, ho, List.mem_map.mpr ⟨u, hu, rfl⟩⟩, v, ?_, rfl⟩
      rw [endW_cons (way_ne hu)]
      exact hv
    · rintro ⟨u, hu, v, hv, rfl⟩
      rw [waysF_cons] at hu
      obtain ⟨o, ho, h2⟩ := List.mem_flatMap.mp hu
      obtain ⟨u', hu', rfl⟩ := List.mem_map.mp h2
      rw [endW_cons (way_ne hu')] at hv
      exact List.mem_flatMap.mpr ⟨o, ho, List.mem_map.mpr ⟨u' ++ v.tail, waysF_app.mpr ⟨u', hu', v, hv, rfl⟩, rfl⟩⟩
theorem allW_app {g b st : List Int} {a c : List Row} {w : List Int} : w ∈ allW g b st (a ++ c) ↔ ∃ u ∈ allW g b st a, ∃ v ∈ waysF g b c (endW u), w = u ++ v.tail := by
  unfold allW
  constructor
  · intro h
    obtain ⟨f, hf, h2⟩ := List.mem_flatMap.mp h
    obtain ⟨u, hu, v, hv, e⟩ := waysF_app.mp h2
    exact ⟨u, List.mem_flatMap.mpr ⟨f, hf, hu⟩, v, hv, e⟩
  · rintro ⟨u, hu, v, hv, e⟩
    obtain ⟨f, hf, h2⟩ := List.mem_flatMap.mp hu
    exact List.mem_flatMap.mpr ⟨f, hf, waysF_app.mpr ⟨u, h2, v, hv, e⟩⟩
theorem len_pos_iff {α : Type} {l : List α} : (0 : Int) < ((l.length : Nat) : Int) ↔ ∃ x, x ∈ l := by
  constructor
  · intro h
    cases l with
    | nil => simp at h
    | cons x l => exact ⟨x, List.mem_cons_self⟩
  · rintro ⟨x, hx⟩
    have := List.length_pos_of_mem hx
    omega
theorem at_end_of {u x : List Int} {t : Nat} (h : u.length = t + 1) : (u ++ x)[t]? = some (endW u) := by
  have hne : u ≠ [] := fun e => by
    rw [e] at h
    simp at h
  rw [List.getElem?_append_left (by omega)]
  have e : u[t]? = u.getLast? := by
    rw [List.getLast?_eq_getElem?]
    congr 1
    omega
  rw [e, List.getLast?_eq_some_getLast hne]
  congr 1
  cases u with
  | nil => exact absurd rfl hne
  | cons y ys => exact (List.getLastD_eq_getLast?.trans (by rw [List.getLast?_eq_some_getLast hne]; rfl)).symm
theorem thr_iff {g b st : List Int} {rows : List Row} {t : Nat} {f : Int} (ht : t ≤ rows.length) (hs : ∀ x ∈ st, 0 ≤ x ∧ x ≤ g.length) (hf : 0 ≤ f ∧ f ≤ g.length) : 0 < thrM g b st rows t f ↔ ∃ w ∈ allW g b st rows, w[t]? = some f := by
  have e1 : upM g b st rows t f = (((allW g b st (rows.take t ++ [Row.look [f]])).length : Nat) : Int) := (all_count hs).symm
  have e2 : S g b (rows.drop t) f = (((waysF g b (rows.drop t) f).length : Nat) : Int) := (ways_count hf).symm
  have ht' : (rows.take t).length = t := by
    rw [List.length_take]
    omega
  have key : 0 < thrM g b st rows t f ↔ (∃ x, x ∈ allW g b st (rows.take t ++ [Row.look [f]])) ∧ ∃ x, x ∈ waysF g b (rows.drop t) f := by
    rw [← len_pos_iff, ← len_pos_iff, ← e1, ← e2]
    have h1 : 0 ≤ upM g b st rows t f := by
      rw [e1]
      omega
    have h2 : 0 ≤ S g b (rows.drop t) f := S_nn f
    show 0 < upM g b st rows t f * S g b (rows.drop t) f ↔ _
    constructor
    · intro h
      refine ⟨?_, ?_⟩
      · rcases Int.lt_or_eq_of_le h1 with k | k
        · exact k
        · rw [← k, Int.zero_mul] at h
          omega
      · rcases Int.lt_or_eq_of_le h2 with k | k
        · exact k
        · rw [← k, Int.mul_zero] at h
          omega
    · rintro ⟨k1, k2⟩
      exact Int.mul_pos k1 k2
  rw [key]
  constructor
  · rintro ⟨⟨w1, hw1⟩, v, hv⟩
    rw [allW_snoc] at hw1
    obtain ⟨u, hu, h2⟩ := List.mem_flatMap.mp hw1
    obtain ⟨o, ho, _⟩ := List.mem_map.mp h2
    have ho' : o ∈ (if endW u ∈ [f] then [endW u] else []) := ho
    have eu : endW u = f := by
      by_cases z : endW u ∈ [f]
      · simpa using z
      · rw [if_neg z] at ho'
        cases ho'
    have hul : u.length = t + 1 := by rw [all_len hu, ht']
    refine ⟨u ++ v.tail, ?_, ?_⟩
    · have h3 : u ++ v.tail ∈ allW g b st (rows.take t ++ rows.drop t) := allW_app.mpr ⟨u, hu, v, by rw [eu]; exact hv, rfl⟩
      rw [List.take_append_drop] at h3
      exact h3
    · rw [at_end_of hul, eu]
  · rintro ⟨w, hw, hat⟩
    have hw' : w ∈ allW g b st (rows.take t ++ rows.drop t) := by
      rw [List.take_append_drop]
      exact hw
    obtain ⟨u, hu, v, hv, rfl⟩ := allW_app.mp hw'
    have hul : u.length = t + 1 := by rw [all_len hu, ht']
    rw [at_end_of hul] at hat
    have eu : endW u = f := Option.some.inj hat
    rw [eu] at hv
    refine ⟨⟨u ++ [f], ?_⟩, v, hv⟩
    rw [allW_snoc]
    refine List.mem_flatMap.mpr ⟨u, hu, List.mem_map.mpr ⟨f, ?_, rfl⟩⟩
    show f ∈ (if endW u ∈ [f] then [endW u] else [])
    rw [eu, if_pos (by simp)]
    simp
/-- the floors at a moment -/
def atL (g b st : List Int) (rows : List Row) (t : Nat) : List Int := (rgI 0 (g.length + 1)).filter fun f => decide (0 < thrM g b st rows t f)
abbrev tupD (w : List Int) : PyData := .tuple (li w)
structure WaysOk (g st : List Int) (rows : List Row) : Prop where
  gaps : GapsOk g
  six : g.length ≤ 6
  start : st.Sublist (rgI 0 (g.length + 1))
  few : gapsN rows ≤ 1
  each : ∀ r ∈ rows, r.Ok g
  rows : rows.length ≤ 5
theorem WaysOk.in_ {g st : List Int} {rows : List Row} (h : WaysOk g st rows) : ∀ x ∈ st, 0 ≤ x ∧ x ≤ g.length := fun x hx => fl_in (h.start.subset hx)
theorem WaysOk.len {g st : List Int} {rows : List Row} (h : WaysOk g st rows) : st.length ≤ 7 := by
  have h1 := h.start.length_le
  rw [rgI_len] at h1
  have := h.six
  omega
theorem cap_112 {rows : List Row} (h3 : gapsN rows ≤ 1) (h8 : rows.length ≤ 5) : capN rows ≤ 112 := by
  obtain ⟨h1, h2⟩ := cap_is rows
  rw [h1]
  have h4 : 2 ^ (rows.length - gapsN rows) ≤ 2 ^ (5 - gapsN rows) := Nat.pow_le_pow_right (by decide) (by omega)
  refine Nat.le_trans (Nat.mul_le_mul_left _ h4) ?_
  generalize gapsN rows = k at h3
  match k, h3 with
  | 0, _ => decide
  | 1, _ => decide
theorem WaysOk.cap {b : List Int} {g st : List Int} {rows : List Row} (h : WaysOk g st rows) (t : Nat) : (allW g b st (rows.take t)).length ≤ 784 := by
  have h1 := gapsN_take (rows := rows) (t := t)
  have h2 := h.few
  have h3 := h.rows
  have h4 := flat_cap (waysF g b (rows.take t)) (l := st) (c := 112) fun f hf => Nat.le_trans (ways_cap h.gaps h.six (h.in_ f hf)) (cap_112 (by omega) (by rw [List.length_take]; omega))
  have h5 : st.length * 112 ≤ 7 * 112 := Nat.mul_le_mul_right _ h.len
  exact Nat.le_trans h4 (Nat.le_trans h5 (by decide))
theorem all_in {g b st : List Int} {rows : List Row} {w : List Int} (hs : ∀ x ∈ st, 0 ≤ x ∧ x ≤ g.length) (h : w ∈ allW g b st rows) : ∀ x ∈ w, 0 ≤ x ∧ x ≤ g.length := by
  obtain ⟨f, hf, hw⟩ := List.mem_flatMap.mp h
  exact waysF_in (hs f hf) hw
theorem end_at {w : List Int} (h : w ≠ []) : atI (li w) (-1) = some (.int (endW w)) ∧ endW w ∈ w := by
  have e : w = w.dropLast ++ [w.getLast h] := (List.dropLast_concat_getLast h).symm
  have e2 : endW w = w.getLast h := by
    show w.getLastD 0 = _
    cases w with
    | nil => exact absurd rfl h
    | cons x xs => exact (List.getLastD_eq_getLast?.trans (by rw [List.getLast?_eq_some_getLast h]; rfl))
  rw [e2]
  refine ⟨?_, List.getLast_mem h⟩
  have e3 : li w = li w.dropLast ++ [PyData.int (w.getLast h)] := by
    conv => lhs; rw [e]
    simp [li]
  rw [e3]
  exact atI_last _ _
theorem mp_at {α β : Type} {f : α → β} {xs : List α} {t : Nat} {d : β} (h : (xs.map f)[t]? = some d) : ∃ x, xs[t]? = some x ∧ d = f x := by
  rw [List.getElem?_map] at h
  obtain ⟨x, hx, e⟩ := Option.map_eq_some_iff.mp h
  exact ⟨x, hx, e.symm⟩
theorem ones : ∀ st : List Int, st.map (fun f => tupD [f]) = (st.flatMap fun f => [[f]]).map tupD
  | [] => rfl
  | x :: l => by rw [List.map_cons, List.flatMap_cons, List.map_append, ones l]; rfl
theorem cov_lst0 {Rs : List Res} : Cov M0 Rs := fun H0 H k a ha => ha.elim
abbrev moreW (g b : List Int) (r : Row) (w : List Int) : List (List Int) := (nextF g b r (endW w)).map fun o => w ++ [o]
section
variable {K : PySem.W.Frag} {mg : Str → Option Value} {base : Heap} {P : Program} {w : World}
abbrev waysD (ws : List (List Int)) : PyData := .list (ws.map tupD)
abbrev spWays (K : PySem.W.Frag) : Sp := SpP (α := { p : (List Int × List Int) × List Int × List Row // WaysOk p.1.1 p.2.1 p.2.2 }) (fun p => [PD K (drawnD p.1.1.1 p.1.1.2), PD K (tupD p.1.2.1), PD K (logD p.1.2.2)]) (fun p => PD K (waysD (allW p.1.1.1 p.1.1.2 p.1.2.1 p.1.2.2)))
theorem ok_law_ways (T : Txt K mg) : FnOk P w K mg base CX0 4 T.f__law_ways T.d__law_ways ["_law_drawn", "_law_start_here", "_law_log_here"] (spWays K) := by
  refine fn_F T.F__law_ways sc__law_ways (fun _ => rfl) fun ⟨⟨⟨g, b⟩, st, rows⟩, hok⟩ Z0 Z Q X qX hQ => ?_
  obtain ⟨cdv, A, outer, s, E, rfl, hr⟩ := qX
  have hk : WaysOk g st rows := hok
  have h6 := hk.six
  have hin := hk.in_
  have h8 := hk.rows
  have hst7 := hk.len
  have e0 : st.map (fun f => tupD [f]) = (allW g b st (rows.take 0)).map tupD := ones st
  refine xs_mapG PyData.int st 3 4 (fun f => tupD [f]) (xi_tup (xe_var 1)) (fun f hf s0 H0 C cl fp => by exact xe_tup (K := K) (ds := [.int f]) (xa_1 (xe_var 4)) (by simp)) ?_ sc__law_ways.nd (blkOk_by rfl) (by omega) cov0 (fun _ _ _ _ _ => pg_name (i := 4) sc__law_ways.nd rfl (Or.inl rfl)) rfl
  rw [e0]
  refine xs_forN 5 (Qs := (rows.map rowD).map (PD K)) (xi_list (xe_var 2)) (fun t Γ1 Rs1 => Rs1 = [] ∧ ∃ a4 a5 a6 a7 a8, Γ1 = [some (PD K (drawnD g b)), some (PD K (tupD st)), some (PD K (logD rows)), some (PD K (waysD (allW g b st (rows.take t)))), a4, a5, a6, a7, a8]) ⟨rfl, _, _, _, _, _, rfl⟩ ?_ ?_ sc__law_ways.nd
  · rintro t Qt Γ1 Rs1 hq ⟨rfl, a4, a5, a6, a7, a8, rfl⟩ Hs
    obtain ⟨d, hd, rfl⟩ := map_at hq
    obtain ⟨r, hrr, rfl⟩ := row_at hd
    have hro : r.Ok g := hk.each r (List.mem_of_getElem? hrr)
    have hsn : allW g b st (rows.take (t + 1)) = (allW g b st (rows.take t)).flatMap (moreW g b r) := by
      rw [List.take_add_one, hrr]
      exact allW_snoc
    have hcap := hk.cap (b := b) (t + 1)
    obtain ⟨L, eL⟩ : ∃ L, L = allW g b st (rows.take t) := ⟨_, rfl⟩
    have hLl : ∀ v ∈ L, v.length = (rows.take t).length + 1 ∧ ∀ x ∈ v, 0 ≤ x ∧ x ≤ g.length := fun v hv => by
      rw [eL] at hv
      exact ⟨all_len hv, all_in hin hv⟩
    rw [hsn, ← eL] at hcap
    rw [← eL] at hsn
    rw [← eL]
    refine xs_asg 6 (P := PD K (waysD ((L.take 0).flatMap (moreW g b r)))) (YE.dat (xe_lst (ds := []) xa_nil (by simp)) rfl) ?_ sc__law_ways.nd
    refine xs_forN 7 (Qs := (L.map tupD).map (PD K)) (xi_list (xe_var 3)) (fun u Γ1 Rs1 => Rs1 = [] ∧ ∃ c4 c7 c8, Γ1 = [some (PD K (drawnD g b)), some (PD K (tupD st)), some (PD K (logD rows)), some (PD K (waysD L)), c4, some (PD K (rowD r)), some (PD K (waysD ((L.take u).flatMap (moreW g b r)))), c7, c8]) ⟨rfl, _, _, _, rfl⟩ ?_ ?_ sc__law_ways.nd
    · rintro u Qu Γ3 Rs3 hq3 ⟨rfl, e4, e7, e8, rfl⟩ Hs3
      obtain ⟨d, hd, rfl⟩ := map_at hq3
      obtain ⟨v, hv, rfl⟩ := mp_at hd
      obtain ⟨hvl, hvx⟩ := hLl v (List.mem_of_getElem? hv)
      have hvne : v ≠ [] := fun e => by
        rw [e] at hvl
        simp at hvl
      obtain ⟨ea, em⟩ := end_at hvne
      have hend := hvx _ em
      have hnl := nextF_len (g := g) (b := b) (r := r) (f := endW v)
      have htk : (L.take (u + 1)).flatMap (moreW g b r) = (L.take u).flatMap (moreW g b r) ++ moreW g b r v := by
        rw [List.take_add_one, hv, List.flatMap_append]
        simp
      have hml : (moreW g b r v).length = (nextF g b r (endW v)).length := by rw [List.length_map]
      have hlen : ((L.take (u + 1)).flatMap (moreW g b r)).length ≤ 784 := by
        have e : L.flatMap (moreW g b r) = (L.take (u + 1)).flatMap (moreW g b r) ++ (L.drop (u + 1)).flatMap (moreW g b r) := by
          rw [← List.flatMap_append, List.take_append_drop]
        rw [e, List.length_append] at hcap
        omega
      rw [htk, List.length_append] at hlen
      have hvl8 : v.length ≤ 9 := by
        rw [hvl, List.length_take]
        omega
      refine xs_asg 6 (P := PD K (waysD ((L.take (u + 1)).flatMap (moreW g b r)))) (YE.dat (xe_catL (ds := ((L.take u).flatMap (moreW g b r)).map tupD) (es := (moreW g b r v).map tupD) (xe_var 6) (YE.dat (xe_mapI 8 (fun o => tupD (v ++ [o])) (xi_list (xe_callD (ok_law_next_floors T) ⟨((g, b), endW v, r), hend, by show g.length ≤ 9; omega, hro⟩ (hr.mono (by decide)) T.g__law_next_floors T.F__law_next_floors.kp T.b__law_next_floors (xa_cons (xe_var 0) (xa_cons (xe_ixT (xe_var 7) (xe_neg xe_int) ea) (xa_1 (xe_var 5)))))) (fun o ho s0 H0 C cl fp => by exact YE.dat (xe_catT (ds := li v) (es := [.int o]) (xe_var 7) (xe_tup (ds := [.int o]) (xa_1 (xe_var 8)) (by simp)) (by simp [li]; omega)) (by simp [li])) sc__law_ways.nd (blkOk_by rfl) (by show (nextF g b r (endW v)).length ≤ 100000; omega) cov0 (fun _ _ _ _ _ => pg_name (i := 8) sc__law_ways.nd rfl (Or.inl rfl))) (by
        show PyData.list ((nextF g b r (endW v)).map fun o => tupD (v ++ [o])) = _
        rw [List.map_map]
        rfl)) (by simp only [List.length_map]; rw [hml] at hlen; omega)) (by
        rw [htk]
        show PyData.list (((L.take u).flatMap (moreW g b r)).map tupD ++ (moreW g b r v).map tupD) = .list (((L.take u).flatMap (moreW g b r) ++ moreW g b r v).map tupD)
        rw [List.map_append])) (xs_turn (fun σ H h => h) ⟨rfl, _, _, _, rfl⟩) sc__law_ways.nd
    · rintro Γ3 Rs3 ⟨rfl, e4, e7, e8, rfl⟩
      have e0 : ((L.map tupD).map (PD K)).length = L.length := by simp
      rw [e0, List.take_length, ← hsn]
      refine xs_asg 3 (P := PD K (waysD (allW g b st (rows.take (t + 1))))) (xe_var 6) (xs_turn (fun σ H h => h) ⟨rfl, _, _, _, _, _, rfl⟩) sc__law_ways.nd
  · rintro Γ1 Rs1 ⟨rfl, a4, a5, a6, a7, a8, rfl⟩
    have e0 : ((rows.map rowD).map (PD K)).length = rows.length := by simp
    rw [e0, List.take_length]
    exact xs_ret (xe_var 3) fun v H0 H s k hv => hQ v H0 H s k hv
/-- the floors of the ways at a moment -/
abbrev spLFl (K : PySem.W.Frag) : Sp := SpP (α := { p : (List Int × List Int) × (List Int × List Row) × Nat // WaysOk p.1.1 p.2.1.1 p.2.1.2 ∧ p.2.2 ≤ p.2.1.2.length }) (fun p => [PD K (waysD (allW p.1.1.1 p.1.1.2 p.1.2.1.1 p.1.2.1.2)), PD K (.int (p.1.2.2 : Nat))]) (fun p => PD K (eL (atL p.1.1.1 p.1.1.2 p.1.2.1.1 p.1.2.1.2 p.1.2.2)))
theorem ok_law_floors (T : Txt K mg) : FnOk P w K mg base CX0 1 T.f__law_floors T.d__law_floors ["_law_courses", "_law_moment"] (spLFl K) := by
  refine fn_F T.F__law_floors sc__law_floors (fun _ => rfl) fun ⟨⟨⟨g, b⟩, ⟨st, rows⟩, t⟩, hok, ht⟩ Z0 Z Q X qX hQ => ?_
  obtain ⟨cdv, A, outer, s, E, rfl, hr⟩ := qX
  have hk : WaysOk g st rows := hok
  have ht' : t ≤ rows.length := ht
  have h6 := hk.six
  have hcap : (allW g b st rows).length ≤ 784 := by
    have h := hk.cap (b := b) rows.length
    rw [List.take_length] at h
    exact h
  have hat : ∀ v ∈ allW g b st rows, atI (li v) ((t : Nat) : Int) = some (.int (gtI v t)) := fun v hv => by
    have hl := all_len hv
    exact atI_ints (by omega) (by omega)
  refine xs_ret (xe_sortSet (ns := (allW g b st rows).map fun v => gtI v t) (R := atL g b st rows t) T.z_sorted T.z_set (YE.dat (xe_mapG tupD (allW g b st rows) 2 (fun v => .int (gtI v t)) (xi_list (xe_var 0)) (fun v hv s0 H0 C cl fp => by exact xe_ixT (xe_var 2) (xe_var 1) (hat v hv)) sc__law_floors.nd (blkOk_by rfl) (by omega) cov0 (fun _ _ _ _ _ => pg_name (i := 2) sc__law_floors.nd rfl (Or.inl rfl))) (by
    show PyData.list _ = .list (((allW g b st rows).map fun v => gtI v t).map PyData.int)
    rw [List.map_map]
    rfl)) (by rw [List.length_map]; omega) ((rgI_up _).sublist List.filter_sublist) (by
    have h := List.length_filter_le (fun f => decide (0 < thrM g b st rows t f)) (rgI 0 (g.length + 1))
    rw [rgI_len] at h
    show ((rgI 0 (g.length + 1)).filter fun f => decide (0 < thrM g b st rows t f)).length < 64
    omega) fun z => ?_) fun v H0 H s k hv => hQ v H0 H s k hv
  unfold atL
  rw [List.mem_filter, decide_eq_true_eq, List.mem_map]
  constructor
  · rintro ⟨h1, h2⟩
    obtain ⟨w, hw, e⟩ := (thr_iff ht' hk.in_ (fl_in h1)).mp h2
    refine ⟨w, hw, ?_⟩
    show w.getD ((t : Nat) : Int).toNat 0 = z
    rw [List.getD_eq_getElem?_getD, Int.toNat_natCast, e]
    rfl
  · rintro ⟨w, hw, e⟩
    have hl := all_len hw
    have e2 : w[t]? = some z := by
      have hlt : t < w.length := by omega
      rw [List.getElem?_eq_getElem hlt]
      have e' : w.getD ((t : Nat) : Int).toNat 0 = z := e
      rw [List.getD_eq_getElem?_getD, Int.toNat_natCast, List.getElem?_eq_getElem hlt] at e'
      exact congrArg some e'
    have hz := all_in hk.in_ hw z (List.mem_of_getElem? e2)
    exact ⟨mem_rgI.mpr (by omega), (thr_iff ht' hk.in_ hz).mpr ⟨w, hw, e2⟩⟩
end
end K42
/-! enumerate(t, k); texts: put together, joined, many times; try .. except X. -/
namespace LhS
open L2 PyProof.Rows PySem PySem.Spec
section
variable {s : Shared} {E : Value → Shared → Prop} {A : Around} {w : World} {prog : Program}
/-- the tuple at a as it stands, each item in a new pair -/
def IteK (K : PySem.W.Frag) (c : Int) (a : Addr) : It :=
  ⟨fun i H => ∃ (xs : List V) (x : V), SqT K H a xs ∧ xs[i]? = some x, fun i H v H' => ∃ T x, v = .ref T ∧ H T = none ∧ H' = upd H T (.tup [.int (c + (i : Nat)), x]) ∧ ∀ xs, SqT K H a xs → xs[i]? = some x, fun i H => ∃ xs : List V, SqT K H a xs ∧ xs.length = i⟩
theorem turn_enumK {c : Int} {P : Program} {w : World} {K : PySem.W.Frag} {elts : List Expr} {kk : Nat} {tpos : Pos} (a e it : Addr) (hai : a ≠ it) :
    Turn P w K (.Tuple elts kk tpos) (IteK K c a) [e, it] e (fun i h => (∃ was, IsEnum h e it (c + ((i : Nat) : Int)) was) ∧ h.IsTupleIter it a i ∧ e ≠ it ∧ e ≠ a) where
  mem := by simp
  obj := fun i h now b inFp => by
    obtain ⟨⟨was, hEn⟩, ⟨o, ho, hc, hd⟩, _⟩ := now
    have eOr : b = e ∨ b = it := by simpa using inFp
    rcases eOr with z | z
    · rw [z]
      exact ⟨_, hEn, fun v q => nomatch q⟩
    · rw [z]
      exact ⟨o, ho, fun v q => by rw [hd] at q; cases q⟩
  keep := fun i h h' now k => by
    obtain ⟨⟨was, hEn⟩, hInts, nEI, nEA⟩ := now
    exact ⟨⟨was, k e (by simp) _ hEn⟩, hInts.at fun o q => k it (by simp) o q, nEI, nEA⟩
  item := by
    intro X hP hw hK hc i pins s σ H E I fpH now hg
    subst hP hw hK
    obtain ⟨⟨was, hEn⟩, hIt, nEI, nEA⟩ := now
    obtain ⟨xs, x, hSq, hx⟩ := hg
    obtain ⟨kids, vk, p, hz⟩ := I.tuple hSq
    obtain ⟨u, hu, uRel⟩ := vk.get hx
    have eIn : e < s.heap.objs.size := Heap.lt_size hEn
    have iIn : it < s.heap.objs.size := by obtain ⟨_, q, _⟩ := hIt; exact Heap.lt_size q
    have hh : X.A.in1.handled = none := I.ok.hd hc
    have hlen : i < kids.toArray.size := by
      have := (List.getElem?_eq_some_iff.mp hu).1
      simpa using this
    refine wpAny_pyNext_enum_itemC (Draws.tuple hh it a hai kids.toArray) hEn ⟨hIt, p⟩ hlen nEI (by simp [nEI, nEA]) fun y h' tk hy ho hs' hT hsz hk => ?_
    have ey : y = u := by
      have q : kids[i]? = some y := by simpa using hy
      rw [hu] at q
      exact Eq.symm (Option.some.inj q)
    subst ey
    refine ⟨_, rfl, wpAny_letOwnedTupleGo_enum (s := { s with heap := h', toks := tk + 1 }) ho fun h'' he' sb => ?_⟩
    have hT2 : h''.get? s.heap.objs.size = some { cls := .type "tuple", data := .seq #[.int (c + (i : Int)) tk, y] } := (sb.2 _ (Nat.ne_of_gt eIn)).trans hT
    have laid : ObjOk X.prog X.w (upd H s.heap.objs.size (.tup [.int (c + (i : Nat)), x])) h'' s.heap.objs.size (.tup [.int (c + (i : Nat)), x]) :=
      ⟨by show 2 ≤ sizeLine; decide, [.int (c + (i : Int)) tk, y], .cons ⟨_, rfl⟩ (.cons uRel .nil), ⟨_, hT2, rfl, _, rfl⟩⟩
    have I1 : Inv X pins σ (upd H s.heap.objs.size (.tup [.int (c + (i : Nat)), x])) { s with heap := h'', toks := tk + 1 } :=
      I.turnedNew (ch := [e, it]) (fun b ob inFp q => (sb.2 b (fun z => inFp (by simp [z]))).trans (hk b ob (fun z => inFp (by simp [z])) (fun z => inFp (by simp [z])) q)) fpH (Nat.le_refl _) laid
    refine ⟨.ref s.heap.objs.size, _, I1, rfl, ⟨_, x, rfl, I.hok.fresh (Nat.le_refl _), rfl, fun ys hy => by rw [I.tuple_inj hy hSq]; exact hx⟩, ⟨⟨y, ?_⟩, hs'.1.at fun o q => (sb.2 it (Ne.symm nEI)).trans q, nEI, nEA⟩, fun b inFp => ?_⟩
    · have eOne : c + ((i + 1 : Nat) : Int) = c + (i : Int) + 1 := by omega
      rw [eOne]; exact he'
    · have bIn : b < s.heap.objs.size := by
        have eOr : b = e ∨ b = it := by simpa using inFp
        rcases eOr with z | z
        · rw [z]; exact eIn
        · rw [z]; exact iIn
      rw [upd_ne (Nat.ne_of_lt bIn)]
      exact (fpH b inFp).1
  done := by
    intro X hP hw hK hc i pins s σ H E I fpH now hg
    subst hP hw hK
    obtain ⟨⟨was, hEn⟩, hIt, nEI, nEA⟩ := now
    obtain ⟨xs, hSq, hx⟩ := hg
    obtain ⟨kids, vk, p, hz⟩ := I.tuple hSq
    obtain ⟨f0, f1, f2, f3, f4, f5⟩ := fpH it (by simp)
    have hl := vk.length
    have hh : X.A.in1.handled = none := I.ok.hd hc
    have hn : i = kids.toArray.size := by
      rw [← hx, hl]
      simp
    subst hn
    exact wpAny_pyNext_enum_endD (Draws.tuple hh it a hai kids.toArray) hEn ⟨hIt, p⟩ fun h' eb => ⟨rfl, I.turned (t' := s.toks) (fun b o inFp q => eb b o inFp q) f0 f1 f3 f4 f5⟩
  self := fun A i s Q E now h => by
    obtain ⟨⟨_, hEn⟩, _⟩ := now
    exact wpAny_pyIter_enum hEn h
def iEnumK (K : PySem.W.Frag) (c : Int) (ta : TA) : TI := fun σ H R => ta σ H fun argv H1 => ∃ a xs, argv = [.ref a, .int c] ∧ SqT K H1 a xs ∧ R (IteK K c a) H1
theorem pi_enumK {X : Cx} {e e2 : Expr} {ta : TA} {c : Int} {p pos tpos : Pos} {elts : List Expr} {kk : Nat} (hk0 : -(2 ^ 63) ≤ c) (hk1 : c < 2 ^ 63) (hg : Gl X "enumerate") (hm : X.mg "enumerate" = none) (ha : PA X [e, e2] ta)
    (hs : starEach [e, e2] X.env = (false, eval e X.env) :: starEach [e2] X.env := by rfl) (hpl : (backTo pos (starEach [e2] X.env)).any (·.1) = false := by rfl) :
    PI X (.Tuple elts kk tpos) (.Call (.Name "enumerate" p) [e, e2] [] pos) (iEnumK X.K c ta) := by
  constructor
  intro pins s σ H R I h
  refine Call_ (ld_blt I hg hm boot_enumerate (PyProof.Rows.callWith_type1 (thn (ha.run pos pins s σ H _ I h) fun us s1 ⟨argv, H1, I1, r1, q1⟩ => ?_) hs hpl))
  obtain ⟨a, xs, ex, hSq, q⟩ := q1
  subst ex
  cases r1 with
  | cons u1 r2 =>
    cases r2 with
    | cons u2 r3 =>
      cases r3
      cases u1
      obtain ⟨tk2, e2'⟩ := u2
      subst e2'
      obtain ⟨kids, vk, p', hz⟩ := I1.tuple hSq
      have hal : a < s1.heap.objs.size := by obtain ⟨_, q, _⟩ := p'; exact Heap.lt_size q
      refine enum_begins (begins_tuple a kids.toArray) p' hk0 hk1 fun h' hEn hIt hz2 hk => wpAny_pyIter_enum hEn ?_
      have Inow : Inv X pins σ H1 { s1 with heap := h' } := I1.kept (t' := s1.toks) hk
      refine ⟨s1.heap.objs.size + 1, [s1.heap.objs.size + 1, s1.heap.objs.size], _, _, H1, rfl, Inow, turn_enumK a (s1.heap.objs.size + 1) s1.heap.objs.size (Nat.ne_of_lt hal), ⟨⟨.none, ?_⟩, ⟨_, hIt, rfl, rfl⟩, Nat.succ_ne_self _, Nat.ne_of_gt (Nat.lt_succ_of_lt hal)⟩, fun b inFp => ?_, q⟩
      · have ec : c + ((0 : Nat) : Int) = c := by omega
        rw [ec]
        exact hEn
      · have leB : s1.heap.objs.size ≤ b := by
          have eOr : b = s1.heap.objs.size + 1 ∨ b = s1.heap.objs.size := by simpa using inFp
          rcases eOr with z | z
          · exact z ▸ Nat.le_succ _
          · exact z ▸ Nat.le_refl _
        exact I1.fpOk leB (I1.hok.fresh leB)
end
end LhS
namespace Lh
open PySem L2
open Evl (Ex ex_l ex_t ex_rd fresh_back)
section
variable {M : Addr → Prop} {Γ Γ' : Ct} {Rs : List Res} {X : Cx} {Z0 Z Hl : Hp} {D : Ends} {K : PySem.W.Frag} {rest : List Stmt} {a b : Expr} {pos : Pos}
theorem wk_enumK {c : Int} {a : Addr} {xs : List V} {ds : List PyData} {H0 : Hp} (h : SqT K H0 a xs) (hd : DdAll K H0 ds xs) : Wk (LhS.IteK K c a) ((List.range ds.length).zipWith (fun i d => PT2 K (PD K (.int (c + (i : Nat)))) (PD K d)) ds) H0 := fun H0' H e e' i => by
  refine ⟨fun Q q => ?_, fun q => ⟨xs, ex_t (e.trans e') h, by rw [hd.len]; simpa using q⟩⟩
  have hlt : i < ds.length := by
    have := (List.getElem?_eq_some_iff.mp q).1
    simpa using this
  have e1 : PT2 K (PD K (.int (c + (i : Nat)))) (PD K ds[i]) = Q := by
    simpa [List.getElem?_zipWith, hlt] using q
  subst e1
  obtain ⟨v, h1, h2⟩ := hd.get (List.getElem?_eq_getElem hlt)
  refine ⟨⟨xs, v, ex_t (e.trans e') h, h1⟩, fun x H' ⟨T, y, y1, y2, y3, y4⟩ => ?_⟩
  have e2 : y = v := Option.some.inj ((y4 xs (ex_t (e.trans e') h)).symm.trans h1)
  subst e2 y1 y3
  exact ⟨upd H0' T (.tup [.int (c + (i : Nat)), y]), Step.new e' y2, T, _, _, rfl, SqT.of upd_same, rfl, Dd.ex (e.trans (Ex.new (fresh_back e' y2))) _ _ h2⟩
theorem xi_enumK {e e2 : Expr} {p pos tpos : Pos} {elts : List Expr} {kk : Nat} {c : Int} {ds : List PyData} (hm : X.mg "enumerate" = none) (h : XE M Γ Rs X e (PD X.K (.tuple ds))) (h2 : XE M Γ Rs X e2 (PD X.K (.int c))) (hk0 : -(2 ^ 63) ≤ c) (hk1 : c < 2 ^ 63) (hg : Gl X "enumerate" := by rfl)
    (he : starEach (e :: [e2]) X.env = (false, eval e X.env) :: starEach [e2] X.env := by rfl) (hpl : (backTo pos (starEach [e2] X.env)).any (·.1) = false := by rfl) (he2 : starEach [e2] X.env = (false, eval e2 X.env) :: starEach [] X.env := by rfl) :
    XI M Γ Rs X (.Tuple elts kk tpos) (.Call (.Name "enumerate" p) [e, e2] [] pos) ((List.range ds.length).zipWith (fun i d => PT2 X.K (PD X.K (.int (c + (i : Nat)))) (PD X.K d)) ds) := fun σ H0 H l ex k R r => PI.wp (LhS.pi_enumK hk0 hk1 hg hm pa_wp he hpl) ((xa_cons h (xa_1 h2 he2) he) σ H0 H l ex k _ fun vs H1 G1 s1 k1 a1 => by
  obtain ⟨v, r, e1, ⟨a, xs, e3, h3, h4⟩, h5⟩ := a1.inv
  obtain ⟨v2, r2, e4, h6, h7⟩ := h5.inv
  have e5 := h7.nil_inv
  obtain rfl : v2 = .int c := h6
  subst e1 e3 e4 e5
  exact ⟨a, xs, rfl, ex_t s1.le h3, r _ H1 G1 s1 k1 (wk_enumK h3 h4)⟩)
theorem enumK_at {c : Int} {ds : List PyData} {t : Nat} {Q : Pd} (h : ((List.range ds.length).zipWith (fun i d => PT2 K (PD K (.int (c + (i : Nat)))) (PD K d)) ds)[t]? = some Q) : ∃ d, ds[t]? = some d ∧ Q = PT2 K (PD K (.int (c + (t : Nat)))) (PD K d) := by
  have hlt : t < ds.length := by
    have := (List.getElem?_eq_some_iff.mp h).1
    simpa using this
  refine ⟨ds[t], List.getElem?_eq_getElem hlt, ?_⟩
  have : PT2 K (PD K (.int (c + (t : Nat)))) (PD K ds[t]) = Q := by simpa [List.getElem?_zipWith, hlt] using h
  exact this.symm
/-! ### texts -/
theorem xe_catS {x y : Str} (ha : XE M Γ Rs X a (PD K (.str x))) (hb : XE M Γ Rs X b (PD K (.str y))) (hz : x.length + y.length ≤ 1000000) : XE M Γ Rs X (.BinOp a .Add b pos) (PD K (.str (x ++ y))) := xe_bin op_add_str ha hb fun x' y' H0 H hx hy e _ => by
  obtain rfl : x' = .str x := hx
  obtain rfl : y' = .str y := hy
  exact Yld.val (z := .str (x ++ y)) e rfl fun Q q => ⟨x, y, rfl, rfl, Nat.le_trans hz (by decide), q⟩
theorem op_mul_str {x : Str} {n : Int} (h : MulOk x n) : OpR X (binaryOp .Mult) (fun u v H Q => u = .str x ∧ v = .int n ∧ Q (.str (Txt.mul x n)) H) := by
  intro pins s σ H x' y' v u Q I rx ry h'
  obtain ⟨rfl, rfl, q⟩ := h'
  obtain ⟨t, rfl⟩ := rx
  obtain ⟨t2, rfl⟩ := ry
  exact SB.mul h fun t' k => ⟨.str _, H, I.tok k, ⟨_, rfl⟩, q⟩
theorem mulOk_of {x : Str} {n : Int} (h0 : 0 ≤ n) (h1 : n ≤ 1000) (h2 : x.length ≤ 1000) : MulOk x n := by
  refine ⟨?_, fun _ _ hh => ?_, fun _ _ => ?_⟩
  · rw [decide_eq_false (by omega), decide_eq_false (by omega)]
    rfl
  · have hn : 1 ≤ n := by omega
    have : (9223372036854774 : Int) ≤ (2 ^ 63 - 1) / n := by
      refine (Int.le_ediv_iff_mul_le (by omega)).mpr ?_
      omega
    omega
  · have h3 : x.length * n.toNat ≤ 1000 * 1000 := Nat.mul_le_mul h2 (by omega)
    show decide (x.length * n.toNat > sizeLine) = false
    rw [decide_eq_false]
    have : (1000000 : Nat) ≤ sizeLine := by decide
    omega
theorem xe_mulS {x : Str} {n : Int} (ha : XE M Γ Rs X a (PD K (.str x))) (hb : XE M Γ Rs X b (PD K (.int n))) (h0 : 0 ≤ n) (h1 : n ≤ 1000) (h2 : x.length ≤ 1000) : XE M Γ Rs X (.BinOp a .Mult b pos) (PD K (.str (Txt.mul x n))) := xe_bin (op_mul_str (mulOk_of h0 h1 h2)) ha hb fun x' y' H0 H hx hy e _ => by
  obtain rfl : x' = .str x := hx
  obtain rfl : y' = .int n := hy
  exact Yld.val (z := .str (Txt.mul x n)) e rfl fun Q q => ⟨rfl, rfl, q⟩
/-- sep.join(a list of texts) -/
theorem xe_joinS {o e : Expr} {x : Str} {zs : List Str} {apos pos : Pos} (ho : XE M Γ Rs X o (PD X.K (.str x))) (he : XE M Γ Rs X e (PD X.K (.list (lsD zs)))) (hz : (zs.map (·.length)).sum + zs.length * x.length ≤ 1000000) (hs : starEach [e] X.env = [(false, eval e X.env)] := by rfl) (hbase : attributeBase o "join" X.env (eval o X.env) = eval o X.env := by rfl) (hline : (apos.endLine == pos.line) = true := by rfl) :
    XE M Γ Rs X (.Call (.Attribute o "join" apos) [e] [] pos) (PD X.K (.str (Txt.join x zs))) := YE.wp (pe_join pe_wp pe_wp hs hbase hline) fun σ H0 H l ex k Q q => ho σ H0 H l ex k _ fun v H1 G1 s1 k1 hv => by
  obtain rfl : v = .str x := hv
  refine ⟨⟨x, rfl⟩, he σ H1 G1 (l.ex s1.ex) s1.le k1 _ fun u H2 G2 s2 k2 hu => ?_⟩
  obtain ⟨p, xs, e1, h1, h2⟩ := hu
  have e2 := dds_inv h2
  subst e1 e2
  exact ⟨x, p, zs, rfl, rfl, .inl (ex_l s2.le (SqL.of h1)), Nat.le_trans hz (by decide), q _ H2 G2 (s1.trans s2) k2 rfl⟩
theorem xe_strI {e : Expr} {i : Int} {p pos : Pos} (hm : X.mg "str" = none) (h : XE M Γ Rs X e (PD K (.int i))) (hz : i.natAbs.log2 < 1920) (hg : Gl X "str" := by rfl) (he : starEach [e] X.env = (false, eval e X.env) :: starEach [] X.env := by rfl) (hpl : (backTo pos (starEach ([] : List Expr) X.env)).any (·.1) = false := by rfl) :
    XE M Γ Rs X (.Call (.Name "str" p) [e] [] pos) (PD K (.str (Str.ofString (toString i)))) :=
  xe_callTy call_str_int hm (by decide +kernel) (xa_1 h he) (fun xs H0 H hx e _ => by
    obtain ⟨v, e1, h1⟩ := da1 hx
    obtain rfl : v = .int i := h1
    subst e1
    exact Yld.val (z := .str (Str.ofString (toString i))) e rfl fun Q q => ⟨i, rfl, hz, q⟩) hg (by decide) (by decide) he hpl
end
section
open LhX
variable {M : Addr → Prop} {Γ : Ct} {Rs : List Res} {X : Cx} {K : PySem.W.Frag} {pos : Pos}
theorem xe_fmtIx {e : Expr} {i : Int} (h : XE M Γ Rs X e (PD K (.int i))) (hz : i.natAbs.log2 < 1920) : XE M Γ Rs X (.FormattedValue e (-1) none pos) (PD K (.str (Str.ofString (toString i)))) :=
  YE.wp (pe_fmt pe_wp) fun σ H0 H l ex k Q q => h σ H0 H l ex k _ fun v H1 G1 s1 k1 hv => .inr ⟨i, hv, hz, q _ H1 G1 s1 k1 rfl⟩
theorem xe_joined2 {v1 v2 : Expr} {x y : Str} (h1 : XE M Γ Rs X v1 (PD K (.str x))) (h2 : XE M Γ Rs X v2 (PD K (.str y))) (hz : x.length + y.length ≤ 100000) : XE M Γ Rs X (.JoinedStr [v1, v2] pos) (PD K (.str (Str.empty ++ x ++ y))) :=
  YE.wp (pe_joined (.cons pe_wp (.cons pe_wp .nil))) fun σ H0 H l ex k Q q => h1 σ H0 H l ex k _ fun v H1 G1 s1 k1 hv => by
    have hl : (Str.empty ++ x).length = x.length := by
      rw [str_app_len]
      exact Nat.zero_add _
    have hl2 : (Str.empty ++ x ++ y).length = x.length + y.length := by rw [str_app_len, hl]
    have h100 : (100000 : Nat) ≤ sizeLine := by decide
    exact ⟨x, hv, by omega, h2 σ H1 G1 (l.ex s1.ex) s1.le k1 _ fun u H2 G2 s2 k2 hu => ⟨y, hu, by omega, q _ H2 G2 (s1.trans s2) k2 rfl⟩⟩
end
section
variable {M : Addr → Prop} {Γ Γ' : Ct} {Rs : List Res} {X : Cx} {Z0 Z Hl : Hp} {D : Ends} {K : PySem.W.Frag} {rest : List Stmt} {a b c e : Expr} {es : List Expr} {pos p : Pos}
/-- x, z = a, [], where x or z is also read further in -/
theorem xs_parC2 (i m : Nat) {x z : Str} {P : Pd} {px pz pt pl : Pos} {kt k2 pt2} (ha : XE M Γ Rs X a P) (h : ∀ q, XS M ((Γ.set i (some P)).set m (some (PV (.ref q)))) (Res.lst Z q [] :: Rs) X Z0 Z Hl D rest) (hN : X.N.Nodup) (hc : X.calm = true := by rfl) (hx : X.N[i]? = some x := by rfl) (hz : X.N[m]? = some z := by rfl)
    (hl : Loc X.env.scope x := by first | exact Or.inl rfl | exact Or.inr rfl) (hl3 : Loc X.env.scope z := by first | exact Or.inl rfl | exact Or.inr rfl)
    (hf : X.fn x = true ∨ X.env.scope.names.lookup x = some .local := by first | exact .inl rfl | exact .inr rfl) (hf3 : X.fn z = true ∨ X.env.scope.names.lookup z = some .local := by first | exact .inl rfl | exact .inr rfl)
    (hs : swapsWithSole [.Tuple [.Name x px, .Name z pz] kt pt] (.Tuple [a, .List [] pl] k2 pt2) pos.line X.env = pure false := by rfl) (hw : swappedStores [.Tuple [.Name x px, .Name z pz] kt pt] (.Tuple [a, .List [] pl] k2 pt2) X.env = pure none := by rfl)
    (h1 : (assignEach [.Tuple [.Name x px, .Name z pz] kt pt] X.env).map (·.2) = [assign (.Tuple [.Name x px, .Name z pz] kt pt) X.env] := by rfl)
    (he : starEach [a, .List [] pl] X.env = (false, eval a X.env) :: starEach [.List [] pl] X.env := by rfl) (he2 : starEach [.List [] pl] X.env = (false, eval (.List [] pl) X.env) :: starEach [] X.env := by rfl) :
    XS M Γ Rs X Z0 Z Hl D (.Assign [.Tuple [.Name x px, .Name z pz] kt pt] (.Tuple [a, .List [] pl] k2 pt2) pos :: rest) :=
  xs_cons (ps_asg (pe_tup (pa_cons pe_wp (pa_cons (pe_lst pa_nil) pa_nil he2) he)) (pg_tup hc (pgs_cons (pg_name hN hx hl hf) (pgs_cons (pg_name hN hz hl3 hf3) pgs_nil))) hs hw h1) fun σ H0 H l s k0 r => ha σ H0 H l s.le r _ fun v H2 G2 s2 k2 a1 => ⟨show 0 ≤ sizeLine by decide, fun p hp => ⟨show 2 ≤ sizeLine by decide, fun t ht => by
    have t2 := s.trans s2
    have ne : ∀ r ∈ Rs, ∀ a ∈ r.ad, a ≠ p := fun r hr a ha e => by
      obtain ⟨⟨o, h1⟩, _⟩ := r.tr (k2.2 r hr) a ha
      rw [e, hp] at h1
      cases h1
    have hZ : Z p = none := by
      cases e : Z p with
      | none => rfl
      | some o =>
        obtain ⟨o', h'⟩ := t2.th p o e
        rw [hp] at h'
        cases h'
    have t3 : Step M Z0 Z H2 (upd G2 p (.lst [])) := ⟨fun a o hm ha => by
        rw [upd_ne (ne_of_none ha hZ)]
        exact t2.un a o hm ha, fun a o ha => by
        obtain ⟨o', h'⟩ := t2.th a o ha
        exact ⟨o', by rw [upd_ne (ne_of_none h' hp)]; exact h'⟩, t2.ex, fun a o ha => by
        rw [upd_ne (ne_of_none (t2.le a o ha) hp)]
        exact t2.le a o ha, t2.nw⟩
    have k3 : Rok (Res.lst Z p [] :: Rs) H2 (upd G2 p (.lst [])) := ⟨by
        rw [List.flatMap_cons, List.nodup_append]
        refine ⟨by simp [Res.lst], k2.1, fun a ha c hc e => ?_⟩
        have e1 : a = p := by simpa [Res.lst] using ha
        obtain ⟨r, hr, hc⟩ := List.mem_flatMap.mp hc
        exact ne r hr c hc (e ▸ e1), fun r hr => by
        obtain e | hr := List.mem_cons.mp hr
        · subst e
          exact ⟨hZ, fresh_back t2.le hp, [], upd_same, DAll.nil⟩
        · exact (k2.wr ne).2 r hr⟩
    have s4 := Step.new (M := M) (o := .tup [v, .ref p]) t3.le ht
    have s4' := Step.new (M := M0) (o := .tup [v, .ref p]) t3.le ht
    have ee := s2.ex.trans s4.ex
    exact ⟨t, [v, .ref p], rfl, SqT.of upd_same, rfl, v, [.ref p], rfl, .ref p, [], rfl, rfl, h p _ _ _ (((l.ex ee).set (P.m s4.ex a1)).set rfl) (t3.trans s4) (k0.trans ee) (k3.step0 s4')⟩⟩⟩
end
end Lh
namespace LhX
open PySem L2 PySem.W PyProof.Rows PySem.Calls Lh
open Evl (Ex ex_l ex_t ex_rd fresh_back)
section
variable {M : Addr → Prop} {Γ : Ct} {Rs : List Res} {X : Cx} {K : Frag} {Z0 Z Hl : Hp} {D : Ends} {rest : List Stmt}
/-- a def that raises, called: what is known of the slots is known behind it, too -/
theorem xr_callS {mg : Str → Option Value} {x : Str} {W : WX} {e : Expr} {es : List Expr} {p pos : Pos} {P' : Program} {w' : World} {base' : Heap} {α : Type} {pre : α → List Pd} {exc : α → XK} {f : Addr} {fd : FuncData} {ps : List Str} {k : Nat} {Ps : List Pd} (F : FnOk P' w' K mg base' (L2.CX P' w') k f fd ps (SpX pre exc)) (hr : Room k X.A) (tk : Takes X W)
    (hm : mg x = some (.ref f)) (hk : keepIn K (.ref f) = true) (hb : Binds K fd ps []) (ha : XA M Γ Rs X (e :: es) Ps) (y : α) (hx : pre y = Ps) (hW : ∀ cls d σ H0 H, Sl Γ σ H0 → Lh.Step M Z0 Z H0 H → Rok Rs H0 H → exc y cls d H0 → W cls d σ H)
    (hg : Gl X x := by rfl) (hdb : (x == ("__debug__" : Str)) = false := by decide) (he : starEach (e :: es) X.env = (false, eval e X.env) :: starEach es X.env := by rfl) (hpl : (backTo pos (starEach es X.env)).any (·.1) = false := by rfl)
    (eP : X.prog = P' := by rfl) (ew : X.w = w' := by rfl) (eK : X.K = K := by rfl) (em : X.mg = mg := by rfl) (eb : X.base = base' := by rfl) : XR M Γ Rs X Z0 Z (.Call (.Name x p) (e :: es) [] pos) := by
  subst eP ew eK em eb hx
  refine fun σ H0 H l s k Q => PE.wp (pe_callS (E := WE W) F hr hg hm hk hb (fun σ => passAt tk σ) pa_wp hdb he hpl) (ha σ H0 H l s.le k _ fun vs H1 G1 s1 k1 a1 => ?_)
  exact ⟨y, H1, s1.le, a1, fun cls d H2 G2 s2 q => hW cls d σ H2 G2 ((l.ex s1.ex).ex s2.ex) ((s.trans s1).trans s2.of0) (k1.step0 s2) q⟩
theorem takesNo {X : Cx} : Takes X (fun _ _ _ _ => False) := fun _ _ x => by
  obtain ⟨_, _, _, _, _, _, _, _, _, _, _, _, _, _, _, _, h⟩ := x
  exact h.elim
/-- try: a body that raises / except C: suite / rest -/
theorem xs_tryR {x : Str} {c : Value} {exc : XK} {body suite : List Stmt} {b₀ : Stmt} {np pos pos' : Pos} (hs : X.stack = X.env :: X.outer) (hf : X.env.frame = some X.env.locals) (hc : Names X x c) (hx : ∀ cls d H, exc cls d H → exmOne X.K cls c = some true)
    (hb : ∀ (Y0 Y : Hp) (pn : List (Addr × Obj)) (xe : Value → Shared → Prop) (W : WX), Takes (X.tr pn xe) W → (∀ cls d σ H0 H, Sl Γ σ H0 → Lh.Step M Y0 Y H0 H → Rok Rs H0 H → exc cls d H0 → W cls d σ H) → XS M Γ Rs (X.tr pn xe) Y0 Y Y0 { D with nx := wpB X rest D } body)
    (hsu : ∀ (a : Addr) (oe : Obj) (cls : Value) (d : Option Addr) (pn : List (Addr × Obj)), XS M Γ Rs (X.suite a ((a, oe) :: pn)) Z0 Z Hl { D with nx := wpB X rest D } (b₀ :: suite)) :
    XS M Γ Rs X Z0 Z Hl D (.Try body [.ExceptHandler (some (.Name x np)) none (b₀ :: suite) pos'] [] [] pos :: rest) := fun σ H0 H l s b k =>
  PSs.wp (pss_cons (ps_try_only (tb := fun W D σ H => ∀ (pn : List (Addr × Obj)) (xe : Value → Shared → Prop), Takes (X.tr pn xe) W → wpB (X.tr pn xe) body D σ H)
    (ts := fun a cls d D σ H => ∀ (oe : Obj) (pn : List (Addr × Obj)), wpB (X.suite a ((a, oe) :: pn)) (b₀ :: suite) D σ H) hs hf hc (Wout := fun _ _ _ _ => False) takesNo
    (fun W pn xe tk _ => ⟨fun pins s σ H D I h => h pn xe tk pins s I⟩) (fun a oe cls d pn _ _ => ⟨fun pins s σ H D I h => h oe pn pins s I⟩)) pss_wp)
    (fun pn xe tk => hb H0 H pn xe _ tk (fun cls d σ' H0' H' l' s' k' h => ⟨true, hx cls d H0' h, fun _ a _ oe pn' => hsu a oe cls d pn' σ' H0' H' l' (s.trans s') (b.trans s'.ex) k', fun z => Bool.noConfusion z⟩) σ H0 H l (Lh.Step.rfl s.le) (Ex.refl _) k)
end
end LhX
namespace K42
open PySem L2 Lh
/-! ### pictures -/
def signS (fl : List Int) (f : Int) : Str := if f ∈ fl then "@" else "."
def floorS (b fl : List Int) (f : Int) : Str := if f ∈ b then signS fl f ++ "b" else signS fl f
def barS (g : List Int) (k : Nat) : Str := Txt.mul "|" (g.getD k 0)
def upS (g b fl : List Int) : Nat → List Str
  | 0 => [floorS b fl 0]
  | k + 1 => upS g b fl k ++ [barS g k, floorS b fl ((k : Nat) + 1)]
def shaftS (g b fl : List Int) : Str := Txt.join "\n" (upS g b fl g.length).reverse
theorem signS_len (fl : List Int) (f : Int) : (signS fl f).length = 1 := by
  unfold signS
  split <;> decide +kernel
theorem floorS_len (b fl : List Int) (f : Int) : (floorS b fl f).length ≤ 2 := by
  unfold floorS
  split
  · rw [LhX.str_app_len, signS_len]
    decide +kernel
  · rw [signS_len]
    decide
theorem barS_len {g : List Int} (hg : GapsOk g) (k : Nat) : (barS g k).length ≤ 9 := by
  unfold barS
  have h : g.getD k 0 ≤ ((9 : Nat) : Int) := by
    rw [List.getD_eq_getElem?_getD]
    cases e : g[k]? with
    | none => decide
    | some x => exact (hg.each x (List.mem_of_getElem? e)).2
  have h1 := PyProof.Rows.len_mul_leN (x := "|") (n := g.getD k 0) (L := 1) (N := 9) (by decide +kernel) h
  omega
theorem upS_len (g b fl : List Int) : ∀ k, (upS g b fl k).length = 2 * k + 1
  | 0 => rfl
  | k + 1 => by
    show (upS g b fl k ++ [barS g k, floorS b fl ((k : Nat) + 1)]).length = _
    rw [List.length_append, upS_len g b fl k]
    simp
    omega
theorem upS_each {g b fl : List Int} (hg : GapsOk g) : ∀ k, ∀ z ∈ upS g b fl k, z.length ≤ 9
  | 0, z, h => by
    have e : z = floorS b fl 0 := by simpa [upS] using h
    rw [e]
    have := floorS_len b fl 0
    omega
  | k + 1, z, h => by
    have h' : z ∈ upS g b fl k ++ [barS g k, floorS b fl ((k : Nat) + 1)] := h
    rcases List.mem_append.mp h' with h1 | h1
    · exact upS_each hg k z h1
    · rcases List.mem_cons.mp h1 with e | h1
      · rw [e]
        exact barS_len hg k
      · have e : z = floorS b fl ((k : Nat) + 1) := by simpa using h1
        rw [e]
        have := floorS_len b fl ((k : Nat) + 1)
        omega
theorem sum_lens {c : Nat} : ∀ {zs : List Str}, (∀ z ∈ zs, z.length ≤ c) → (zs.map (·.length)).sum ≤ zs.length * c
  | [], _ => by simp
  | z :: zs, h => by
    have h1 := h z List.mem_cons_self
    have h2 := sum_lens (zs := zs) fun y hy => h y (List.mem_cons_of_mem _ hy)
    rw [List.map_cons, List.sum_cons, List.length_cons, Nat.succ_mul]
    omega
theorem lsD_rev (zs : List Str) : (lsD zs).reverse = lsD zs.reverse := (List.map_reverse ..).symm
/-- a row of the table -/
def numS (f : Int) : Str := Str.ofString (toString f)
def signsS (g b st : List Int) (rows : List Row) (f : Int) : List Str := (List.range (rows.length + 1)).map fun t => if 0 < thrM g b st rows t f then "x" else "."
def tableS (g b st : List Int) (rows : List Row) (f : Int) : Str := (Str.empty ++ numS f ++ ": ") ++ Txt.join " " (signsS g b st rows f)
def picS (g b st : List Int) (rows : List Row) : Str := Txt.join "\n" ((rgI 0 (g.length + 1)).reverse.map (tableS g b st rows))
theorem log_10 {f : Int} (h0 : 0 ≤ f) (h1 : f ≤ 10) : f.natAbs.log2 < 1920 := by
  have h : f.natAbs ≤ 10 := by omega
  by_cases e : f.natAbs = 0
  · rw [e]
    decide
  · refine (Nat.log2_lt (k := 1920) e).mpr ?_
    have h1 : (10 : Nat) < 2 ^ 4 := by decide
    have h2 : (2 : Nat) ^ 4 ≤ 2 ^ 1920 := Nat.pow_le_pow_right (by decide) (by decide)
    omega
theorem numS_len {f : Int} (h0 : 0 ≤ f) (h1 : f ≤ 10) : (numS f).length ≤ 2000 := by
  have := int_text_length_le (k := 1920) (by decide) (log_10 h0 h1)
  unfold numS
  rw [PySem.ofString_length]
  omega
theorem signsS_len {g b st : List Int} {rows : List Row} {f : Int} : (signsS g b st rows f).length = rows.length + 1 := by
  unfold signsS
  rw [List.length_map, List.length_range]
theorem signsS_each {g b st : List Int} {rows : List Row} {f : Int} : ∀ z ∈ signsS g b st rows f, z.length ≤ 1 := fun z hz => by
  obtain ⟨t, _, rfl⟩ := List.mem_map.mp hz
  split <;> decide +kernel
theorem join_len (y : Str) : ∀ zs : List Str, (Txt.join y zs).length ≤ (zs.map (·.length)).sum + zs.length * y.length := fun zs => by
  rw [TL.join_eq]
  induction zs with
  | nil => exact Nat.zero_le _
  | cons z zs ih =>
    cases zs with
    | nil =>
      show z.length ≤ _
      simp
    | cons u r =>
      show (z ++ y ++ Str.join y (u :: r)).length ≤ _
      rw [LhX.str_app_len, LhX.str_app_len, List.map_cons, List.sum_cons, List.length_cons, Nat.succ_mul]
      omega
theorem tableS_len {g b st : List Int} {rows : List Row} {f : Int} (h0 : 0 ≤ f) (h1 : f ≤ 10) (hr : rows.length ≤ 1000) : (tableS g b st rows f).length ≤ 10000 := by
  have a1 := numS_len h0 h1
  have a2 := join_len " " (signsS g b st rows f)
  have a3 := sum_lens (signsS_each (g := g) (b := b) (st := st) (rows := rows) (f := f))
  rw [signsS_len] at a2 a3
  have e1 : (" " : Str).length = 1 := by decide +kernel
  have e2 : (": " : Str).length = 2 := by decide +kernel
  have e3 : Str.empty.length = 0 := rfl
  unfold tableS
  rw [LhX.str_app_len, LhX.str_app_len, LhX.str_app_len, e2, e3]
  rw [e1] at a2
  omega
section
variable {K : PySem.W.Frag} {mg : Str → Option Value} {base : Heap} {P : Program} {w : World} {A : Str → Addr}
abbrev spFLine (K : PySem.W.Frag) (C : Addr) : Sp := SpP (α := (List Int × List Int) × List Int × Int) (fun p => [PHo K C p.1.1 p.1.2, PD K (.tuple (li p.2.1)), PD K (.int p.2.2)]) (fun p => PD K (.str (floorS p.1.2 p.2.1 p.2.2)))
theorem ok_floor_line (T : Txt K mg) : FnOk P w K mg base CX0 3 T.f_floor_line T.d_floor_line ["house", "floors", "floor"] (spFLine K T.C_House) := by
  refine fn_F T.F_floor_line sc_floor_line (fun _ => rfl) fun ⟨⟨g, b⟩, fl, f⟩ Z0 Z Q X qX hQ => ?_
  obtain ⟨cdv, A, outer, s, E, rfl, hr⟩ := qX
  refine xs_asg 3 (P := PD K (.str (signS fl f))) (xe_ifx (xt_inT (xe_var 2) (xe_var 1)) (fun h => YE.dat (xe_str (K := K)) ?_) fun h => YE.dat (xe_str (K := K)) ?_) ?_ sc_floor_line.nd
  · unfold signS
    rw [if_pos (of_decide_eq_true (show true = decide (f ∈ fl) from h).symm)]
  · unfold signS
    rw [if_neg (of_decide_eq_false (show false = decide (f ∈ fl) from h).symm)]
  refine xs_ret (xe_ifx (xt_inT (xe_var 2) (xe_prop (ok_House_bells T) (g, b) (xe_var 0) rfl T.c_House T.m_House_bells hr T.b_House_bells)) (fun h => YE.dat (xe_catS (K := K) (xe_var 3) xe_str (by rw [signS_len]; decide +kernel)) ?_) fun h => YE.dat (d := .str (signS fl f)) (xe_var 3) ?_) fun v H0 H s k hv => hQ v H0 H s k hv
  · show PyData.str _ = .str (floorS b fl f)
    unfold floorS
    rw [if_pos (of_decide_eq_true (show true = decide (f ∈ b) from h).symm)]
  · show PyData.str _ = .str (floorS b fl f)
    unfold floorS
    rw [if_neg (of_decide_eq_false (show false = decide (f ∈ b) from h).symm)]
abbrev spShaft (K : PySem.W.Frag) (C : Addr) : Sp := SpP (α := { p : (List Int × List Int) × List Int // GapsOk p.1.1 ∧ ∀ x ∈ p.2, 0 ≤ x ∧ x ≤ p.1.1.length }) (fun p => [PHo K C p.1.1.1 p.1.1.2, PD K (.tuple (li p.1.2))]) (fun p => PD K (.str (shaftS p.1.1.1 p.1.1.2 p.1.2)))
theorem ok_shaft (T : Txt K mg) : FnOk P w K mg base CX0 4 T.f_shaft T.d_shaft ["house", "floors"] (spShaft K T.C_House) := by
  refine fn_F T.F_shaft sc_shaft (fun _ => rfl) fun ⟨⟨⟨g, b⟩, fl⟩, hg, hin⟩ Z0 Z Q X qX hQ => ?_
  obtain ⟨cdv, A, outer, s, E, rfl, hr⟩ := qX
  have hg' : GapsOk g := hg
  have h9 := hg'.nine
  refine xs_expr (xe_callD (ok_check_floors T) ⟨((g, b), fl), hin⟩ hr T.g_check_floors T.F_check_floors.kp T.b_check_floors (xa_cons (xe_var 0) (xa_1 (xe_var 1)))) ?_
  refine xs_newL 2 (ds := [.str (floorS b fl 0)]) (xa_1 (xe_callD (ok_floor_line T) ((g, b), fl, 0) (hr.mono (by decide)) T.g_floor_line T.F_floor_line.kp T.b_floor_line (xa_cons (xe_var 0) (xa_cons (xe_var 1) (xa_1 xe_int))))) (by simp) (fun q => ?_) cov0 sc_shaft.nd
  refine xs_forP 3 4 (xi_enumK (c := 1) T.z_enumerate (xe_prop (ok_House_gaps T) (g, b) (xe_var 0) rfl T.c_House T.m_House_gaps (hr.mono (by decide)) T.b_House_gaps) xe_int (by decide) (by decide)) (fun t Γ1 Rs1 => t ≤ g.length ∧ Rs1 = [Res.lst Z q ((lsD (upS g b fl t)).map (PD K))] ∧ ∃ a3 a4, Γ1 = [some (PHo K T.C_House g b), some (PD K (.tuple (li fl))), some (PV (.ref q)), a3, a4]) ⟨Nat.zero_le _, rfl, none, none, rfl⟩ ?_ ?_ sc_shaft.nd
  · rintro t Qt Γ1 Rs1 hq ⟨htl, rfl, a3, a4, rfl⟩
    obtain ⟨d, hd, rfl⟩ := enumK_at hq
    obtain ⟨n, hn, rfl⟩ := li_at hd
    have hn' : g[t]? = some n := hn
    have htl' : t < g.length := (List.getElem?_eq_some_iff.mp hn').1
    have hnr := hg'.each n (List.mem_of_getElem? hn')
    have eb : Txt.mul "|" n = barS g t := by
      unfold barS
      rw [List.getD_eq_getElem?_getD, hn']
      rfl
    have ef : (1 : Int) + (t : Nat) = (t : Nat) + 1 := by omega
    have hul := upS_len g b fl t
    refine ⟨_, _, rfl, fun Hs => ?_⟩
    refine xs_app (q := q) (P := PD K (.str (barS g t))) (xe_var 2) (YE.dat (xe_mulS (K := K) xe_str (xe_var 4) (by omega) (by omega) (by decide +kernel)) (congrArg PyData.str eb)) (by simp only [lsD, List.length_map]; omega) ?_ (pe_bm PySem.F.plainAttrs_list PySem.F.slot_list_append PySem.F.type_list_append mt_append pe_wp (pa_cons pe_wp pa_nil))
    refine xs_app (q := q) (P := PD K (.str (floorS b fl ((t : Nat) + 1)))) (xe_var 2) (YE.dat (xe_callD (ok_floor_line T) ((g, b), fl, 1 + ((t : Nat) : Int)) (hr.mono (by decide)) T.g_floor_line T.F_floor_line.kp T.b_floor_line (xa_cons (xe_var 0) (xa_cons (xe_var 1) (xa_1 (xe_var 3))))) (by
      show PyData.str (floorS b fl (1 + ((t : Nat) : Int))) = _
      rw [ef])) (by simp only [lsD, List.length_map, List.length_append, List.length_cons, List.length_nil]; omega) (xs_turn (fun σ H h => h) ⟨htl', ?_, _, _, rfl⟩) (pe_bm PySem.F.plainAttrs_list PySem.F.slot_list_append PySem.F.type_list_append mt_append pe_wp (pa_cons pe_wp pa_nil))
    have e : (lsD (upS g b fl (t + 1))).map (PD K) = (lsD (upS g b fl t)).map (PD K) ++ [PD K (.str (barS g t))] ++ [PD K (.str (floorS b fl ((t : Nat) + 1)))] := by
      show (lsD (upS g b fl t ++ [barS g t, floorS b fl ((t : Nat) + 1)])).map (PD K) = _
      simp [lsD]
    rw [e]
  · rintro Γ1 Rs1 ⟨_, rfl, a3, a4, rfl⟩
    have e0 : ((List.range (li g).length).zipWith (fun i d => PT2 K (PD K (.int (1 + (i : Nat)))) (PD K d)) (li g)).length = g.length := by
      simp [li]
    have e0' : upS g b fl ((List.range (li g).length).zipWith (fun i d => PT2 K (PD K (.int (1 + (i : Nat)))) (PD K d)) (li g)).length = upS g b fl g.length := congrArg (upS g b fl) e0
    have hul := upS_len g b fl g.length
    have hsum := sum_lens (zs := (upS g b fl g.length).reverse) (c := 9) fun z hz => upS_each hg' g.length z (List.mem_reverse.mp hz)
    rw [List.length_reverse] at hsum
    have e1 : ("\n" : Str).length = 1 := by decide +kernel
    refine xs_frzK 2 (ds := lsD (upS g b fl g.length)) (congrArg (fun l => (lsD l).map (PD K)) e0') rfl ?_
    exact xs_ret (xe_joinS (zs := (upS g b fl g.length).reverse) (xe_str (K := K)) (YE.dat (xe_revL (xe_var 2)) (congrArg PyData.list (lsD_rev _))) (by
      rw [List.length_reverse, e1]
      omega)) fun v H0 H s k hv => hQ v H0 H s k hv
abbrev spTLine (K : PySem.W.Frag) : Sp := SpP (α := { p : (List Int × List Int) × (List Int × List Row) × Int // p.1.1.length ≤ 9 ∧ p.2.1.2.length ≤ 900 ∧ 0 ≤ p.2.2 ∧ p.2.2 ≤ p.1.1.length }) (fun p => [PD K (eLL (thrLs p.1.1.1 p.1.1.2 p.1.2.1.1 p.1.2.1.2 (p.1.2.1.2.length + 1))), PD K (.int p.1.2.2)]) (fun p => PD K (.str (tableS p.1.1.1 p.1.1.2 p.1.2.1.1 p.1.2.1.2 p.1.2.2)))
theorem ok_table_line (T : Txt K mg) : FnOk P w K mg base CX0 1 T.f_table_line T.d_table_line ["numbers", "floor"] (spTLine K) := by
  refine fn_F T.F_table_line sc_table_line (fun _ => rfl) fun ⟨⟨⟨g, b⟩, ⟨st, rows⟩, f⟩, h9, hrl, hf0, hf1⟩ Z0 Z Q X qX hQ => ?_
  obtain ⟨cdv, A, outer, s, E, rfl, hr⟩ := qX
  have h9' : g.length ≤ 9 := h9
  have hrl' : rows.length ≤ 900 := hrl
  have hf : 0 ≤ f ∧ f ≤ g.length := ⟨hf0, hf1⟩
  have hlen : (thrLs g b st rows (rows.length + 1)).length = rows.length + 1 := by
    unfold thrLs
    rw [List.length_map, List.length_range]
  refine xs_mapG eL (thrLs g b st rows (rows.length + 1)) 2 3 (fun l => .str (if 0 < gtI l f then "x" else ".")) (xi_list (xe_var 0)) (fun l hl s0 H0 C cl fp => ?_) ?_ sc_table_line.nd (blkOk_by rfl) (by omega) cov0 (fun _ _ _ _ _ => pg_name (i := 3) sc_table_line.nd rfl (Or.inl rfl)) rfl
  · have hll : l.length = g.length + 1 := by
      unfold thrLs at hl
      obtain ⟨t, _, rfl⟩ := List.mem_map.mp hl
      unfold thrL
      rw [List.length_map, rgI_len]
    refine xe_ifx (xt_gt (K := K) (xe_ixL (xe_var 3) (xe_var 1) (atI_ints hf.1 (by omega))) xe_int) (fun h => YE.dat (xe_str (K := K)) ?_) fun h => YE.dat (xe_str (K := K)) ?_
    · rw [if_pos (of_decide_eq_true (show true = decide (0 < gtI l f) from h).symm)]
    · rw [if_neg (of_decide_eq_false (show false = decide (0 < gtI l f) from h).symm)]
  · have es : (thrLs g b st rows (rows.length + 1)).map (fun l => PyData.str (if 0 < gtI l f then "x" else ".")) = lsD (signsS g b st rows f) := by
      unfold thrLs signsS lsD
      rw [List.map_map, List.map_map]
      refine List.map_congr_left fun t _ => ?_
      show PyData.str (if 0 < gtI (thrL g b st rows t) f then "x" else ".") = .str (if 0 < thrM g b st rows t f then "x" else ".")
      have e : gtI (thrL g b st rows t) f = thrM g b st rows t f := by
        unfold thrL
        exact rg_at hf.1 (by omega)
      rw [e]
    rw [es]
    have a2 := join_len " " (signsS g b st rows f)
    have a3 := sum_lens (signsS_each (g := g) (b := b) (st := st) (rows := rows) (f := f))
    have a1 := numS_len hf.1 (f := f) (by omega)
    rw [signsS_len] at a2 a3
    have e1 : (" " : Str).length = 1 := by decide +kernel
    have e2 : (": " : Str).length = 2 := by decide +kernel
    have e3 : Str.empty.length = 0 := rfl
    rw [e1] at a2
    refine xs_ret (xe_catS (K := K) (x := Str.empty ++ numS f ++ ": ") (y := Txt.join " " (signsS g b st rows f)) (xe_joined2 (x := numS f) (y := ": ") (xe_fmtIx (xe_var 1) (log_10 hf.1 (by omega))) xe_str (by rw [e2]; omega)) (xe_joinS (xe_str (K := K)) (xe_var 2) (by rw [signsS_len, e1]; omega)) (by
      rw [LhX.str_app_len, LhX.str_app_len, e2, e3]
      omega)) fun v H0 H s k hv => hQ v H0 H s k hv
abbrev spTable (K : PySem.W.Frag) (C : Addr) : Sp := SpP (α := { p : (List Int × List Int) × (List Int × List Row) // HearOk p.1.1 p.2.1 p.2.2 ∧ UpOk p.1.1 p.2.1 p.2.2 ∧ p.2.2.length ≤ 900 }) (fun p => [PHo K C p.1.1.1 p.1.1.2, PD K (.tuple (li p.1.2.1)), PD K (logD p.1.2.2)]) (fun p => PD K (.str (picS p.1.1.1 p.1.1.2 p.1.2.1 p.1.2.2)))
theorem ok_ways_table (T : Txt K mg) : FnOk P w K mg base CX0 8 T.f_ways_table T.d_ways_table ["house", "start", "log"] (spTable K T.C_House) := by
  refine fn_F T.F_ways_table sc_ways_table (fun _ => rfl) fun ⟨⟨⟨g, b⟩, st, rows⟩, hok, hup, hrl⟩ Z0 Z Q X qX hQ => ?_
  obtain ⟨cdv, A, outer, s, E, rfl, hr⟩ := qX
  have hk : HearOk g st rows := hok
  have hu : UpOk g st rows := hup
  have hrl' : rows.length ≤ 900 := hrl
  have h9 := hk.nine
  refine xs_expr (xe_callD (ok_check_hearing T) ⟨((g, b), st, rows), hk.log, hk.nine, hk.start⟩ (hr.mono (by decide)) T.g_check_hearing T.F_check_hearing.kp T.b_check_hearing (xa_cons (xe_var 0) (xa_cons (xe_var 1) (xa_1 (xe_var 2))))) ?_
  refine xs_asg 3 (P := PD K (eLL (thrLs g b st rows (rows.length + 1)))) (xe_callD (ok_numbers_through T) ⟨((g, b), st, rows), hu⟩ hr T.g_numbers_through T.F_numbers_through.kp T.b_numbers_through (xa_cons (xe_var 0) (xa_cons (xe_var 1) (xa_1 (xe_callD (ok_links_of T) ⟨((g, b), rows), hu.nine, hu.size⟩ (hr.mono (by decide)) T.g_links_of T.F_links_of.kp T.b_links_of (xa_cons (xe_var 0) (xa_1 (xe_var 2)))))))) ?_ sc_ways_table.nd
  have hsum := sum_lens (zs := (rgI 0 (g.length + 1)).reverse.map (tableS g b st rows)) (c := 10000) fun z hz => by
    obtain ⟨f, hf, rfl⟩ := List.mem_map.mp hz
    have := fl_in (List.mem_reverse.mp hf)
    exact tableS_len this.1 (by omega) (by omega)
  rw [List.length_map, List.length_reverse, rgI_len] at hsum
  have e1 : ("\n" : Str).length = 1 := by decide +kernel
  refine xs_ret (xe_joinS (xe_str (K := K)) (zs := (rgI 0 (g.length + 1)).reverse.map (tableS g b st rows)) (YE.dat (xe_mapI (ns := (rgI 0 (g.length + 1)).reverse) 4 (fun f => .str (tableS g b st rows f)) (xi_tup (YE.dat (xe_revT (xe_prop (ok_House_floors T) (g, b) (xe_var 0) rfl T.c_House T.m_House_floors (hr.mono (by decide)) T.b_House_floors)) (congrArg PyData.tuple (List.map_reverse ..).symm))) (fun f hf s0 H0 C cl fp => by
    have h := fl_in (List.mem_reverse.mp hf)
    exact xe_callD (ok_table_line T) ⟨((g, b), (st, rows), f), h9, hrl', h.1, h.2⟩ (hr.mono (by decide)) T.g_table_line T.F_table_line.kp T.b_table_line (xa_cons (xe_var 3) (xa_1 (xe_var 4)))) sc_ways_table.nd (blkOk_by rfl) (by rw [List.length_reverse, rgI_len]; omega) cov0 (fun _ _ _ _ _ => pg_name (i := 4) sc_ways_table.nd rfl (Or.inl rfl))) (by
      show PyData.list _ = .list (lsD _)
      unfold lsD
      rw [List.map_map]
      rfl)) (by
      rw [List.length_map, List.length_reverse, rgI_len, e1]
      omega)) fun v H0 H s k hv => hQ v H0 H s k hv
/-- a text beside itself -/
abbrev spAlikeS (K : PySem.W.Frag) : Sp := SpP (α := Str) (fun a => [PD K (.str a), PD K (.str a)]) (fun _ => PD K (.bool true))
theorem ok_alike_str (T : Txt K mg) : FnOk P w K mg base CX0 1 T.f__law_alike T.d__law_alike ["_law_found", "_law_due"] (spAlikeS K) := by
  refine fn_F T.F__law_alike sc__law_alike (fun _ => rfl) fun a Z0 Z Q X qX hQ => ?_
  obtain ⟨cdv, A, outer, s, E, rfl, hr⟩ := qX
  refine xs_skip (xt_bool (K := K) (xe_isi (d := .str a) (TS := "dict") T.z_isinstance T.z_dict rfl (xe_var 1) (by decide +kernel))) ?_
  refine xs_skip (xt_bool (K := K) (xe_isiTL (d := .str a) T.z_isinstance T.z_tuple T.z_list rfl (xe_var 1))) ?_
  refine xs_yes (YT.eq (xt_orB (v := true) (xt_isN (d := .str a) (xe_var 1) (by show "str" ≠ "NoneType"; decide)) fun _ => xt_bool (K := K) (xe_isi (d := .str a) (TS := "str") T.z_isinstance T.z_str rfl (xe_var 1) (by decide +kernel))) rfl) ?_
  refine xs_ret (YE.imp (xe_and (K := K) (A := Is (decide (a = a))) (B := Is true) (YE.pb (xe_eqS (K := K) (xe_var 0) (xe_var 1))) (fun _ => YE.pb (YE.dat (xe_eqB (K := K) (u := true) (v := true) (xe_isi (d := .str a) (TS := "str") T.z_isinstance T.z_str rfl (xe_var 0) (by decide +kernel)) (xe_isi (d := .str a) (TS := "str") T.z_isinstance T.z_str rfl (xe_var 1) (by decide +kernel))) rfl))) (fun v H h => ?_)) fun v H0 H s k hv => hQ v H0 H s k hv
  obtain ⟨u, hu, hv⟩ := h
  have e : u = true := by
    rcases hu with ⟨h, _⟩ | ⟨_, h⟩
    · have h' : false = decide (a = a) := h
      rw [decide_eq_true rfl] at h'
      cases h'
    · exact h
  subst e
  exact hv
end
end K42
namespace K42
open PySem L2 Lh LhX
/-! ### a floor that is none -/
structure FloorsBad (g fl : List Int) : Prop where
  some : ∃ x ∈ fl, ¬ (0 ≤ x ∧ x ≤ g.length)
  small : ∀ x ∈ fl, x.natAbs.log2 < 1920
section
variable {K : PySem.W.Frag} {mg : Str → Option Value} {base : Heap} {P : Program} {w : World} {A : Str → Addr}
abbrev rkFloors (K : PySem.W.Frag) (C : Addr) (A : Str → Addr) : Sp := SpX (α := { p : (List Int × List Int) × List Int // FloorsBad p.1.1 p.2 }) (fun p => [PHo K C p.1.1.1 p.1.1.2, PD K (.tuple (li p.1.2))]) (fun _ => ErrIs (A "UnknownFloor") [])
theorem rk_check_floors (T : Txt K mg) (R : Erx P w K mg base A) : FnOk P w K mg base (L2.CX P w) 4 T.f_check_floors T.d_check_floors ["house", "floors"] (rkFloors K T.C_House A) := by
  refine fn_FX T.F_check_floors sc_check_floors (fun _ => rfl) fun ⟨⟨⟨g, b⟩, fl⟩, hf⟩ Z0 Z E X qX tk po hE => ?_
  obtain ⟨cdv, A1, outer, s, rfl, hr⟩ := qX
  have hf' : FloorsBad g fl := hf
  refine xs_forN (hp := po) 2 (xi_tup (xe_var 1)) (fun t Γ1 Rs1 => (∀ (j : Nat) (x : Int), j < t → fl[j]? = some x → 0 ≤ x ∧ x ≤ g.length) ∧ Rs1 = [] ∧ ∃ a, Γ1 = [some (PHo K T.C_House g b), some (PD K (.tuple (li fl))), a]) ⟨fun j x z => absurd z (Nat.not_lt_zero j), rfl, none, rfl⟩ ?_ ?_ sc_check_floors.nd
  · rintro t Qt Γ1 Rs1 hq ⟨hti, rfl, a, rfl⟩ Hs
    obtain ⟨d, hd, rfl⟩ := map_at hq
    obtain ⟨n, hn, rfl⟩ := li_at hd
    refine xs_if (xt_niT (xe_var 2) (xe_prop (ok_House_floors T) (g, b) (xe_var 0) rfl T.c_House T.m_House_floors (hr.mono (by decide)) T.b_House_floors)) (fun hc => ?_) fun hc => xs_then ?_
    · exact xs_raise0 R.e_UnknownFloor tk (xa_1 (xe_joined (XJ.cons (xe_fmtC (by decide)) (XJ.cons (xe_fmtI (xe_var 2) (hf'.small n (List.mem_of_getElem? hn))) XJ.nil)) (by decide))) (by simp) fun cls d σ H0 H s k e => hE cls d H0 H s e
    · refine xs_turn (fun σ H h => h) ⟨fun j x hj hx => ?_, rfl, _, rfl⟩
      rcases Nat.lt_or_ge j t with h | h
      · exact hti j x h hx
      · have e : j = t := by omega
        subst e
        rw [hn] at hx
        have e2 : n = x := Option.some.inj hx
        subst e2
        have hc' : false = !decide (n ∈ rgI 0 (g.length + 1)) := by simpa using hc
        have h2 : n ∈ rgI 0 (g.length + 1) := by simpa using hc'
        have h3 := mem_rgI.mp h2
        omega
  · rintro Γ1 Rs1 ⟨hti, rfl, a, rfl⟩
    exfalso
    obtain ⟨x, h1, h2⟩ := hf'.some
    obtain ⟨j, h3⟩ := List.getElem?_of_mem h1
    have h4 : j < fl.length := (List.getElem?_eq_some_iff.mp h3).1
    exact h2 (hti j x (by simpa [li] using h4) h3)
theorem rk_shaft (T : Txt K mg) (R : Erx P w K mg base A) : FnOk P w K mg base (L2.CX P w) 5 T.f_shaft T.d_shaft ["house", "floors"] (rkFloors K T.C_House A) := by
  refine fn_FX T.F_shaft sc_shaft (fun _ => rfl) fun ⟨⟨⟨g, b⟩, fl⟩, hf⟩ Z0 Z E X qX tk po hE => ?_
  obtain ⟨cdv, A1, outer, s, rfl, hr⟩ := qX
  exact xs_exprR (xr_call (rk_check_floors T R) hr tk T.g_check_floors T.F_check_floors.kp T.b_check_floors (xa_cons (xe_var 0) (xa_1 (xe_var 1))) ⟨((g, b), fl), hf⟩ rfl fun cls d σ H0 H s k e => hE cls d H0 H s e)
end
/-! ### the law's own lines -/
theorem str_empty (a : Str) : a ++ ("" : Str) = a := by
  refine TL.ext_tl ?_
  rw [TL.tl_append]
  have e : TL.tl ("" : Str) = [] := by decide +kernel
  rw [e, List.append_nil]
theorem empty_str (a : Str) : Str.empty ++ a = a := by
  refine TL.ext_tl ?_
  rw [TL.tl_append]
  rfl
theorem line_of (b fl : List Int) (f : Int) : (if f ∈ fl then ("@" : Str) else ".") ++ (if f ∈ b then ("b" : Str) else "") = floorS b fl f := by
  show signS fl f ++ _ = _
  unfold floorS
  by_cases h : f ∈ b
  · rw [if_pos h, if_pos h]
  · rw [if_neg h, if_neg h, str_empty]
/-- what is still to come from the t-th floor from above on -/
def remS (g b fl : List Int) (t : Nat) : List Str := if t ≤ g.length then (upS g b fl (g.length - t)).reverse else []
theorem rem_step {g b fl : List Int} {t : Nat} (h : t < g.length) : remS g b fl t = [floorS b fl ((g.length : Int) - t), barS g (g.length - t - 1)] ++ remS g b fl (t + 1) := by
  unfold remS
  rw [if_pos (by omega), if_pos (by omega)]
  obtain ⟨k, hk⟩ : ∃ k, g.length - t = k + 1 := ⟨g.length - t - 1, by omega⟩
  have e1 : g.length - (t + 1) = k := by omega
  have e2 : ((g.length : Int) - t) = (k : Nat) + 1 := by omega
  rw [hk, e1, e2]
  show (upS g b fl k ++ [barS g k, floorS b fl ((k : Nat) + 1)]).reverse = _
  rw [List.reverse_append]
  rfl
theorem rem_last {g b fl : List Int} : remS g b fl g.length = [floorS b fl 0] ++ remS g b fl (g.length + 1) := by
  unfold remS
  rw [if_pos (by omega), if_neg (by omega), Nat.sub_self]
  rfl
theorem table_of (g b st : List Int) (rows : List Row) (f : Int) : Txt.join " " ((numS f ++ ":") :: signsS g b st rows f) = tableS g b st rows f := by
  unfold tableS
  rw [TL.join_eq, TL.join_eq, empty_str]
  cases h : signsS g b st rows f with
  | nil =>
    have := signsS_len (g := g) (b := b) (st := st) (rows := rows) (f := f)
    rw [h] at this
    simp at this
  | cons z zs =>
    refine TL.ext_tl ?_
    show TL.tl ((numS f ++ ":") ++ " " ++ Str.join " " (z :: zs)) = _
    have e1 : TL.tl (":" : Str) ++ TL.tl (" " : Str) = TL.tl (": " : Str) := by decide +kernel
    rw [TL.tl_append, TL.tl_append, TL.tl_append, TL.tl_append, TL.tl_append, List.append_assoc (TL.tl (numS f)), e1]
theorem signs_of {g b st : List Int} {rows : List Row} {f : Int} (hf : 0 ≤ f ∧ f ≤ g.length) : (rgI 0 (rows.length + 1)).map (fun m => PyData.str (if f ∈ atL g b st rows m.toNat then "x" else ".")) = lsD (signsS g b st rows f) := by
  unfold signsS lsD rgI
  rw [List.map_map, List.map_map]
  refine List.map_congr_left fun t _ => ?_
  show PyData.str (if f ∈ atL g b st rows (0 + ((t : Nat) : Int)).toNat then "x" else ".") = .str (if 0 < thrM g b st rows t f then "x" else ".")
  have e : (0 + ((t : Nat) : Int)).toNat = t := by omega
  rw [e]
  have h : f ∈ atL g b st rows t ↔ 0 < thrM g b st rows t f := by
    unfold atL
    rw [List.mem_filter, decide_eq_true_eq]
    exact ⟨fun h => h.2, fun h => ⟨mem_rgI.mpr (by omega), h⟩⟩
  by_cases c : 0 < thrM g b st rows t f
  · rw [if_pos c, if_pos (h.mpr c)]
  · rw [if_neg c, if_neg fun z => c (h.mp z)]
end K42
namespace K42
open PySem L2 Lh LhX
theorem mix_ad {b l a : Addr} (h : MB b l a) : a ∈ (Res.mix b l).ad := by
  have h' : a = b ∨ a = l := h
  simpa [Res.mix] using h'
theorem cov_mix2 {b l : Addr} {r : Res} {Rs : List Res} : Cov (MB b l) (r :: Res.mix b l :: Rs) := fun H0 H k a ha => cov_mix (Rs := r :: Rs) H0 H (Rok.swap k) a ha
section
variable {K : PySem.W.Frag} {mg : Str → Option Value} {base : Heap} {P : Program} {w : World} {A : Str → Addr}
theorem ok_law0 (T : Txt K mg) (R : Erx P w K mg base A) : FnOk P w K mg base CX0 9 T.f_law T.d_law ["_law_script"] (spLaw K) := by
  refine fn_L63 T.F_law sc_law rfl fun ns hl Z0 Z Q X qX hQ => ?_
  obtain ⟨cdv, A1, outer, s, E, rfl, hr⟩ := qX
  have fin : ∀ (v : V) (H0 H : Hp), (PD K (.bool true)).p v H0 → Q v H := fun v H0 H h => by
    have e : v = .bl true := h
    subst e
    exact hQ H
  have n16 : (1 : Int) ≤ 6 := by decide
  have n69 : (6 : Int) ≤ 9 := by decide
  have m5 : (0 : Int) ≤ 5 := by decide
  have m59 : (5 : Int) ≤ 900 := by decide
  have enl : ("\n" : Str).length = 1 := by decide +kernel
  have esp : (" " : Str).length = 1 := by decide +kernel
  refine xs_mixed 1 (ok_law_mix T) (hr.mono (by decide)) T.g__law_mix T.F__law_mix.kp T.b__law_mix hl (xe_var 0) (xe_int (K := K)) (fun bx l hne zb zl => ?_) sc_law.nd
  refine xs_weak (M' := MB bx l) (fun _ h => h.elim) ?_
  refine xs_forN 2 (xi_range1 (K := K) T.z_range xe_int (by decide)) (fun t Γ1 Rs1 => (∃ a2 a3 a4 a5 a6 a7 a8 a9 a10 a11 a12 a13, Γ1 = [some (PSc K ns), some (PV (.ref bx)), a2, a3, a4, a5, a6, a7, a8, a9, a10, a11, a12, a13]) ∧ Rs1 = [Res.mix bx l]) ⟨⟨none, none, none, none, none, none, none, none, none, none, none, none, rfl⟩, rfl⟩ ?_ ?_ sc_law.nd
  · rintro t Qt Γ1 Rs1 hq ⟨⟨a2, a3, a4, a5, a6, a7, a8, a9, a10, a11, a12, a13, rfl⟩, rfl⟩ Hs
    -- the house
    refine xs_asgE 3 (A := fun q : List Int × List Int => LowHouse q.1 q.2 ∧ (q.1.length : Int) ≤ 6) (P := fun q => PD K (drawnD q.1 q.2)) (xe_callM (ok_law_house T) (hr.mono (by decide)) T.g__law_house T.F__law_house.kp T.b__law_house (xa_cons (xe_var 1) (xa_1 (xe_int (K := K) (i := 6)))) (fun vs H h => ⟨⟨((bx, l), 6), n16, n69⟩, h, rfl, fun _ h => h, fun _ h => mix_ad h, fun v H ⟨q, hq, hv⟩ => ⟨q, ⟨⟨hq.1, hq.2.2⟩, hq.2.1⟩, hv⟩⟩)) (fun q hh => ?_) sc_law.nd
    obtain ⟨g, b⟩ := q
    have hlow : LowHouse g b := hh.1
    have h6' : (g.length : Int) ≤ 6 := hh.2
    have h6 : g.length ≤ 6 := by omega
    have hh' : HouseOk g b := hlow.1
    have h9 := hh'.gaps.nine
    have hgl : ((li g).length : Int) + 1 = (g.length : Int) + 1 := by simp [li]
    have hcnt : ((g.length : Int) + 1).toNat = g.length + 1 := by omega
    -- start
    refine xs_par3 4 5 6 (P := PHo K T.C_House g b) (Q := PEx (fun st : List Int => st.Sublist (rgI 0 (g.length + 1)) ∧ st ≠ []) fun st => PD K (.tuple (li st))) (R := PD K (.int ((g.length : Int) + 1)))
      (xa_cons (xe_make T.k_House (ok_House_init T) (hr.mono (by decide)) T.g_House T.b_House_init (xa_cons (xe_ixT (d := .tuple (li g)) (xe_var 3) xe_int rfl) (xa_1 (xe_ixT (d := .tuple (li b)) (xe_var 3) xe_int rfl))) (fun vs H h => ⟨⟨(g, b), hh'⟩, h, fun _ _ h => h⟩) cov_mix)
      (xa_cons (xe_callM (ok_law_start T) (hr.mono (by decide)) T.g__law_start T.F__law_start.kp T.b__law_start (xa_cons (xe_var 1) (xa_1 (xe_var 3))) (fun vs H h => ⟨⟨((bx, l), g, b), h9⟩, h, rfl, fun _ h => h, fun _ h => mix_ad h, fun _ _ h => h⟩))
      (xa_1 (YE.dat (xe_add (K := K) (xe_lenT T.z_len (xe_ixT (d := .tuple (li g)) (xe_var 3) xe_int rfl)) xe_int) (congrArg PyData.int hgl))))) ?_ sc_law.nd
    refine xs_slot 5 rfl fun st hst0 => ?_
    obtain ⟨hst, hne⟩ := hst0
    have hrg : ∀ x ∈ st, 0 ≤ x ∧ x ≤ g.length := fun x hx => fl_in (hst.subset hx)
    have hsz : st.length ≤ 10 := by
      have := hst.length_le
      rw [rgI_len] at this
      omega
    have hnd : st.Nodup := ((rgI_up _).sublist hst).imp fun h => Int.ne_of_lt h
    -- some floors
    refine xs_parL 7 8 (P := PEx (fun x : List Int => x.Sublist (rgI 0 (g.length + 1))) fun x => PD K (.tuple (li x))) (xe_tupLE T.z_tuple (YE.imp (xe_lcIf (K := K) 9 (xi_range1 (K := K) T.z_range (xe_var 6) (by omega)) (SubR (-1) (rgI 0 (g.length + 1))) SubR.zero (fun i Q hq => ?_) sc_law.nd (blkOk_by rfl) (by simp only [li, List.length_map, rgI_len]; omega) cov_mix (fun _ _ _ _ _ => pg_name (i := 9) sc_law.nd rfl (Or.inl rfl))) (fun v H h => ?_))) (fun q => ?_) sc_law.nd
    · rw [hcnt] at hq
      obtain ⟨d, hd, rfl⟩ := map_at hq
      obtain ⟨n, hn, rfl⟩ := li_at hd
      refine ⟨fun _ => True, fun s0 H0 C cl fp => ?_, fun _ s0 H0 C cl fp => ?_, fun hb ds hR => ?_⟩
      · exact xt_eqIn (xe_next T (hr.mono (by decide)) (xe_var 1) xe_int (by decide) (by decide) (fun _ h => h)) (xe_int (K := K))
      · exact YE.imp (xe_var 9) fun v H h => ⟨.int n, fun ds _ hR => hR.yes hn, h⟩
      · refine hR.no hn ?_
        have := mem_rgI.mp (List.mem_of_getElem? hn)
        omega
    · obtain ⟨ds, ⟨hR, _⟩, hv⟩ := h
      obtain ⟨x, rfl, h1, _⟩ := hR.fin (by rw [hcnt]; simp [li])
      exact ⟨x, h1, hv⟩
    refine xs_slot 7 rfl fun fl hfl => ?_
    have hfl' : fl.Sublist (rgI 0 (g.length + 1)) := hfl
    have hflr : ∀ x ∈ fl, 0 ≤ x ∧ x ≤ g.length := fun x hx => fl_in (hfl'.subset hx)
    have hfll := hfl'.length_le
    rw [rgI_len] at hfll
    have erv : (li (rgI 0 ((g.length : Int) + 1).toNat)).reverse = li (rgI 0 (g.length + 1)).reverse := by
      rw [hcnt]
      exact (List.map_reverse ..).symm
    have hrl : (rgI 0 (g.length + 1)).reverse.length = g.length + 1 := by rw [List.length_reverse, rgI_len]
    have hrv : ∀ {t : Nat} {n : Int}, (rgI 0 (g.length + 1)).reverse[t]? = some n → t ≤ g.length ∧ n = (g.length : Int) - t := fun {t n} h => by
      have hlt : t < g.length + 1 := by
        have := (List.getElem?_eq_some_iff.mp h).1
        rw [hrl] at this
        exact this
      rw [List.getElem?_reverse (by rw [rgI_len]; exact hlt), rgI_len] at h
      unfold rgI at h
      rw [List.getElem?_map, List.getElem?_range (by omega)] at h
      have h' : (0 : Int) + ((g.length + 1 - 1 - t : Nat) : Int) = n := Option.some.inj h
      exact ⟨by omega, by omega⟩
    -- the shaft, from above
    refine xs_forN 9 (Qs := (li (rgI 0 (g.length + 1)).reverse).map (PD K)) (xi_list (YE.dat (xe_revL (xe_listRg T.z_list T.z_range (xe_var 6) (by omega))) (congrArg PyData.list erv))) (fun t Γ1 Rs1 => ∃ (L : List Str) (a9 : Option Pd), L ++ remS g b fl t = (upS g b fl g.length).reverse ∧ L.length ≤ 2 * t ∧
      Γ1 = [some (PSc K ns), some (PV (.ref bx)), some Qt, some (PD K (drawnD g b)), some (PHo K T.C_House g b), some (PD K (.tuple (li st))), some (PD K (.int ((g.length : Int) + 1))), some (PD K (.tuple (li fl))), some (PV (.ref q)), a9, a10, a11, a12, a13] ∧ Rs1 = [Res.lst Z q ((lsD L).map (PD K)), Res.mix bx l]) ⟨[], _, ?_, Nat.zero_le _, rfl, rfl⟩ ?_ ?_ sc_law.nd
    · show remS g b fl 0 = _
      unfold remS
      rw [if_pos (Nat.zero_le _), Nat.sub_zero]
    · rintro t1 Qt1 Γ1 Rs1 hq1 ⟨L, a9, hL, hLl, rfl, rfl⟩ Hs1
      obtain ⟨d, hd, rfl⟩ := map_at hq1
      obtain ⟨n, hn, rfl⟩ := li_at hd
      obtain ⟨ht1, en⟩ := hrv hn
      refine xs_app (q := q) (P := PD K (.str (floorS b fl n))) (xe_var 8) (YE.dat (xe_catS (K := K) (x := if n ∈ fl then ("@" : Str) else ".") (y := if n ∈ b then ("b" : Str) else "") (xe_ifx (xt_inT (xe_var 9) (xe_var 7)) (fun h => YE.dat (xe_str (K := K)) ?_) fun h => YE.dat (xe_str (K := K)) ?_) (xe_ifx (xt_inT (xe_var 9) (xe_ixT (d := .tuple (li b)) (xe_var 3) xe_int rfl)) (fun h => YE.dat (xe_str (K := K)) ?_) fun h => YE.dat (xe_str (K := K)) ?_) ?_) (congrArg PyData.str (line_of b fl n))) (by simp only [lsD, List.length_map]; omega) ?_ (pe_bm PySem.F.plainAttrs_list PySem.F.slot_list_append PySem.F.type_list_append mt_append pe_wp (pa_cons pe_wp pa_nil))
      · rw [if_pos (of_decide_eq_true (show true = decide (n ∈ fl) from h).symm)]
      · rw [if_neg (of_decide_eq_false (show false = decide (n ∈ fl) from h).symm)]
      · rw [if_pos (of_decide_eq_true (show true = decide (n ∈ b) from h).symm)]
      · rw [if_neg (of_decide_eq_false (show false = decide (n ∈ b) from h).symm)]
      · have e1 : (if n ∈ fl then ("@" : Str) else ".").length = 1 := signS_len fl n
        rw [e1]
        by_cases c : n ∈ b
        · rw [if_pos c]
          decide +kernel
        · rw [if_neg c]
          decide +kernel
      refine xs_if (xt_gt (K := K) (xe_var 9) xe_int) (fun h => ?_) fun h => ?_
      · have hpos : 0 < n := of_decide_eq_true (show true = decide (0 < n) from h).symm
        have htl : t1 < g.length := by omega
        have hix : atI (li g) (n - 1) = some (.int (gtI g (n - 1))) := atI_ints (by omega) (by omega)
        have egt : gtI g (n - 1) = g.getD (g.length - t1 - 1) 0 := by
          unfold gtI
          congr 1
          omega
        have hgr : 1 ≤ gtI g (n - 1) ∧ gtI g (n - 1) ≤ 9 := by
          have hlt : g.length - t1 - 1 < g.length := by omega
          rw [egt, List.getD_eq_getElem?_getD, List.getElem?_eq_getElem hlt]
          exact hh'.gaps.each _ (List.getElem_mem hlt)
        refine xs_app (q := q) (P := PD K (.str (barS g (g.length - t1 - 1)))) (xe_var 8) (YE.dat (xe_mulS (K := K) xe_str (xe_ixT (xe_ixT (d := .tuple (li g)) (xe_var 3) xe_int rfl) (xe_sub (xe_var 9) xe_int) hix) (by omega) (by omega) (by decide +kernel)) (by
          unfold barS
          rw [egt])) (by simp only [lsD, List.length_map, List.length_append, List.length_cons, List.length_nil]; omega) (xs_turn (fun σ H h => PSs.wp pss_nil h) ⟨L ++ [floorS b fl n, barS g (g.length - t1 - 1)], _, ?_, by rw [List.length_append]; simp; omega, rfl, ?_⟩) (pe_bm PySem.F.plainAttrs_list PySem.F.slot_list_append PySem.F.type_list_append mt_append pe_wp (pa_cons pe_wp pa_nil))
        · rw [← hL, rem_step htl, List.append_assoc, ← en]
        · simp [lsD]
      · have hpos : ¬ 0 < n := of_decide_eq_false (show false = decide (0 < n) from h).symm
        have htl : t1 = g.length := by omega
        have en0 : n = 0 := by omega
        refine xs_turn (fun σ H h => PSs.wp pss_nil h) ⟨L ++ [floorS b fl n], _, ?_, by rw [List.length_append]; simp; omega, rfl, ?_⟩
        · rw [← hL, htl, rem_last, List.append_assoc, en0]
        · simp [lsD]
    · rintro Γ1 Rs1 ⟨L, a9, hL, hLl, rfl, rfl⟩
      have ek : ((li (rgI 0 (g.length + 1)).reverse).map (PD K)).length = g.length + 1 := by rw [List.length_map, List.length_map, hrl]
      rw [ek] at hL hLl
      have hrem : remS g b fl (g.length + 1) = [] := by
        unfold remS
        rw [if_neg (by omega)]
      rw [hrem, List.append_nil] at hL
      subst hL
      have hup := upS_len g b fl g.length
      have hsum := sum_lens (zs := (upS g b fl g.length).reverse) (c := 9) fun z hz => upS_each hh'.gaps g.length z (List.mem_reverse.mp hz)
      rw [List.length_reverse] at hsum
      refine xs_frzK 8 rfl rfl ?_
      refine xs_skip (YT.eq (xt_notB (u := true) (xt_bool (K := K) (xe_callD (ok_alike_str T) (shaftS g b fl) (hr.mono (by decide)) T.g__law_alike T.F__law_alike.kp T.b__law_alike (xa_cons (xe_callD (ok_shaft T) ⟨((g, b), fl), hh'.gaps, hflr⟩ (hr.mono (by decide)) T.g_shaft T.F_shaft.kp T.b_shaft (xa_cons (xe_var 4) (xa_1 (xe_var 7)))) (xa_1 (xe_joinS (x := "\n") (zs := (upS g b fl g.length).reverse) (xe_str (K := K)) (xe_var 8) (by rw [List.length_reverse, enl]; omega))))))) rfl) ?_
      -- the log
      refine xs_asgE 10 (A := fun rows : List Row => ((∀ r ∈ rows, r.Lo g) ∧ gapsN rows ≤ 1) ∧ (rows.length : Int) ≤ 5) (P := fun rows => PD K (logD rows)) (xe_callM (ok_law_log1 T) (hr.mono (by decide)) T.g__law_log T.F__law_log.kp T.b__law_log (xa_cons (xe_var 1) (xa_cons (xe_var 3) (xa_cons (xe_var 5) (xa_1 (xe_int (K := K) (i := 5)))))) (fun vs H h => ⟨⟨(((bx, l), g, b), st, 5), hlow, ⟨hst, hne⟩, m5, m59⟩, h, rfl, fun _ h => h, fun _ h => mix_ad h, fun _ _ h => h⟩)) (fun rows hrows => ?_) sc_law.nd
      obtain ⟨⟨hlo, hgp⟩, hr5⟩ := hrows
      have hgp' : gapsN rows ≤ 1 := hgp
      have hr5' : rows.length ≤ 5 := by
        have h : (rows.length : Int) ≤ 5 := hr5
        omega
      have hro : ∀ r ∈ rows, r.Ok g := fun r hr => (hlo r hr).ok
      have hwk : WaysOk g st rows := ⟨hh'.gaps, h6, hst, hgp', hro, hr5'⟩
      have hear : HearOk g st rows := ⟨h9, hrg, by omega, hro, by omega⟩
      have hupk : UpOk g st rows := ⟨h9, by omega, hrg, hnd, hsz⟩
      have hlg : ((rows.map fun r => PyData.tuple r.ds).length : Int) = rows.length := by simp
      refine xs_parC2 11 8 (P := PD K (waysD (allW g b st rows))) (xe_callD (ok_law_ways T) ⟨((g, b), st, rows), hwk⟩ (hr.mono (by decide)) T.g__law_ways T.F__law_ways.kp T.b__law_ways (xa_cons (xe_var 3) (xa_cons (xe_var 5) (xa_1 (xe_var 10))))) (fun q2 => ?_) sc_law.nd
      have hts : ∀ {n : Int} {t1 : Nat}, (rgI 0 (g.length + 1)).reverse[t1]? = some n → (rgI 0 (g.length + 1)).reverse.take (t1 + 1) = (rgI 0 (g.length + 1)).reverse.take t1 ++ [n] := fun {n t1} h => by
        rw [List.take_add_one, h]
        rfl
      refine xs_forN 9 (Qs := (li (rgI 0 (g.length + 1)).reverse).map (PD K)) (xi_list (YE.dat (xe_revL (xe_listRg T.z_list T.z_range (xe_var 6) (by omega))) (congrArg PyData.list erv))) (fun t Γ1 Rs1 => ∃ (a9 a12 a13 : Option Pd),
        Γ1 = [some (PSc K ns), some (PV (.ref bx)), some Qt, some (PD K (drawnD g b)), some (PHo K T.C_House g b), some (PD K (.tuple (li st))), some (PD K (.int ((g.length : Int) + 1))), some (PD K (.tuple (li fl))), some (PV (.ref q2)), a9, some (PD K (logD rows)), some (PD K (waysD (allW g b st rows))), a12, a13] ∧ Rs1 = [Res.lst Z q2 ((lsD (((rgI 0 (g.length + 1)).reverse.take t).map (tableS g b st rows))).map (PD K)), Res.mix bx l]) ⟨_, _, _, rfl, rfl⟩ ?_ ?_ sc_law.nd
      · rintro t1 Qt1 Γ1 Rs1 hq1 ⟨a9, a12, a13, rfl, rfl⟩ Hs1
        obtain ⟨d, hd, rfl⟩ := map_at hq1
        obtain ⟨n, hn, rfl⟩ := li_at hd
        obtain ⟨ht1, en⟩ := hrv hn
        have hn' : (rgI 0 (g.length + 1)).reverse[t1]? = some n := hn
        have hnr : 0 ≤ n ∧ n ≤ g.length := by omega
        have hcr : ((rows.length : Int) + 1).toNat = rows.length + 1 := by omega
        refine xs_mapG PyData.int (rgI 0 ((rows.length : Int) + 1).toNat) 12 13 (fun m => .str (if n ∈ atL g b st rows m.toNat then "x" else ".")) (xi_range1 (K := K) (n := (rows.length : Int) + 1) T.z_range (YE.dat (xe_add (xe_lenL T.z_len (xe_var 10)) xe_int) (by rw [hlg])) (by omega)) (fun m hm s0 H0 C cl fp => ?_) ?_ sc_law.nd (blkOk_by rfl) (by rw [rgI_len]; omega) cov_mix2 (fun _ _ _ _ _ => pg_name (i := 13) sc_law.nd rfl (Or.inl rfl)) rfl
        · rw [hcr] at hm
          have hm' := mem_rgI.mp hm
          have em : ((m.toNat : Nat) : Int) = m := by omega
          refine xe_ifx (xt_inL (ns := atL g b st rows m.toNat) (xe_var 9) (xe_callD (ok_law_floors T) ⟨((g, b), (st, rows), m.toNat), hwk, by show m.toNat ≤ rows.length; omega⟩ (hr.mono (by decide)) T.g__law_floors T.F__law_floors.kp T.b__law_floors (xa_cons (xe_var 11) (xa_1 (YE.dat (xe_var 13) (congrArg PyData.int em.symm)))))) (fun h => YE.dat (xe_str (K := K)) ?_) fun h => YE.dat (xe_str (K := K)) ?_
          · rw [if_pos (of_decide_eq_true (show true = decide (n ∈ atL g b st rows m.toNat) from h).symm)]
          · rw [if_neg (of_decide_eq_false (show false = decide (n ∈ atL g b st rows m.toNat) from h).symm)]
        · rw [hcr, signs_of hnr]
          have a1 := numS_len hnr.1 (by omega)
          have a3 := sum_lens (signsS_each (g := g) (b := b) (st := st) (rows := rows) (f := n))
          rw [signsS_len] at a3
          have ec : (":" : Str).length = 1 := by decide +kernel
          refine xs_app (q := q2) (P := PD K (.str (tableS g b st rows n))) (xe_var 8) (YE.dat (xe_joinS (x := " ") (zs := (numS n ++ ":") :: signsS g b st rows n) (xe_str (K := K)) (YE.dat (xe_catL (ds := [.str (numS n ++ ":")]) (es := lsD (signsS g b st rows n)) (xe_lst (xa_1 (xe_catS (K := K) (x := numS n) (y := ":") (xe_strI T.z_str (xe_var 9) (log_10 hnr.1 (by omega))) xe_str (by rw [ec]; omega))) (by simp)) (xe_var 12) (by
            simp only [lsD, List.length_map, signsS_len, List.length_cons, List.length_nil]
            omega)) rfl) (by
            rw [List.map_cons, List.sum_cons, List.length_cons, signsS_len, esp, str_app_len, ec]
            omega)) (congrArg PyData.str (table_of g b st rows n))) (by
            simp only [lsD, List.length_map, List.length_take]
            omega) (xs_turn (fun σ H h => h) ⟨_, _, _, rfl, ?_⟩) (pe_bm PySem.F.plainAttrs_list PySem.F.slot_list_append PySem.F.type_list_append mt_append pe_wp (pa_cons pe_wp pa_nil))
          rw [hts hn']
          simp [lsD]
      · rintro Γ1 Rs1 ⟨a9, a12, a13, rfl, rfl⟩
        have etk : (rgI 0 (g.length + 1)).reverse.take ((li (rgI 0 (g.length + 1)).reverse).map (PD K)).length = (rgI 0 (g.length + 1)).reverse := by
          rw [ek]
          exact List.take_of_length_le (by rw [hrl]; omega)
        refine xs_frzK 8 (ds := lsD ((rgI 0 (g.length + 1)).reverse.map (tableS g b st rows))) (congrArg (fun l => (lsD (l.map (tableS g b st rows))).map (PD K)) etk) rfl ?_
        have hsum2 := sum_lens (zs := (rgI 0 (g.length + 1)).reverse.map (tableS g b st rows)) (c := 10000) fun z hz => by
          obtain ⟨f, hf, rfl⟩ := List.mem_map.mp hz
          have := fl_in (List.mem_reverse.mp hf)
          exact tableS_len this.1 (by omega) (by omega)
        rw [List.length_map, hrl] at hsum2
        refine xs_skip (YT.eq (xt_notB (u := true) (xt_bool (K := K) (xe_callD (ok_alike_str T) (picS g b st rows) (hr.mono (by decide)) T.g__law_alike T.F__law_alike.kp T.b__law_alike (xa_cons (xe_callD (ok_ways_table T) ⟨((g, b), st, rows), hear, hupk, by show rows.length ≤ 900; omega⟩ hr T.g_ways_table T.F_ways_table.kp T.b_ways_table (xa_cons (xe_var 4) (xa_cons (xe_var 5) (xa_1 (xe_var 10))))) (xa_1 (xe_joinS (x := "\n") (zs := (rgI 0 (g.length + 1)).reverse.map (tableS g b st rows)) (xe_str (K := K)) (xe_var 8) (by rw [List.length_map, hrl, enl]; omega))))))) rfl) ?_
        -- a floor too many
        have hbad : FloorsBad g (fl ++ [(g.length : Int) + 1]) := ⟨⟨(g.length : Int) + 1, by simp, by omega⟩, fun x hx => by
          rcases List.mem_append.mp hx with h | h
          · have := hflr x h
            exact log_10 this.1 (by omega)
          · have e : x = (g.length : Int) + 1 := by simpa using h
            rw [e]
            exact log_10 (by omega) (by omega)⟩
        refine xs_tryR (exc := ErrIs (A "UnknownFloor") []) (c := .ref (A "UnknownFloor")) rfl rfl ⟨rfl, by decide, .inl (R.er.gl "UnknownFloor" (by simp))⟩ (fun cls d H h => by rw [h.1]; exact R.x_UnknownFloor) (fun Y0 Y pn xe W tk hW => ?_) fun a oe cls d pn => ?_
        · exact xs_exprR (xr_callS (rk_shaft T R) (hr.mono (by decide)) tk T.g_shaft T.F_shaft.kp T.b_shaft (xa_cons (xe_var 4) (xa_1 (YE.dat (d' := .tuple (li (fl ++ [(g.length : Int) + 1]))) (xe_catT (ds := li fl) (es := [.int ((g.length : Int) + 1)]) (xe_var 7) (xe_tup (ds := [.int ((g.length : Int) + 1)]) (xa_1 (xe_var 6)) (by simp)) (by simp only [li, List.length_map, List.length_cons, List.length_nil]; omega)) (by simp [li])))) ⟨((g, b), fl ++ [(g.length : Int) + 1]), hbad⟩ rfl hW)
        · exact xs_asg 8 (P := PD K (.list [])) (xe_lst (ds := []) xa_nil (by simp)) (xs_turn (fun σ H h => PSs.wp pss_nil h) ⟨⟨_, _, _, _, _, _, _, _, _, _, _, _, rfl⟩, rfl⟩) sc_law.nd
  · rintro Γ1 Rs1 ⟨⟨a2, a3, a4, a5, a6, a7, a8, a9, a10, a11, a12, a13, rfl⟩, rfl⟩
    exact xs_ret (xe_bl (K := K)) fun v H0 H s k hv => fin v H0 H hv
theorem ok_law (T : Txt K mg) (R : Erx P w K mg base A) : FnOk P w K mg base CX0 9 T.f_law T.d_law ["_law_script"] (spLawN K []) := (ok_law0 T R).imp fun vs H Q E ⟨a, ns, h1, h2, _, h3, h4, h5⟩ => ⟨a, ns, h1, h2, h3, h4, h5⟩
end
end K42
namespace K42
open PySem L2 Lh LhX
/-! ### the end -/
def fas0 : List He.Fa := [.glo "check_gaps", .glo "check_bells", .glo "check_floors", .glo "is_row_of", .glo "check_log", .glo "check_hearing", .glo "next_floors", .glo "links_of", .glo "numbers_ahead", .glo "numbers_behind", .glo "numbers_through", .glo "floor_line"]
def fas1 : List He.Fa := [.glo "shaft", .glo "table_line", .glo "ways_table", .glo "_law_mix", .glo "_law_next", .glo "_law_alike", .glo "_law_house", .glo "_law_far", .glo "_law_next_floors", .glo "_law_ways", .glo "_law_row", .glo "_law_log"]
def fas2 : List He.Fa := [.glo "_law_start", .glo "_law_floors", .glo "law", .glo "House", .cls "House", .mkr "House", .noat "House" "_gaps", .noat "House" "_bells", .noat "House" "_floors", .meth "House" "__len__", .meth "House" "__eq__", .meth "House" "seconds"]
def fas3 : List He.Fa := [.free "len", .free "range", .free "enumerate", .free "zip", .free "min", .free "max", .free "sum", .free "sorted", .free "reversed", .free "int", .free "str", .free "bool"]
def fas4 : List He.Fa := [.free "list", .free "tuple", .free "dict", .free "set", .free "isinstance", .free "all", .free "ValueError", .free "super", .int "MOST_GAPS" 9, .int "LONGEST_GAP" 9, .int "LONGEST_GO" 81]
def fas : List He.Fa := fas0 ++ fas1 ++ fas2 ++ fas3 ++ fas4
def fns0 : List He.DefD := [⟨("check_gaps", none), "check_gaps", "check_gaps", defArgs s_check_gaps, defBody s_check_gaps, defScope s_check_gaps, [], []⟩, ⟨("check_bells", none), "check_bells", "check_bells", defArgs s_check_bells, defBody s_check_bells, defScope s_check_bells, [], []⟩, ⟨("check_floors", none), "check_floors", "check_floors", defArgs s_check_floors, defBody s_check_floors, defScope s_check_floors, [], []⟩, ⟨("is_row_of", none), "is_row_of", "is_row_of", defArgs s_is_row_of, defBody s_is_row_of, defScope s_is_row_of, [], []⟩, ⟨("check_log", none), "check_log", "check_log", defArgs s_check_log, defBody s_check_log, defScope s_check_log, [], []⟩, ⟨("check_hearing", none), "check_hearing", "check_hearing", defArgs s_check_hearing, defBody s_check_hearing, defScope s_check_hearing, [], []⟩, ⟨("next_floors", none), "next_floors", "next_floors", defArgs s_next_floors, defBody s_next_floors, defScope s_next_floors, [], []⟩, ⟨("links_of", none), "links_of", "links_of", defArgs s_links_of, defBody s_links_of, defScope s_links_of, [], []⟩, ⟨("numbers_ahead", none), "numbers_ahead", "numbers_ahead", defArgs s_numbers_ahead, defBody s_numbers_ahead, defScope s_numbers_ahead, [], []⟩, ⟨("numbers_behind", none), "numbers_behind", "numbers_behind", defArgs s_numbers_behind, defBody s_numbers_behind, defScope s_numbers_behind, [], []⟩, ⟨("numbers_through", none), "numbers_through", "numbers_through", defArgs s_numbers_through, defBody s_numbers_through, defScope s_numbers_through, [], []⟩, ⟨("floor_line", none), "floor_line", "floor_line", defArgs s_floor_line, defBody s_floor_line, defScope s_floor_line, [], []⟩]
def fns1 : List He.DefD := [⟨("shaft", none), "shaft", "shaft", defArgs s_shaft, defBody s_shaft, defScope s_shaft, [], []⟩, ⟨("table_line", none), "table_line", "table_line", defArgs s_table_line, defBody s_table_line, defScope s_table_line, [], []⟩, ⟨("ways_table", none), "ways_table", "ways_table", defArgs s_ways_table, defBody s_ways_table, defScope s_ways_table, [], []⟩, ⟨("_law_mix", none), "_law_mix", "_law_mix", defArgs s__law_mix, defBody s__law_mix, defScope s__law_mix, [], []⟩, ⟨("_law_next", none), "_law_next", "_law_next", defArgs s__law_next, defBody s__law_next, defScope s__law_next, [], []⟩, ⟨("_law_alike", none), "_law_alike", "_law_alike", defArgs s__law_alike, defBody s__law_alike, defScope s__law_alike, [], []⟩, ⟨("_law_house", none), "_law_house", "_law_house", defArgs s__law_house, defBody s__law_house, defScope s__law_house, [], []⟩, ⟨("_law_far", none), "_law_far", "_law_far", defArgs s__law_far, defBody s__law_far, defScope s__law_far, [], []⟩, ⟨("_law_next_floors", none), "_law_next_floors", "_law_next_floors", defArgs s__law_next_floors, defBody s__law_next_floors, defScope s__law_next_floors, [], []⟩, ⟨("_law_ways", none), "_law_ways", "_law_ways", defArgs s__law_ways, defBody s__law_ways, defScope s__law_ways, [], []⟩, ⟨("_law_row", none), "_law_row", "_law_row", defArgs s__law_row, defBody s__law_row, defScope s__law_row, [], []⟩, ⟨("_law_log", none), "_law_log", "_law_log", defArgs s__law_log, defBody s__law_log, defScope s__law_log, [], []⟩]
def fns2 : List He.DefD := [⟨("_law_start", none), "_law_start", "_law_start", defArgs s__law_start, defBody s__law_start, defScope s__law_start, [], []⟩, ⟨("_law_floors", none), "_law_floors", "_law_floors", defArgs s__law_floors, defBody s__law_floors, defScope s__law_floors, [], []⟩, ⟨("law", none), "law", "law", defArgs s_law, defBody s_law, defScope s_law, [], []⟩, ⟨("House", some "__init__"), "__init__", "House.__init__", defArgs s_House_init, defBody s_House_init, defScope s_House_init, [], []⟩, ⟨("House", some "__len__"), "__len__", "House.__len__", defArgs s_House_len, defBody s_House_len, defScope s_House_len, [], []⟩, ⟨("House", some "__eq__"), "__eq__", "House.__eq__", defArgs s_House_eq, defBody s_House_eq, defScope s_House_eq, [], []⟩, ⟨("House", some "seconds"), "seconds", "House.seconds", defArgs s_House_seconds, defBody s_House_seconds, defScope s_House_seconds, [], []⟩]
def fns : List He.DefD := fns0 ++ fns1 ++ fns2
def gts0 : List LhH.GetD := [⟨"House", "gaps", "House.gaps", defArgs s_House_gaps, defBody s_House_gaps, defScope s_House_gaps⟩, ⟨"House", "bells", "House.bells", defArgs s_House_bells, defBody s_House_bells, defScope s_House_bells⟩, ⟨"House", "floors", "House.floors", defArgs s_House_floors, defBody s_House_floors, defScope s_House_floors⟩]
def gts : List LhH.GetD := gts0
def tabs : List He.Defn := []
def sups : List SupQ := [⟨"InvalidHouse", "InvalidHouse.__init__", defArgs s_InvalidHouse_init, defBody s_InvalidHouse_init, defScope s_InvalidHouse_init⟩, ⟨"InvalidLog", "InvalidLog.__init__", defArgs s_InvalidLog_init, defBody s_InvalidLog_init, defScope s_InvalidLog_init⟩]
def exs (K : PySem.W.Frag) : Bool := ersB K erNames "LiftError" && (err0B K "UnknownFloor" && (noB K "InvalidHouse" "part" && (noB K "InvalidHouse" "index" && (noB K "InvalidLog" "index" && (decide (PySem.W.exmOne K (.ref (He.ga K "UnknownFloor")) (.ref (He.ga K "UnknownFloor")) = some true) && (ownB K (He.ga K "House")))))))
theorem all_mk {P : Program} {w : World} {K : PySem.W.Frag} {h : Heap} {mg : Str → Option Value} {fa : Addr} (c : ToldX fas fns gts tabs sups P.main.file exs h K) (G : h.Ns mainGlobals mg) (top : (P.main.scope.names.lookup ("super" : Str)).isSome = false) (hfa : mg ("law" : Str) = some (.ref fa)) :
    ∃ T : Txt K mg, T.f_law = fa ∧ OwnC K T.C_House ∧ (∀ base : Heap, Erx P w K mg base (He.ga K)) ∧ ∀ (s : Shared) (u : Value), BindsTo s T.d_law ⟨[u], []⟩ [("_law_script", u)] := by
  have X := c.in_
  have m := c.more
  unfold exs at m
  obtain ⟨q_er, m⟩ := He.ba m
  obtain ⟨q_e_UnknownFloor, m⟩ := He.ba m
  obtain ⟨q_n_InvalidHouse_part, m⟩ := He.ba m
  obtain ⟨q_n_InvalidHouse_index, m⟩ := He.ba m
  obtain ⟨q_n_InvalidLog_index, m⟩ := He.ba m
  obtain ⟨q_x_UnknownFloor, m⟩ := He.ba m
  have q_o_House := m
  obtain ⟨fd_InvalidHouse, S_InvalidHouse, C_InvalidHouse, O_InvalidHouse, I_InvalidHouse, Y_InvalidHouse, cl_InvalidHouse, kV_InvalidHouse, dc_InvalidHouse, pm_InvalidHouse, cd_InvalidHouse, ct_InvalidHouse, an_InvalidHouse, e_InvalidHouse⟩ := c.sup G top 0 (d := ⟨"InvalidHouse", "InvalidHouse.__init__", defArgs s_InvalidHouse_init, defBody s_InvalidHouse_init, defScope s_InvalidHouse_init⟩) (st := s_InvalidHouse_init) rfl rfl
  have b_InvalidHouse : Binds K fd_InvalidHouse ["self", "part", "index"] [] := Binds.all fun us hl => by
    subst e_InvalidHouse
    exact match us, hl with | [_, _, _], _ => rfl
  obtain ⟨fd_InvalidLog, S_InvalidLog, C_InvalidLog, O_InvalidLog, I_InvalidLog, Y_InvalidLog, cl_InvalidLog, kV_InvalidLog, dc_InvalidLog, pm_InvalidLog, cd_InvalidLog, ct_InvalidLog, an_InvalidLog, e_InvalidLog⟩ := c.sup G top 1 (d := ⟨"InvalidLog", "InvalidLog.__init__", defArgs s_InvalidLog_init, defBody s_InvalidLog_init, defScope s_InvalidLog_init⟩) (st := s_InvalidLog_init) rfl rfl
  have b_InvalidLog : Binds K fd_InvalidLog ["self", "index"] [] := Binds.all fun us hl => by
    subst e_InvalidLog
    exact match us, hl with | [_, _], _ => rfl
  have f_g_check_gaps := c.d.fact 0 (f := .glo "check_gaps") rfl
  have f_g_check_bells := c.d.fact 1 (f := .glo "check_bells") rfl
  have f_g_check_floors := c.d.fact 2 (f := .glo "check_floors") rfl
  have f_g_is_row_of := c.d.fact 3 (f := .glo "is_row_of") rfl
  have f_g_check_log := c.d.fact 4 (f := .glo "check_log") rfl
  have f_g_check_hearing := c.d.fact 5 (f := .glo "check_hearing") rfl
  have f_g_next_floors := c.d.fact 6 (f := .glo "next_floors") rfl
  have f_g_links_of := c.d.fact 7 (f := .glo "links_of") rfl
  have f_g_numbers_ahead := c.d.fact 8 (f := .glo "numbers_ahead") rfl
  have f_g_numbers_behind := c.d.fact 9 (f := .glo "numbers_behind") rfl
  have f_g_numbers_through := c.d.fact 10 (f := .glo "numbers_through") rfl
  have f_g_floor_line := c.d.fact 11 (f := .glo "floor_line") rfl
  have f_g_shaft := c.d.fact 12 (f := .glo "shaft") rfl
  have f_g_table_line := c.d.fact 13 (f := .glo "table_line") rfl
  have f_g_ways_table := c.d.fact 14 (f := .glo "ways_table") rfl
  have f_g__law_mix := c.d.fact 15 (f := .glo "_law_mix") rfl
  have f_g__law_next := c.d.fact 16 (f := .glo "_law_next") rfl
  have f_g__law_alike := c.d.fact 17 (f := .glo "_law_alike") rfl
  have f_g__law_house := c.d.fact 18 (f := .glo "_law_house") rfl
  have f_g__law_far := c.d.fact 19 (f := .glo "_law_far") rfl
  have f_g__law_next_floors := c.d.fact 20 (f := .glo "_law_next_floors") rfl
  have f_g__law_ways := c.d.fact 21 (f := .glo "_law_ways") rfl
  have f_g__law_row := c.d.fact 22 (f := .glo "_law_row") rfl
  have f_g__law_log := c.d.fact 23 (f := .glo "_law_log") rfl
  have f_g__law_start := c.d.fact 24 (f := .glo "_law_start") rfl
  have f_g__law_floors := c.d.fact 25 (f := .glo "_law_floors") rfl
  have f_g_law := c.d.fact 26 (f := .glo "law") rfl
  have f_g_House := c.d.fact 27 (f := .glo "House") rfl
  have f_c_House := c.d.fact 28 (f := .cls "House") rfl
  have f_k_House := c.d.fact 29 (f := .mkr "House") rfl
  have f_a_House_gaps := c.d.fact 30 (f := .noat "House" "_gaps") rfl
  have f_a_House_bells := c.d.fact 31 (f := .noat "House" "_bells") rfl
  have f_a_House_floors := c.d.fact 32 (f := .noat "House" "_floors") rfl
  have f_m_House_len := c.d.fact 33 (f := .meth "House" "__len__") rfl
  have f_m_House_eq := c.d.fact 34 (f := .meth "House" "__eq__") rfl
  have f_m_House_seconds := c.d.fact 35 (f := .meth "House" "seconds") rfl
  have f_z_len := c.d.fact 36 (f := .free "len") rfl
  have f_z_range := c.d.fact 37 (f := .free "range") rfl
  have f_z_enumerate := c.d.fact 38 (f := .free "enumerate") rfl
  have f_z_zip := c.d.fact 39 (f := .free "zip") rfl
  have f_z_min := c.d.fact 40 (f := .free "min") rfl
  have f_z_max := c.d.fact 41 (f := .free "max") rfl
  have f_z_sum := c.d.fact 42 (f := .free "sum") rfl
  have f_z_sorted := c.d.fact 43 (f := .free "sorted") rfl
  have f_z_reversed := c.d.fact 44 (f := .free "reversed") rfl
  have f_z_int := c.d.fact 45 (f := .free "int") rfl
  have f_z_str := c.d.fact 46 (f := .free "str") rfl
  have f_z_bool := c.d.fact 47 (f := .free "bool") rfl
  have f_z_list := c.d.fact 48 (f := .free "list") rfl
  have f_z_tuple := c.d.fact 49 (f := .free "tuple") rfl
  have f_z_dict := c.d.fact 50 (f := .free "dict") rfl
  have f_z_set := c.d.fact 51 (f := .free "set") rfl
  have f_z_isinstance := c.d.fact 52 (f := .free "isinstance") rfl
  have f_z_all := c.d.fact 53 (f := .free "all") rfl
  have f_z_ValueError := c.d.fact 54 (f := .free "ValueError") rfl
  have f_z_super := c.d.fact 55 (f := .free "super") rfl
  have f_v_MOST_GAPS := c.d.fact 56 (f := .int "MOST_GAPS" 9) rfl
  have f_v_LONGEST_GAP := c.d.fact 57 (f := .int "LONGEST_GAP" 9) rfl
  have f_v_LONGEST_GO := c.d.fact 58 (f := .int "LONGEST_GO" 81) rfl
  obtain ⟨d_check_gaps, D_check_gaps⟩ := c.d.def_ 0 (d := ⟨("check_gaps", none), "check_gaps", "check_gaps", defArgs s_check_gaps, defBody s_check_gaps, defScope s_check_gaps, [], []⟩) rfl
  have F_check_gaps : Fun K "check_gaps" "check_gaps" s_check_gaps _ d_check_gaps := LhH.fun_of D_check_gaps
  have b_check_gaps := F_check_gaps.binds (ps := ["gaps"]) fun _ _ _ _ _ _ us hl => match us, hl with | [_], _ => rfl
  obtain ⟨d_check_bells, D_check_bells⟩ := c.d.def_ 1 (d := ⟨("check_bells", none), "check_bells", "check_bells", defArgs s_check_bells, defBody s_check_bells, defScope s_check_bells, [], []⟩) rfl
  have F_check_bells : Fun K "check_bells" "check_bells" s_check_bells _ d_check_bells := LhH.fun_of D_check_bells
  have b_check_bells := F_check_bells.binds (ps := ["bells", "floors"]) fun _ _ _ _ _ _ us hl => match us, hl with | [_, _], _ => rfl
  obtain ⟨d_check_floors, D_check_floors⟩ := c.d.def_ 2 (d := ⟨("check_floors", none), "check_floors", "check_floors", defArgs s_check_floors, defBody s_check_floors, defScope s_check_floors, [], []⟩) rfl
  have F_check_floors : Fun K "check_floors" "check_floors" s_check_floors _ d_check_floors := LhH.fun_of D_check_floors
  have b_check_floors := F_check_floors.binds (ps := ["house", "floors"]) fun _ _ _ _ _ _ us hl => match us, hl with | [_, _], _ => rfl
  obtain ⟨d_is_row_of, D_is_row_of⟩ := c.d.def_ 3 (d := ⟨("is_row_of", none), "is_row_of", "is_row_of", defArgs s_is_row_of, defBody s_is_row_of, defScope s_is_row_of, [], []⟩) rfl
  have F_is_row_of : Fun K "is_row_of" "is_row_of" s_is_row_of _ d_is_row_of := LhH.fun_of D_is_row_of
  have b_is_row_of := F_is_row_of.binds (ps := ["house", "row"]) fun _ _ _ _ _ _ us hl => match us, hl with | [_, _], _ => rfl
  obtain ⟨d_check_log, D_check_log⟩ := c.d.def_ 4 (d := ⟨("check_log", none), "check_log", "check_log", defArgs s_check_log, defBody s_check_log, defScope s_check_log, [], []⟩) rfl
  have F_check_log : Fun K "check_log" "check_log" s_check_log _ d_check_log := LhH.fun_of D_check_log
  have b_check_log := F_check_log.binds (ps := ["house", "log"]) fun _ _ _ _ _ _ us hl => match us, hl with | [_, _], _ => rfl
  obtain ⟨d_check_hearing, D_check_hearing⟩ := c.d.def_ 5 (d := ⟨("check_hearing", none), "check_hearing", "check_hearing", defArgs s_check_hearing, defBody s_check_hearing, defScope s_check_hearing, [], []⟩) rfl
  have F_check_hearing : Fun K "check_hearing" "check_hearing" s_check_hearing _ d_check_hearing := LhH.fun_of D_check_hearing
  have b_check_hearing := F_check_hearing.binds (ps := ["house", "start", "log"]) fun _ _ _ _ _ _ us hl => match us, hl with | [_, _, _], _ => rfl
  obtain ⟨d_next_floors, D_next_floors⟩ := c.d.def_ 6 (d := ⟨("next_floors", none), "next_floors", "next_floors", defArgs s_next_floors, defBody s_next_floors, defScope s_next_floors, [], []⟩) rfl
  have F_next_floors : Fun K "next_floors" "next_floors" s_next_floors _ d_next_floors := LhH.fun_of D_next_floors
  have b_next_floors := F_next_floors.binds (ps := ["house", "row", "floor"]) fun _ _ _ _ _ _ us hl => match us, hl with | [_, _, _], _ => rfl
  obtain ⟨d_links_of, D_links_of⟩ := c.d.def_ 7 (d := ⟨("links_of", none), "links_of", "links_of", defArgs s_links_of, defBody s_links_of, defScope s_links_of, [], []⟩) rfl
  have F_links_of : Fun K "links_of" "links_of" s_links_of _ d_links_of := LhH.fun_of D_links_of
  have b_links_of := F_links_of.binds (ps := ["house", "log"]) fun _ _ _ _ _ _ us hl => match us, hl with | [_, _], _ => rfl
  obtain ⟨d_numbers_ahead, D_numbers_ahead⟩ := c.d.def_ 8 (d := ⟨("numbers_ahead", none), "numbers_ahead", "numbers_ahead", defArgs s_numbers_ahead, defBody s_numbers_ahead, defScope s_numbers_ahead, [], []⟩) rfl
  have F_numbers_ahead : Fun K "numbers_ahead" "numbers_ahead" s_numbers_ahead _ d_numbers_ahead := LhH.fun_of D_numbers_ahead
  have b_numbers_ahead := F_numbers_ahead.binds (ps := ["house", "links"]) fun _ _ _ _ _ _ us hl => match us, hl with | [_, _], _ => rfl
  obtain ⟨d_numbers_behind, D_numbers_behind⟩ := c.d.def_ 9 (d := ⟨("numbers_behind", none), "numbers_behind", "numbers_behind", defArgs s_numbers_behind, defBody s_numbers_behind, defScope s_numbers_behind, [], []⟩) rfl
  have F_numbers_behind : Fun K "numbers_behind" "numbers_behind" s_numbers_behind _ d_numbers_behind := LhH.fun_of D_numbers_behind
  have b_numbers_behind := F_numbers_behind.binds (ps := ["house", "start", "links"]) fun _ _ _ _ _ _ us hl => match us, hl with | [_, _, _], _ => rfl
  obtain ⟨d_numbers_through, D_numbers_through⟩ := c.d.def_ 10 (d := ⟨("numbers_through", none), "numbers_through", "numbers_through", defArgs s_numbers_through, defBody s_numbers_through, defScope s_numbers_through, [], []⟩) rfl
  have F_numbers_through : Fun K "numbers_through" "numbers_through" s_numbers_through _ d_numbers_through := LhH.fun_of D_numbers_through
  have b_numbers_through := F_numbers_through.binds (ps := ["house", "start", "links"]) fun _ _ _ _ _ _ us hl => match us, hl with | [_, _, _], _ => rfl
  obtain ⟨d_floor_line, D_floor_line⟩ := c.d.def_ 11 (d := ⟨("floor_line", none), "floor_line", "floor_line", defArgs s_floor_line, defBody s_floor_line, defScope s_floor_line, [], []⟩) rfl
  have F_floor_line : Fun K "floor_line" "floor_line" s_floor_line _ d_floor_line := LhH.fun_of D_floor_line
  have b_floor_line := F_floor_line.binds (ps := ["house", "floors", "floor"]) fun _ _ _ _ _ _ us hl => match us, hl with | [_, _, _], _ => rfl
  obtain ⟨d_shaft, D_shaft⟩ := c.d.def_ 12 (d := ⟨("shaft", none), "shaft", "shaft", defArgs s_shaft, defBody s_shaft, defScope s_shaft, [], []⟩) rfl
  have F_shaft : Fun K "shaft" "shaft" s_shaft _ d_shaft := LhH.fun_of D_shaft
  have b_shaft := F_shaft.binds (ps := ["house", "floors"]) fun _ _ _ _ _ _ us hl => match us, hl with | [_, _], _ => rfl
  obtain ⟨d_table_line, D_table_line⟩ := c.d.def_ 13 (d := ⟨("table_line", none), "table_line", "table_line", defArgs s_table_line, defBody s_table_line, defScope s_table_line, [], []⟩) rfl
  have F_table_line : Fun K "table_line" "table_line" s_table_line _ d_table_line := LhH.fun_of D_table_line
  have b_table_line := F_table_line.binds (ps := ["numbers", "floor"]) fun _ _ _ _ _ _ us hl => match us, hl with | [_, _], _ => rfl
  obtain ⟨d_ways_table, D_ways_table⟩ := c.d.def_ 14 (d := ⟨("ways_table", none), "ways_table", "ways_table", defArgs s_ways_table, defBody s_ways_table, defScope s_ways_table, [], []⟩) rfl
  have F_ways_table : Fun K "ways_table" "ways_table" s_ways_table _ d_ways_table := LhH.fun_of D_ways_table
  have b_ways_table := F_ways_table.binds (ps := ["house", "start", "log"]) fun _ _ _ _ _ _ us hl => match us, hl with | [_, _, _], _ => rfl
  obtain ⟨d__law_mix, D__law_mix⟩ := c.d.def_ 15 (d := ⟨("_law_mix", none), "_law_mix", "_law_mix", defArgs s__law_mix, defBody s__law_mix, defScope s__law_mix, [], []⟩) rfl
  have F__law_mix : Fun K "_law_mix" "_law_mix" s__law_mix _ d__law_mix := LhH.fun_of D__law_mix
  have b__law_mix := F__law_mix.binds (ps := ["_law_script", "_law_seed"]) fun _ _ _ _ _ _ us hl => match us, hl with | [_, _], _ => rfl
  obtain ⟨d__law_next, D__law_next⟩ := c.d.def_ 16 (d := ⟨("_law_next", none), "_law_next", "_law_next", defArgs s__law_next, defBody s__law_next, defScope s__law_next, [], []⟩) rfl
  have F__law_next : Fun K "_law_next" "_law_next" s__law_next _ d__law_next := LhH.fun_of D__law_next
  have b__law_next := F__law_next.binds (ps := ["_law_h", "_law_limit"]) fun _ _ _ _ _ _ us hl => match us, hl with | [_, _], _ => rfl
  obtain ⟨d__law_alike, D__law_alike⟩ := c.d.def_ 17 (d := ⟨("_law_alike", none), "_law_alike", "_law_alike", defArgs s__law_alike, defBody s__law_alike, defScope s__law_alike, [], []⟩) rfl
  have F__law_alike : Fun K "_law_alike" "_law_alike" s__law_alike _ d__law_alike := LhH.fun_of D__law_alike
  have b__law_alike := F__law_alike.binds (ps := ["_law_found", "_law_due"]) fun _ _ _ _ _ _ us hl => match us, hl with | [_, _], _ => rfl
  obtain ⟨d__law_house, D__law_house⟩ := c.d.def_ 18 (d := ⟨("_law_house", none), "_law_house", "_law_house", defArgs s__law_house, defBody s__law_house, defScope s__law_house, [], []⟩) rfl
  have F__law_house : Fun K "_law_house" "_law_house" s__law_house _ d__law_house := LhH.fun_of D__law_house
  have b__law_house := F__law_house.binds (ps := ["_law_h", "_law_most"]) fun _ _ _ _ _ _ us hl => match us, hl with | [_, _], _ => rfl
  obtain ⟨d__law_far, D__law_far⟩ := c.d.def_ 19 (d := ⟨("_law_far", none), "_law_far", "_law_far", defArgs s__law_far, defBody s__law_far, defScope s__law_far, [], []⟩) rfl
  have F__law_far : Fun K "_law_far" "_law_far" s__law_far _ d__law_far := LhH.fun_of D__law_far
  have b__law_far := F__law_far.binds (ps := ["_law_gaps", "_law_one", "_law_other"]) fun _ _ _ _ _ _ us hl => match us, hl with | [_, _, _], _ => rfl
  obtain ⟨d__law_next_floors, D__law_next_floors⟩ := c.d.def_ 20 (d := ⟨("_law_next_floors", none), "_law_next_floors", "_law_next_floors", defArgs s__law_next_floors, defBody s__law_next_floors, defScope s__law_next_floors, [], []⟩) rfl
  have F__law_next_floors : Fun K "_law_next_floors" "_law_next_floors" s__law_next_floors _ d__law_next_floors := LhH.fun_of D__law_next_floors
  have b__law_next_floors := F__law_next_floors.binds (ps := ["_law_drawn", "_law_floor", "_law_row_here"]) fun _ _ _ _ _ _ us hl => match us, hl with | [_, _, _], _ => rfl
  obtain ⟨d__law_ways, D__law_ways⟩ := c.d.def_ 21 (d := ⟨("_law_ways", none), "_law_ways", "_law_ways", defArgs s__law_ways, defBody s__law_ways, defScope s__law_ways, [], []⟩) rfl
  have F__law_ways : Fun K "_law_ways" "_law_ways" s__law_ways _ d__law_ways := LhH.fun_of D__law_ways
  have b__law_ways := F__law_ways.binds (ps := ["_law_drawn", "_law_start_here", "_law_log_here"]) fun _ _ _ _ _ _ us hl => match us, hl with | [_, _, _], _ => rfl
  obtain ⟨d__law_row, D__law_row⟩ := c.d.def_ 22 (d := ⟨("_law_row", none), "_law_row", "_law_row", defArgs s__law_row, defBody s__law_row, defScope s__law_row, [], []⟩) rfl
  have F__law_row : Fun K "_law_row" "_law_row" s__law_row _ d__law_row := LhH.fun_of D__law_row
  have b__law_row := F__law_row.binds (ps := ["_law_h", "_law_drawn", "_law_floor"]) fun _ _ _ _ _ _ us hl => match us, hl with | [_, _, _], _ => rfl
  obtain ⟨d__law_log, D__law_log⟩ := c.d.def_ 23 (d := ⟨("_law_log", none), "_law_log", "_law_log", defArgs s__law_log, defBody s__law_log, defScope s__law_log, [], []⟩) rfl
  have F__law_log : Fun K "_law_log" "_law_log" s__law_log _ d__law_log := LhH.fun_of D__law_log
  have b__law_log := F__law_log.binds (ps := ["_law_h", "_law_drawn", "_law_start_here", "_law_many"]) fun _ _ _ _ _ _ us hl => match us, hl with | [_, _, _, _], _ => rfl
  obtain ⟨d__law_start, D__law_start⟩ := c.d.def_ 24 (d := ⟨("_law_start", none), "_law_start", "_law_start", defArgs s__law_start, defBody s__law_start, defScope s__law_start, [], []⟩) rfl
  have F__law_start : Fun K "_law_start" "_law_start" s__law_start _ d__law_start := LhH.fun_of D__law_start
  have b__law_start := F__law_start.binds (ps := ["_law_h", "_law_drawn"]) fun _ _ _ _ _ _ us hl => match us, hl with | [_, _], _ => rfl
  obtain ⟨d__law_floors, D__law_floors⟩ := c.d.def_ 25 (d := ⟨("_law_floors", none), "_law_floors", "_law_floors", defArgs s__law_floors, defBody s__law_floors, defScope s__law_floors, [], []⟩) rfl
  have F__law_floors : Fun K "_law_floors" "_law_floors" s__law_floors _ d__law_floors := LhH.fun_of D__law_floors
  have b__law_floors := F__law_floors.binds (ps := ["_law_courses", "_law_moment"]) fun _ _ _ _ _ _ us hl => match us, hl with | [_, _], _ => rfl
  obtain ⟨d_law, D_law⟩ := c.d.def_ 26 (d := ⟨("law", none), "law", "law", defArgs s_law, defBody s_law, defScope s_law, [], []⟩) rfl
  have F_law : Fun K "law" "law" s_law _ d_law := LhH.fun_of D_law
  have b_law := F_law.binds (ps := ["_law_script"]) fun _ _ _ _ _ _ us hl => match us, hl with | [_], _ => rfl
  obtain ⟨d_House_init, D_House_init⟩ := c.d.def_ 27 (d := ⟨("House", some "__init__"), "__init__", "House.__init__", defArgs s_House_init, defBody s_House_init, defScope s_House_init, [], []⟩) rfl
  have F_House_init : Fun K "__init__" "House.__init__" s_House_init _ d_House_init := LhH.fun_of D_House_init
  have b_House_init := F_House_init.binds (ps := ["self", "gaps", "bells"]) fun _ _ _ _ _ _ us hl => match us, hl with | [_, _, _], _ => rfl
  obtain ⟨p_House_gaps, d_House_gaps, D_House_gaps⟩ := c.get 0 (d := ⟨"House", "gaps", "House.gaps", defArgs s_House_gaps, defBody s_House_gaps, defScope s_House_gaps⟩) rfl
  have F_House_gaps : Fun K "gaps" "House.gaps" s_House_gaps _ d_House_gaps := LhH.fun_of D_House_gaps
  have b_House_gaps := F_House_gaps.binds (ps := ["self"]) fun _ _ _ _ _ _ us hl => match us, hl with | [_], _ => rfl
  obtain ⟨p_House_bells, d_House_bells, D_House_bells⟩ := c.get 1 (d := ⟨"House", "bells", "House.bells", defArgs s_House_bells, defBody s_House_bells, defScope s_House_bells⟩) rfl
  have F_House_bells : Fun K "bells" "House.bells" s_House_bells _ d_House_bells := LhH.fun_of D_House_bells
  have b_House_bells := F_House_bells.binds (ps := ["self"]) fun _ _ _ _ _ _ us hl => match us, hl with | [_], _ => rfl
  obtain ⟨p_House_floors, d_House_floors, D_House_floors⟩ := c.get 2 (d := ⟨"House", "floors", "House.floors", defArgs s_House_floors, defBody s_House_floors, defScope s_House_floors⟩) rfl
  have F_House_floors : Fun K "floors" "House.floors" s_House_floors _ d_House_floors := LhH.fun_of D_House_floors
  have b_House_floors := F_House_floors.binds (ps := ["self"]) fun _ _ _ _ _ _ us hl => match us, hl with | [_], _ => rfl
  obtain ⟨d_House_len, D_House_len⟩ := c.d.def_ 28 (d := ⟨("House", some "__len__"), "__len__", "House.__len__", defArgs s_House_len, defBody s_House_len, defScope s_House_len, [], []⟩) rfl
  have F_House_len : Fun K "__len__" "House.__len__" s_House_len _ d_House_len := LhH.fun_of D_House_len
  have b_House_len := F_House_len.binds (ps := ["self"]) fun _ _ _ _ _ _ us hl => match us, hl with | [_], _ => rfl
  obtain ⟨d_House_eq, D_House_eq⟩ := c.d.def_ 29 (d := ⟨("House", some "__eq__"), "__eq__", "House.__eq__", defArgs s_House_eq, defBody s_House_eq, defScope s_House_eq, [], []⟩) rfl
  have F_House_eq : Fun K "__eq__" "House.__eq__" s_House_eq _ d_House_eq := LhH.fun_of D_House_eq
  have b_House_eq := F_House_eq.binds (ps := ["self", "other"]) fun _ _ _ _ _ _ us hl => match us, hl with | [_, _], _ => rfl
  obtain ⟨d_House_seconds, D_House_seconds⟩ := c.d.def_ 30 (d := ⟨("House", some "seconds"), "seconds", "House.seconds", defArgs s_House_seconds, defBody s_House_seconds, defScope s_House_seconds, [], []⟩) rfl
  have F_House_seconds : Fun K "seconds" "House.seconds" s_House_seconds _ d_House_seconds := LhH.fun_of D_House_seconds
  have b_House_seconds := F_House_seconds.binds (ps := ["self", "one", "other"]) fun _ _ _ _ _ _ us hl => match us, hl with | [_, _, _], _ => rfl
  have e := hfa.symm.trans (He.glo_ok X G f_g_law)
  cases e
  have bA := FunD.bindsA (ps := ["_law_script"]) D_law fun _ _ _ _ _ _ us hl => match us, hl with | [_], _ => rfl
  refine ⟨{
    C_House := He.ga K "House",
    f_check_gaps := _,
    d_check_gaps := d_check_gaps,
    F_check_gaps := F_check_gaps,
    b_check_gaps := b_check_gaps,
    g_check_gaps := He.glo_ok X G f_g_check_gaps,
    f_check_bells := _,
    d_check_bells := d_check_bells,
    F_check_bells := F_check_bells,
    b_check_bells := b_check_bells,
    g_check_bells := He.glo_ok X G f_g_check_bells,
    f_check_floors := _,
    d_check_floors := d_check_floors,
    F_check_floors := F_check_floors,
    b_check_floors := b_check_floors,
    g_check_floors := He.glo_ok X G f_g_check_floors,
    f_is_row_of := _,
    d_is_row_of := d_is_row_of,
    F_is_row_of := F_is_row_of,
    b_is_row_of := b_is_row_of,
    g_is_row_of := He.glo_ok X G f_g_is_row_of,
    f_check_log := _,
    d_check_log := d_check_log,
    F_check_log := F_check_log,
    b_check_log := b_check_log,
    g_check_log := He.glo_ok X G f_g_check_log,
    f_check_hearing := _,
    d_check_hearing := d_check_hearing,
    F_check_hearing := F_check_hearing,
    b_check_hearing := b_check_hearing,
    g_check_hearing := He.glo_ok X G f_g_check_hearing,
    f_next_floors := _,
    d_next_floors := d_next_floors,
    F_next_floors := F_next_floors,
    b_next_floors := b_next_floors,
    g_next_floors := He.glo_ok X G f_g_next_floors,
    f_links_of := _,
    d_links_of := d_links_of,
    F_links_of := F_links_of,
    b_links_of := b_links_of,
    g_links_of := He.glo_ok X G f_g_links_of,
    f_numbers_ahead := _,
    d_numbers_ahead := d_numbers_ahead,
    F_numbers_ahead := F_numbers_ahead,
    b_numbers_ahead := b_numbers_ahead,
    g_numbers_ahead := He.glo_ok X G f_g_numbers_ahead,
    f_numbers_behind := _,
    d_numbers_behind := d_numbers_behind,
    F_numbers_behind := F_numbers_behind,
    b_numbers_behind := b_numbers_behind,
    g_numbers_behind := He.glo_ok X G f_g_numbers_behind,
    f_numbers_through := _,
    d_numbers_through := d_numbers_through,
    F_numbers_through := F_numbers_through,
    b_numbers_through := b_numbers_through,
    g_numbers_through := He.glo_ok X G f_g_numbers_through,
    f_floor_line := _,
    d_floor_line := d_floor_line,
    F_floor_line := F_floor_line,
    b_floor_line := b_floor_line,
    g_floor_line := He.glo_ok X G f_g_floor_line,
    f_shaft := _,
    d_shaft := d_shaft,
    F_shaft := F_shaft,
    b_shaft := b_shaft,
    g_shaft := He.glo_ok X G f_g_shaft,
    f_table_line := _,
    d_table_line := d_table_line,
    F_table_line := F_table_line,
    b_table_line := b_table_line,
    g_table_line := He.glo_ok X G f_g_table_line,
    f_ways_table := _,
    d_ways_table := d_ways_table,
    F_ways_table := F_ways_table,
    b_ways_table := b_ways_table,
    g_ways_table := He.glo_ok X G f_g_ways_table,
    f__law_mix := _,
    d__law_mix := d__law_mix,
    F__law_mix := F__law_mix,
    b__law_mix := b__law_mix,
    g__law_mix := He.glo_ok X G f_g__law_mix,
    f__law_next := _,
    d__law_next := d__law_next,
    F__law_next := F__law_next,
    b__law_next := b__law_next,
    g__law_next := He.glo_ok X G f_g__law_next,
    f__law_alike := _,
    d__law_alike := d__law_alike,
    F__law_alike := F__law_alike,
    b__law_alike := b__law_alike,
    g__law_alike := He.glo_ok X G f_g__law_alike,
    f__law_house := _,
    d__law_house := d__law_house,
    F__law_house := F__law_house,
    b__law_house := b__law_house,
    g__law_house := He.glo_ok X G f_g__law_house,
    f__law_far := _,
    d__law_far := d__law_far,
    F__law_far := F__law_far,
    b__law_far := b__law_far,
    g__law_far := He.glo_ok X G f_g__law_far,
    f__law_next_floors := _,
    d__law_next_floors := d__law_next_floors,
    F__law_next_floors := F__law_next_floors,
    b__law_next_floors := b__law_next_floors,
    g__law_next_floors := He.glo_ok X G f_g__law_next_floors,
    f__law_ways := _,
    d__law_ways := d__law_ways,
    F__law_ways := F__law_ways,
    b__law_ways := b__law_ways,
    g__law_ways := He.glo_ok X G f_g__law_ways,
    f__law_row := _,
    d__law_row := d__law_row,
    F__law_row := F__law_row,
    b__law_row := b__law_row,
    g__law_row := He.glo_ok X G f_g__law_row,
    f__law_log := _,
    d__law_log := d__law_log,
    F__law_log := F__law_log,
    b__law_log := b__law_log,
    g__law_log := He.glo_ok X G f_g__law_log,
    f__law_start := _,
    d__law_start := d__law_start,
    F__law_start := F__law_start,
    b__law_start := b__law_start,
    g__law_start := He.glo_ok X G f_g__law_start,
    f__law_floors := _,
    d__law_floors := d__law_floors,
    F__law_floors := F__law_floors,
    b__law_floors := b__law_floors,
    g__law_floors := He.glo_ok X G f_g__law_floors,
    f_law := _,
    d_law := d_law,
    F_law := F_law,
    b_law := b_law,
    g_law := He.glo_ok X G f_g_law,
    f_House_init := _,
    d_House_init := d_House_init,
    F_House_init := F_House_init,
    b_House_init := b_House_init,
    f_House_gaps := _,
    d_House_gaps := d_House_gaps,
    F_House_gaps := F_House_gaps,
    b_House_gaps := b_House_gaps,
    p_House_gaps := _,
    m_House_gaps := p_House_gaps,
    f_House_bells := _,
    d_House_bells := d_House_bells,
    F_House_bells := F_House_bells,
    b_House_bells := b_House_bells,
    p_House_bells := _,
    m_House_bells := p_House_bells,
    f_House_floors := _,
    d_House_floors := d_House_floors,
    F_House_floors := F_House_floors,
    b_House_floors := b_House_floors,
    p_House_floors := _,
    m_House_floors := p_House_floors,
    f_House_len := _,
    d_House_len := d_House_len,
    F_House_len := F_House_len,
    b_House_len := b_House_len,
    f_House_eq := _,
    d_House_eq := d_House_eq,
    F_House_eq := F_House_eq,
    b_House_eq := b_House_eq,
    f_House_seconds := _,
    d_House_seconds := d_House_seconds,
    F_House_seconds := F_House_seconds,
    b_House_seconds := b_House_seconds,
    m_House_len := He.meth_ok f_m_House_len,
    m_House_eq := He.meth_ok f_m_House_eq,
    m_House_seconds := He.meth_ok f_m_House_seconds,
    g_House := He.glo_ok X G f_g_House,
    c_House := He.cls_ok f_c_House,
    k_House := He.mkr_ok f_k_House,
    a_House_gaps := He.noat_ok f_a_House_gaps,
    a_House_bells := He.noat_ok f_a_House_bells,
    a_House_floors := He.noat_ok f_a_House_floors,
    z_len := He.free_ok X G f_z_len,
    z_range := He.free_ok X G f_z_range,
    z_enumerate := He.free_ok X G f_z_enumerate,
    z_zip := He.free_ok X G f_z_zip,
    z_min := He.free_ok X G f_z_min,
    z_max := He.free_ok X G f_z_max,
    z_sum := He.free_ok X G f_z_sum,
    z_sorted := He.free_ok X G f_z_sorted,
    z_reversed := He.free_ok X G f_z_reversed,
    z_int := He.free_ok X G f_z_int,
    z_str := He.free_ok X G f_z_str,
    z_bool := He.free_ok X G f_z_bool,
    z_list := He.free_ok X G f_z_list,
    z_tuple := He.free_ok X G f_z_tuple,
    z_dict := He.free_ok X G f_z_dict,
    z_set := He.free_ok X G f_z_set,
    z_isinstance := He.free_ok X G f_z_isinstance,
    z_all := He.free_ok X G f_z_all,
    z_ValueError := He.free_ok X G f_z_ValueError,
    z_super := He.free_ok X G f_z_super,
    v_MOST_GAPS := He.int_ok X G f_v_MOST_GAPS,
    v_LONGEST_GAP := He.int_ok X G f_v_LONGEST_GAP,
    v_LONGEST_GO := He.int_ok X G f_v_LONGEST_GO
  }, rfl, ownB_ok q_o_House, fun base => {
      er := ersB_ok X G q_er,
      e_UnknownFloor := err0B_ok X G q_e_UnknownFloor,
      x_UnknownFloor := of_decide_eq_true q_x_UnknownFloor,
      n_InvalidHouse_part := He.eqO_ok q_n_InvalidHouse_part,
      n_InvalidHouse_index := He.eqO_ok q_n_InvalidHouse_index,
      n_InvalidLog_index := He.eqO_ok q_n_InvalidLog_index,
      e_InvalidHouse := ⟨_, fd_InvalidHouse, errI_of C_InvalidHouse O_InvalidHouse I_InvalidHouse Y_InvalidHouse (ini_InvalidHouse S_InvalidHouse (He.eqO_ok q_n_InvalidHouse_part) (He.eqO_ok q_n_InvalidHouse_index)) b_InvalidHouse⟩,
      e_InvalidLog := ⟨_, fd_InvalidLog, errI_of C_InvalidLog O_InvalidLog I_InvalidLog Y_InvalidLog (ini_InvalidLog S_InvalidLog (He.eqO_ok q_n_InvalidLog_index)) b_InvalidLog⟩
    }, fun s u => bA s [u] rfl⟩
theorem walk {q : Program} {l : PySem.W.OpenLaw} {loose : List Str} {XP : (Str → Option Value) → Heap → Prop} {YP : World → Heap → Prop} {d : DefRec} {K0 : Params → PySem.W.Frag} (hn : l.most = some 63) (hdf : d.params.defaults = []) (hd : d.name = "law") (htop : (l.prog.main.scope.names.lookup ("super" : Str)).isSome = false)
    {ts : List Addr} (hY : ∀ (w : World) (h : Heap), YP w h → (K0 w.params).In h ∧ ∀ P ∈ ts, h.get? P = some { cls := .none, data := .fields #[] }) (ha : ∀ w : World, askedX fas fns gts tabs sups l.prog.main.file exs ts (K0 w.params) = (He.valD fns, gts.map LhH.GetD.val, sups.map SupQ.val, true)) :
    PySem.W.WalkO q loose XP YP l.row.toRowW d [] (fun f vs => PySem.call f vs) := by
  refine LamX.walk_ofTsE (n := 63) (k := 9) (x := "_law_script") (CX := fun _ => CX0) hn (by decide) hdf ⟨rfl, by decide, by decide⟩ (fun w mg fa h Y G hmg => ?_) fun _ _ _ _ _ z => z
  have c := toldX (hY w h Y).1 (hY w h Y).2 (ha w)
  rw [hd] at hmg
  obtain ⟨T, e1, O, R, e4⟩ := all_mk (P := l.prog) (w := w) c G htop hmg
  subst e1
  have nd := c.nd
  refine ⟨_, c.in_, T.d_law, tabs.map (He.cT (K0 w.params)), spLawN (K0 w.params) [], fun p hp => ?_, fun p hp => ?_, fun p hp => ?_, e4, fun H a ns hl hb ht hS => ?_, fun base hin hns htb => ?_⟩
  · obtain ⟨z, hz, rfl⟩ := List.mem_map.mp hp
    exact c.empty z hz
  · obtain ⟨z, hz, rfl⟩ := List.mem_map.mp hp
    exact c.out z hz
  · obtain ⟨z, hz, rfl⟩ := List.mem_map.mp hp
    exact PySem.W.codeHd_of_K c.in_ (c.hd z hz)
  · refine ⟨a, ns, rfl, hS, fun p hp => ?_, hl, hb, fun _ => rfl⟩
    simp only [List.mem_cons, List.not_mem_nil, or_false] at hp
    
  · exact ok_law T (R base)
end K42
open PySem PySem.W PyProof.Rows in
set_option maxRecDepth 100000 in
set_option maxHeartbeats 0 in
theorem PySem.Challenge.cw_liftheard_k42_whole_pictures_holds : PySem.Challenge.rw_liftheard_k42_whole_pictures.Holds := by
  w_on; o_law; k_head; (case hw => w_witness2)
  k_fill
  refine K42.walk (l := PySem.Challenge.rw_liftheard_k42_whole_pictures) (ts := []) rfl rfl rfl ?htop (fun w h Y => ⟨Y, fun _ z => nomatch z⟩) (fun w => ?ha)
  case htop => kernel_rfl
  case ha => kernel_rfl
#print axioms PySem.Challenge.cw_liftheard_k42_whole_pictures_holds
