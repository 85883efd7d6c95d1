import PyProof.Rows.All
import Wide.All
import OpenK.AllK
import Wide.FinOn
import HandS.ForMost
import HandS.Evl
import HandS.Wide
import HandS.EndBits
import HandS.Property
import HandS.Conv
import HandS.TupAny
import HandS.Zip
import HandS.IsInst
import HandS.Style
import KE.GoesMore
import PySem.Challenge.RW_liftheard_k33_whole_slack
import HandS.TupLe
import HandS.SetBool
import HandS.Strs
import HandS.Deep
import HandS.Star
import HandS.SetFor
import HandS.SortInts
set_option Elab.async false
set_option linter.all false
set_option maxRecDepth 100000
set_option maxHeartbeats 4000000
/-! Judgements over the layer: what an expression is worth, by predicates that only grow with the heap. -/
namespace Lh
open PySem L2
open Evl (Ex ex_l ex_t ex_rd fresh_back)

/-! ### data -/
mutual
def Dd (K : PySem.W.Frag) (H : Hp) : PyData → V → Prop
  | .none, v => v = .non
  | .bool b, v => v = .bl b
  | .int i, v => v = .int i
  | .str s, v => v = .str s
  | .list ds, v => ∃ a xs, v = .ref a ∧ H a = some (.lst xs) ∧ DdAll K H ds xs
  | .tuple ds, v => ∃ a xs, v = .ref a ∧ SqT K H a xs ∧ DdAll K H ds xs
  | .dict _, _ => False
def DdAll (K : PySem.W.Frag) (H : Hp) : List PyData → List V → Prop
  | [], xs => xs = []
  | d :: ds, xs => ∃ x r, xs = x :: r ∧ Dd K H d x ∧ DdAll K H ds r
end
mutual
theorem Dd.ex {K : PySem.W.Frag} {H H' : Hp} (e : Ex H H') : ∀ (d : PyData) (v : V), Dd K H d v → Dd K H' d v
  | .none, _, h => h
  | .bool _, _, h => h
  | .int _, _, h => h
  | .str _, _, h => h
  | .list ds, v, ⟨a, xs, h1, h2, h3⟩ => ⟨a, xs, h1, e _ _ h2, DdAll.ex e ds xs h3⟩
  | .tuple ds, v, ⟨a, xs, h1, h2, h3⟩ => ⟨a, xs, h1, ex_t e h2, DdAll.ex e ds xs h3⟩
  | .dict _, _, h => h
theorem DdAll.ex {K : PySem.W.Frag} {H H' : Hp} (e : Ex H H') : ∀ (ds : List PyData) (xs : List V), DdAll K H ds xs → DdAll K H' ds xs
  | [], _, h => h
  | d :: ds, xs, ⟨x, r, h1, h2, h3⟩ => ⟨x, r, h1, Dd.ex e d x h2, DdAll.ex e ds r h3⟩
end
mutual
theorem Dd.dp {K : PySem.W.Frag} {H : Hp} : ∀ (d : PyData) (v : V), Dd K H d v → Dp K H v d
  | .none, _, h => by subst h; exact .non
  | .bool _, _, h => by subst h; exact .bl _
  | .int _, _, h => by subst h; exact .int _
  | .str _, _, h => by subst h; exact .str _
  | .list ds, v, ⟨a, xs, h1, h2, h3⟩ => by subst h1; exact .lst (SqL.of h2) (DdAll.dp ds xs h3)
  | .tuple ds, v, ⟨a, xs, h1, h2, h3⟩ => by subst h1; exact .tup h2 (DdAll.dp ds xs h3)
  | .dict _, _, h => h.elim
theorem DdAll.dp {K : PySem.W.Frag} {H : Hp} : ∀ (ds : List PyData) (xs : List V), DdAll K H ds xs → DpAll K H xs ds
  | [], _, h => by subst h; exact .nil
  | d :: ds, xs, ⟨x, r, h1, h2, h3⟩ => by subst h1; exact .cons (Dd.dp d x h2) (DdAll.dp ds r h3)
end
section
variable {K : PySem.W.Frag} {H : Hp}
theorem DdAll.len : ∀ {ds : List PyData} {xs : List V}, DdAll K H ds xs → xs.length = ds.length
  | [], _, h => by subst h; rfl
  | d :: ds, xs, ⟨x, r, h1, h2, h3⟩ => by subst h1; simp [DdAll.len h3]
theorem DdAll.get : ∀ {ds : List PyData} {xs : List V} {i : Nat} {d : PyData}, DdAll K H ds xs → ds[i]? = some d → ∃ v, xs[i]? = some v ∧ Dd K H d v
  | [], _, i, d, _, e => by simp at e
  | d :: ds, xs, 0, d', ⟨x, r, h1, h2, h3⟩, e => by
    subst h1
    have e' : d = d' := by simpa using e
    subst e'
    exact ⟨x, rfl, h2⟩
  | d :: ds, xs, i + 1, d', ⟨x, r, h1, h2, h3⟩, e => by
    subst h1
    obtain ⟨v, q1, q2⟩ := DdAll.get (i := i) h3 (by simpa using e)
    exact ⟨v, by simpa using q1, q2⟩
theorem DdAll.got : ∀ {ds : List PyData} {xs : List V} {i : Nat} {v : V}, DdAll K H ds xs → xs[i]? = some v → ∃ d, ds[i]? = some d ∧ Dd K H d v
  | [], xs, i, v, h, e => by
    have h' : xs = [] := h
    subst h'
    simp at e
  | d :: ds, xs, 0, v, ⟨x, r, h1, h2, h3⟩, e => by
    subst h1
    have e' : x = v := by simpa using e
    subst e'
    exact ⟨d, rfl, h2⟩
  | d :: ds, xs, i + 1, v, ⟨x, r, h1, h2, h3⟩, e => by
    subst h1
    obtain ⟨d', q1, q2⟩ := DdAll.got (i := i) h3 (by simpa using e)
    exact ⟨d', by simpa using q1, q2⟩
theorem DdAll.app : ∀ {ds es : List PyData} {xs ys : List V}, DdAll K H ds xs → DdAll K H es ys → DdAll K H (ds ++ es) (xs ++ ys)
  | [], _, xs, _, h, h' => by
    have e : xs = [] := h
    subst e
    exact h'
  | d :: ds, es, xs, ys, ⟨x, r, h1, h2, h3⟩, h' => by
    subst h1
    exact ⟨x, r ++ ys, rfl, h2, DdAll.app h3 h'⟩
theorem DdAll.one {d : PyData} {v : V} (h : Dd K H d v) : DdAll K H [d] [v] := ⟨v, [], rfl, h, rfl⟩
theorem DdAll.take : ∀ {ds : List PyData} {xs : List V} (n : Nat), DdAll K H ds xs → DdAll K H (ds.take n) (xs.take n)
  | _, _, 0, _ => rfl
  | [], xs, n + 1, h => by
    have e : xs = [] := h
    subst e
    rfl
  | d :: ds, xs, n + 1, ⟨x, r, h1, h2, h3⟩ => by
    subst h1
    exact ⟨x, r.take n, rfl, h2, DdAll.take n h3⟩
theorem DdAll.drop : ∀ {ds : List PyData} {xs : List V} (n : Nat), DdAll K H ds xs → DdAll K H (ds.drop n) (xs.drop n)
  | _, _, 0, h => h
  | [], xs, n + 1, h => by
    have e : xs = [] := h
    subst e
    rfl
  | d :: ds, xs, n + 1, ⟨x, r, h1, h2, h3⟩ => by
    subst h1
    exact DdAll.drop n h3
theorem DdAll.rev : ∀ {ds : List PyData} {xs : List V}, DdAll K H ds xs → DdAll K H ds.reverse xs.reverse
  | [], xs, h => by
    have e : xs = [] := h
    subst e
    rfl
  | d :: ds, xs, ⟨x, r, h1, h2, h3⟩ => by
    subst h1
    simp only [List.reverse_cons]
    exact DdAll.app (DdAll.rev h3) (DdAll.one h2)
/-- a list of ints -/
abbrev li (ns : List Int) : List PyData := ns.map PyData.int
theorem DdAll.ints : ∀ {ns : List Int} {xs : List V}, DdAll K H (li ns) xs → xs = ns.map V.int
  | [], xs, h => h
  | n :: ns, xs, ⟨x, r, h1, h2, h3⟩ => by
    have e : x = V.int n := h2
    subst h1
    rw [e, DdAll.ints h3]
    rfl
theorem DdAll.of_ints : ∀ (ns : List Int), DdAll K H (li ns) (ns.map V.int)
  | [] => rfl
  | n :: ns => ⟨.int n, ns.map V.int, rfl, rfl, DdAll.of_ints ns⟩
end

/-! ### predicates on values -/
structure Pd where
  p : V → Hp → Prop
  m : ∀ {v : V} {H H' : Hp}, Ex H H' → p v H → p v H'
def PD (K : PySem.W.Frag) (d : PyData) : Pd := ⟨fun v H => Dd K H d v, fun {v _ _} e h => Dd.ex e d v h⟩
def PV (v : V) : Pd := ⟨fun x _ => x = v, fun _ h => h⟩
def PEx {α : Type} (A : α → Prop) (P : α → Pd) : Pd := ⟨fun v H => ∃ a, A a ∧ (P a).p v H, fun e ⟨a, h1, h2⟩ => ⟨a, h1, (P a).m e h2⟩⟩
def PAny : Pd := ⟨fun _ _ => True, fun _ _ => True.intro⟩
/-- an int from lo on, below hi -/
def PIn (K : PySem.W.Frag) (lo hi : Int) : Pd := PEx (fun n : Int => lo ≤ n ∧ n < hi) fun n => PD K (.int n)

abbrev Ct := List (Option Pd)
def Sl (Γ : Ct) (σ : L2.St) (H : Hp) : Prop := σ.length = Γ.length ∧ ∀ (i : Nat) (P : Pd), Γ[i]? = some (some P) → ∃ v, σ[i]? = some (some v) ∧ P.p v H
theorem Sl.ex {Γ : Ct} {σ : L2.St} {H H' : Hp} (e : Ex H H') (h : Sl Γ σ H) : Sl Γ σ H' := ⟨h.1, fun i P q => by
  obtain ⟨v, h1, h2⟩ := h.2 i P q
  exact ⟨v, h1, P.m e h2⟩⟩
theorem Sl.set {Γ : Ct} {σ : L2.St} {H : Hp} {P : Pd} {v : V} {i : Nat} (h : Sl Γ σ H) (hv : P.p v H) : Sl (Γ.set i (some P)) (σ.set i (some v)) H := by
  refine ⟨by simp [h.1], fun j Q q => ?_⟩
  by_cases hj : i = j
  · subst hj
    have hl : i < Γ.length := by
      have := (List.getElem?_eq_some_iff.mp q).1
      simpa using this
    rw [List.getElem?_set_self hl] at q
    cases q
    exact ⟨v, List.getElem?_set_self (by rw [h.1]; exact hl), hv⟩
  · rw [List.getElem?_set_ne hj] at q
    obtain ⟨u, h1, h2⟩ := h.2 j Q q
    exact ⟨u, by rw [List.getElem?_set_ne hj]; exact h1, h2⟩
/-- what is known of the slots may be forgotten -/
def Le (Γ Γ' : Ct) : Prop := Γ'.length = Γ.length ∧ ∀ (i : Nat) (P : Pd), Γ'[i]? = some (some P) → Γ[i]? = some (some P)
theorem Sl.le {Γ Γ' : Ct} {σ : L2.St} {H : Hp} (h : Sl Γ σ H) (l : Le Γ Γ') : Sl Γ' σ H := ⟨h.1.trans l.1.symm, fun i P q => h.2 i P (l.2 i P q)⟩

/-! ### what may change: lists at hand -/
structure Res where
  ad : List Addr
  p : Hp → Hp → Prop
  st : ∀ {H0 H H0' H' : Hp}, Ex H0 H0' → (∀ a ∈ ad, H0' a = none) → (∀ a ∈ ad, H' a = H a) → p H0 H → p H0' H'
  tr : ∀ {H0 H : Hp}, p H0 H → ∀ a ∈ ad, (∃ o, H a = some o) ∧ H0 a = none
/-- a list of things P, made at p behind Z -/
def DAll (Ps : List Pd) (xs : List V) (H : Hp) : Prop := xs.length = Ps.length ∧ ∀ (i : Nat) (P : Pd), Ps[i]? = some P → ∃ v, xs[i]? = some v ∧ P.p v H
theorem DAll.ex {Ps : List Pd} {xs : List V} {H H' : Hp} (e : Ex H H') (h : DAll Ps xs H) : DAll Ps xs H' := ⟨h.1, fun i P q => by
  obtain ⟨v, h1, h2⟩ := h.2 i P q
  exact ⟨v, h1, P.m e h2⟩⟩
theorem DAll.nil {H : Hp} : DAll [] [] H := ⟨rfl, fun i P q => by simp at q⟩
theorem DAll.cons {P : Pd} {Ps : List Pd} {x : V} {xs : List V} {H : Hp} (h : P.p x H) (r : DAll Ps xs H) : DAll (P :: Ps) (x :: xs) H := by
  refine ⟨by simp [r.1], fun i Q q => ?_⟩
  cases i with
  | zero =>
    have e : P = Q := by simpa using q
    subst e
    exact ⟨x, rfl, h⟩
  | succ j =>
    obtain ⟨v, h1, h2⟩ := r.2 j Q (by simpa using q)
    exact ⟨v, by simpa using h1, h2⟩
theorem DAll.inv {P : Pd} {Ps : List Pd} {xs : List V} {H : Hp} (h : DAll (P :: Ps) xs H) : ∃ x r, xs = x :: r ∧ P.p x H ∧ DAll Ps r H := by
  obtain ⟨v, h1, h2⟩ := h.2 0 P rfl
  cases xs with
  | nil => simp at h1
  | cons x r =>
    have e : x = v := by simpa using h1
    subst e
    exact ⟨x, r, rfl, h2, by have := h.1; simpa using this, fun i Q q => by
      obtain ⟨u, q1, q2⟩ := h.2 (i + 1) Q (by simpa using q)
      exact ⟨u, by simpa using q1, q2⟩⟩
theorem DAll.nil_inv {xs : List V} {H : Hp} (h : DAll [] xs H) : xs = [] := by
  have := h.1
  exact List.length_eq_zero_iff.mp (by simpa using this)
theorem DAll.app {Ps Qs : List Pd} {xs ys : List V} {H : Hp} (h : DAll Ps xs H) (h' : DAll Qs ys H) : DAll (Ps ++ Qs) (xs ++ ys) H := by
  induction Ps generalizing xs with
  | nil =>
    have e := h.nil_inv
    subst e
    exact h'
  | cons P Ps ih =>
    obtain ⟨x, r, e, h1, h2⟩ := h.inv
    subst e
    exact DAll.cons h1 (ih h2)
theorem DAll.dd {K : PySem.W.Frag} {H : Hp} : ∀ {ds : List PyData} {xs : List V}, DAll (ds.map (PD K)) xs H → DdAll K H ds xs
  | [], xs, h => h.nil_inv
  | d :: ds, xs, h => by
    obtain ⟨x, r, e, h1, h2⟩ := h.inv
    exact ⟨x, r, e, h1, DAll.dd h2⟩
theorem DdAll.da {K : PySem.W.Frag} {H : Hp} : ∀ {ds : List PyData} {xs : List V}, DdAll K H ds xs → DAll (ds.map (PD K)) xs H
  | [], xs, h => by
    have e : xs = [] := h
    subst e
    exact DAll.nil
  | d :: ds, xs, ⟨x, r, h1, h2, h3⟩ => by
    subst h1
    exact DAll.cons h2 (DdAll.da h3)
def Res.lst (Z : Hp) (p : Addr) (Ps : List Pd) : Res where
  ad := [p]
  p := fun H0 H => Z p = none ∧ H0 p = none ∧ ∃ xs, H p = some (.lst xs) ∧ DAll Ps xs H0
  st := fun {H0 H H0' H'} e n q ⟨h0, h1, xs, h2, h3⟩ => ⟨h0, n p (by simp), xs, by rw [q p (by simp)]; exact h2, h3.ex e⟩
  tr := fun {H0 H} ⟨h0, h1, xs, h2, h3⟩ a ha => by
    have e : a = p := by simpa using ha
    subst e
    exact ⟨⟨_, h2⟩, h1⟩

def Rok (Rs : List Res) (H0 H : Hp) : Prop := (Rs.flatMap (·.ad)).Nodup ∧ ∀ r ∈ Rs, r.p H0 H
theorem Rok.nil {H0 H : Hp} : Rok [] H0 H := ⟨by simp, fun _ h => by simp at h⟩

structure Step (M : Addr → Prop) (H0 H H0' H' : Hp) : Prop where
  un : ∀ a o, ¬ M a → H a = some o → H' a = some o
  th : ∀ a o, H a = some o → ∃ o', H' a = some o'
  ex : Ex H0 H0'
  le : Ex H0' H'
  nw : ∀ a o, H0' a = some o → H0 a = some o ∨ H a = none
abbrev M0 : Addr → Prop := fun _ => False
theorem Step.rfl {M : Addr → Prop} {H0 H : Hp} (e : Ex H0 H) : Step M H0 H H0 H := ⟨fun _ _ _ h => h, fun _ o h => ⟨o, h⟩, Ex.refl _, e, fun _ _ h => .inl h⟩
theorem Step.trans {M : Addr → Prop} {H0 H H1 G1 H2 G2 : Hp} (a : Step M H0 H H1 G1) (b : Step M H1 G1 H2 G2) : Step M H0 H H2 G2 where
  un := fun x o hm h => b.un x o hm (a.un x o hm h)
  th := fun x o h => by
    obtain ⟨o', h'⟩ := a.th x o h
    exact b.th x o' h'
  ex := a.ex.trans b.ex
  le := b.le
  nw := fun x o h => by
    rcases b.nw x o h with q | q
    · exact a.nw x o q
    · refine .inr ?_
      cases e : H x with
      | none => rfl
      | some u =>
        obtain ⟨u', e'⟩ := a.th x u e
        rw [q] at e'
        cases e'
theorem Step.imp {M M' : Addr → Prop} {H0 H H0' H' : Hp} (s : Step M H0 H H0' H') (h : ∀ a, M a → M' a) : Step M' H0 H H0' H' := ⟨fun a o hm => s.un a o fun z => hm (h a z), s.th, s.ex, s.le, s.nw⟩
theorem Step.of0 {M : Addr → Prop} {H0 H H0' H' : Hp} (s : Step M0 H0 H H0' H') : Step M H0 H H0' H' := s.imp fun _ z => z.elim
/-- a new immutable object -/
theorem Step.new {M : Addr → Prop} {H0 H : Hp} {p : Addr} {o : HO} (e : Ex H0 H) (h : H p = none) : Step M H0 H (upd H0 p o) (upd H p o) where
  un := fun a u _ q => by rw [upd_ne (ne_of_none q h)]; exact q
  th := fun a u q => ⟨u, by rw [upd_ne (ne_of_none q h)]; exact q⟩
  ex := Ex.new (fresh_back e h)
  le := fun a u q => by
    by_cases ha : a = p
    · subst ha
      rw [upd_same] at q ⊢
      exact q
    · rw [upd_ne ha] at q ⊢
      exact e a u q
  nw := fun a u q => by
    by_cases ha : a = p
    · subst ha
      exact .inr h
    · rw [upd_ne ha] at q
      exact .inl q
theorem Rok.step {Rs : List Res} {M : Addr → Prop} {H0 H H0' H' : Hp} (r : Rok Rs H0 H) (s : Step M H0 H H0' H') (hm : ∀ x ∈ Rs, ∀ a ∈ x.ad, ¬ M a) : Rok Rs H0' H' := ⟨r.1, fun x hx => by
  have t := x.tr (r.2 x hx)
  refine x.st s.ex (fun a ha => ?_) (fun a ha => ?_) (r.2 x hx)
  · obtain ⟨⟨o, h1⟩, h2⟩ := t a ha
    cases e : H0' a with
    | none => rfl
    | some u =>
      rcases s.nw a u e with q | q
      · rw [h2] at q
        cases q
      · rw [h1] at q
        cases q
  · obtain ⟨⟨o, h1⟩, h2⟩ := t a ha
    rw [h1]
    exact s.un a o (hm x hx a ha) h1⟩
theorem Rok.step0 {Rs : List Res} {H0 H H0' H' : Hp} (r : Rok Rs H0 H) (s : Step M0 H0 H H0' H') : Rok Rs H0' H' := r.step s fun _ _ _ _ z => z
end Lh
namespace Lh
open PySem L2
open Evl (Ex ex_l ex_t ex_rd fresh_back)

/-! ### readings that are what the machine does -/
def wpE (X : Cx) (e : Expr) : TE := fun σ H Q => ∀ (pins : List (Addr × Obj)) (s : Shared), Inv X pins σ H s → wpAny (model X.prog X.w) X.A (eval e X.env) (EP X pins σ Q) X.xe s
def wpT (X : Cx) (e : Expr) : TT := fun σ H Q => ∀ (pins : List (Addr × Obj)) (s : Shared), Inv X pins σ H s → wpAny (model X.prog X.w) X.A (isTrue e X.env (eval e X.env)) (TP X pins σ Q) X.xe s
def wpA (X : Cx) (es : List Expr) : TA := fun σ H Q => ∀ (pos : Pos) (pins : List (Addr × Obj)) (s : Shared), Inv X pins σ H s → wpAny (model X.prog X.w) X.A (spliced (backTo pos (starEach es X.env))) (AP X pins σ Q) X.xe s
def wpS (X : Cx) (st : Stmt) : TS := fun D σ H => ∀ (pins : List (Addr × Obj)) (s : Shared), Inv X pins σ H s → wpAny (model X.prog X.w) X.A (exec st X.env) (SP X pins D) X.xe s
def wpB (X : Cx) (st : List Stmt) : TS := fun D σ H => ∀ (pins : List (Addr × Obj)) (s : Shared), Inv X pins σ H s → wpAny (model X.prog X.w) X.A (execs st X.env) (SP X pins D) X.xe s
def wpI (X : Cx) (tg iter : Expr) : TI := fun σ H R => ∀ (pins : List (Addr × Obj)) (s : Shared), Inv X pins σ H s →
  wpAny (model X.prog X.w) X.A (eval iter X.env) (fun it s1 =>
    wpAny (model X.prog X.w) X.A (pyIter it) (PIE X pins σ tg R) X.xe s1) X.xe s
section
variable {X : Cx} {e : Expr} {es : List Expr} {st : Stmt} {sts : List Stmt} {tg iter : Expr} {σ : L2.St} {H : Hp}
theorem pe_wp : PE X e (wpE X e) := ⟨fun pins s σ H Q I h => h pins s I⟩
theorem pt_wp : PT X e (wpT X e) := ⟨fun pins s σ H Q I h => h pins s I⟩
theorem pa_wp : PA X es (wpA X es) := ⟨fun pos pins s σ H Q I h => h pos pins s I⟩
theorem ps_wp : PS X st (wpS X st) := ⟨fun pins s σ H Q I h => h pins s I⟩
theorem pss_wp : PSs X sts (wpB X sts) := ⟨fun pins s σ H Q I h => h pins s I⟩
theorem pi_wp : PI X tg iter (wpI X tg iter) := ⟨fun pins s σ H R I h => h pins s I⟩
theorem PE.wp {t : TE} {Q : VK} (h : PE X e t) (q : t σ H Q) : wpE X e σ H Q := fun pins s I => h.run pins s σ H Q I q
theorem PT.wp {t : TT} {Q : Bool → Hp → Prop} (h : PT X e t) (q : t σ H Q) : wpT X e σ H Q := fun pins s I => h.run pins s σ H Q I q
theorem PA.wp {t : TA} {Q : List V → Hp → Prop} (h : PA X es t) (q : t σ H Q) : wpA X es σ H Q := fun pos pins s I => h.run pos pins s σ H Q I q
theorem PS.wp {t : TS} {D : Ends} (h : PS X st t) (q : t D σ H) : wpS X st D σ H := fun pins s I => h.run pins s σ H D I q
theorem PSs.wp {t : TS} {D : Ends} (h : PSs X sts t) (q : t D σ H) : wpB X sts D σ H := fun pins s I => h.run pins s σ H D I q
theorem PI.wp {t : TI} {R : It → Hp → Prop} (h : PI X tg iter t) (q : t σ H R) : wpI X tg iter σ H R := fun pins s I => h.run pins s σ H R I q
end

/-! ### the judgements -/
section
variable (M : Addr → Prop) (Γ : Ct) (Rs : List Res)
/-- a reading gives a P -/
def YE (t : TE) (P : Pd) : Prop := ∀ (σ : L2.St) (H0 H : Hp), Sl Γ σ H0 → Ex H0 H → Rok Rs H0 H → ∀ Q : VK, (∀ v H0' H', Step M H0 H H0' H' → Rok Rs H0' H' → P.p v H0' → Q v H') → t σ H Q
def YT (t : TT) (B : Bool → Prop) : Prop := ∀ (σ : L2.St) (H0 H : Hp), Sl Γ σ H0 → Ex H0 H → Rok Rs H0 H → ∀ Q : Bool → Hp → Prop, (∀ b H0' H', Step M H0 H H0' H' → Rok Rs H0' H' → B b → Q b H') → t σ H Q
def YA (t : TA) (Ps : List Pd) : Prop := ∀ (σ : L2.St) (H0 H : Hp), Sl Γ σ H0 → Ex H0 H → Rok Rs H0 H → ∀ Q : List V → Hp → Prop, (∀ vs H0' H', Step M H0 H H0' H' → Rok Rs H0' H' → DAll Ps vs H0' → Q vs H') → t σ H Q
variable (X : Cx)
abbrev XE (e : Expr) (P : Pd) : Prop := YE M Γ Rs (wpE X e) P
abbrev XT (e : Expr) (B : Bool → Prop) : Prop := YT M Γ Rs (wpT X e) B
abbrev XA (es : List Expr) (Ps : List Pd) : Prop := YA M Γ Rs (wpA X es) Ps
variable (Z0 Z Hl : Hp) (D : Ends)
def XS (st : List Stmt) : Prop := ∀ (σ : L2.St) (H0 H : Hp), Sl Γ σ H0 → Step M Z0 Z H0 H → Ex Hl H0 → Rok Rs H0 H → wpB X st D σ H
end
/-- a step by values -/
def Yld (H0 H : Hp) (C : Pd) (f : VK → Prop) : Prop := ∀ Q : VK, (∀ v H0' H', Step M0 H0 H H0' H' → C.p v H0' → Q v H') → f Q
abbrev Is (b : Bool) : Bool → Prop := fun c => c = b
section
variable {M : Addr → Prop} {Γ : Ct} {Rs : List Res} {X : Cx} {H0 H : Hp} {K : PySem.W.Frag}
theorem Yld.val {C : Pd} {f : VK → Prop} {z : V} (e : Ex H0 H) (hz : C.p z H0) (h : ∀ Q : VK, Q z H → f Q) : Yld H0 H C f := fun Q q => h Q (q z H0 H (Step.rfl e) hz)
theorem Yld.newL {f : VK → Prop} {xs : List V} {ds : List PyData} (e : Ex H0 H) (hz : DdAll K H0 ds xs) (h : ∀ Q : VK, (∀ p, H p = none → Q (.ref p) (upd H p (.lst xs))) → f Q) : Yld H0 H (PD K (.list ds)) f := fun Q q => h Q fun p hp =>
  q _ (upd H0 p (.lst xs)) _ (Step.new e hp) ⟨p, xs, rfl, upd_same, DdAll.ex (Ex.new (fresh_back e hp)) _ _ hz⟩
theorem Yld.newT {f : VK → Prop} {xs : List V} {ds : List PyData} (e : Ex H0 H) (hz : DdAll K H0 ds xs) (h : ∀ Q : VK, (∀ p, H p = none → Q (.ref p) (upd H p (.tup xs))) → f Q) : Yld H0 H (PD K (.tuple ds)) f := fun Q q => h Q fun p hp =>
  q _ (upd H0 p (.tup xs)) _ (Step.new e hp) ⟨p, xs, rfl, SqT.of upd_same, DdAll.ex (Ex.new (fresh_back e hp)) _ _ hz⟩
theorem YE.imp {t : TE} {P P' : Pd} (h : YE M Γ Rs t P) (i : ∀ v H, P.p v H → P'.p v H) : YE M Γ Rs t P' := fun σ H0 H l e r Q q => h σ H0 H l e r Q fun v H0' H' s r' p => q v H0' H' s r' (i v H0' p)
theorem YE.to {t : TE} {P P' : Pd} (h : YE M Γ Rs t P) (i : P = P') : YE M Γ Rs t P' := i ▸ h
theorem YE.dat {t : TE} {d d' : PyData} (h : YE M Γ Rs t (PD K d)) (i : d = d') : YE M Γ Rs t (PD K d') := i ▸ h
theorem YT.imp {t : TT} {B B' : Bool → Prop} (h : YT M Γ Rs t B) (i : ∀ b, B b → B' b) : YT M Γ Rs t B' := fun σ H0 H l e r Q q => h σ H0 H l e r Q fun b H0' H' s r' p => q b H0' H' s r' (i b p)
theorem YE.wp {t : TE} {e : Expr} {P : Pd} (h : PE X e t) (y : YE M Γ Rs t P) : XE M Γ Rs X e P := fun σ H0 H l ex r Q q => PE.wp h (y σ H0 H l ex r Q q)
theorem YT.wp {t : TT} {e : Expr} {B : Bool → Prop} (h : PT X e t) (y : YT M Γ Rs t B) : XT M Γ Rs X e B := fun σ H0 H l ex r Q q => PT.wp h (y σ H0 H l ex r Q q)
theorem YA.wp {t : TA} {es : List Expr} {Ps : List Pd} (h : PA X es t) (y : YA M Γ Rs t Ps) : XA M Γ Rs X es Ps := fun σ H0 H l ex r Q q => PA.wp h (y σ H0 H l ex r Q q)
/-- what is known grows -/
theorem YE.le {t : TE} {P : Pd} {Γ' : Ct} (h : YE M Γ Rs t P) (l : Le Γ' Γ) : YE M Γ' Rs t P := fun σ H0 H s => h σ H0 H (s.le l)

/-! ### names, constants -/
theorem ye_c {v : V} {P : Pd} (h : ∀ H, P.p v H) : YE M Γ Rs (tC v) P := fun σ H0 H _ e r Q q => q v H0 H (Step.rfl e) r (h H0)
theorem ye_var {i : Nat} {P : Pd} (h : Γ[i]? = some (some P)) : YE M Γ Rs (tVar i) P := fun σ H0 H l e r Q q => by
  obtain ⟨v, h1, h2⟩ := l.2 i P h
  exact ⟨v, h1, q v H0 H (Step.rfl e) r h2⟩
theorem xe_var (i : Nat) {x : Str} {pos : Pos} {P : Pd} (h : Γ[i]? = some (some P) := by rfl) (hN : X.N[i]? = some x := by rfl) (hv : Vis X.env.scope x := by first | exact Or.inl rfl | exact Or.inr (Or.inl rfl) | exact Or.inr (Or.inr rfl))
    (hd : (x == ("__debug__" : Str)) = false := by decide) (hcd : (x == ("__classdict__" : Str)) = false := by decide) : XE M Γ Rs X (.Name x pos) P := YE.wp (pe_var hN hv hd hcd) (ye_var h)
theorem xe_int {i : Int} {j pos} : XE M Γ Rs X (.Constant (.int i) j pos) (PD K (.int i)) := YE.wp pe_int (ye_c fun _ => rfl)
theorem xe_bl {b : Bool} {j pos} : XE M Γ Rs X (.Constant (.bool b) j pos) (PD K (.bool b)) := YE.wp pe_bl (ye_c fun _ => rfl)
theorem xe_non {j pos} : XE M Γ Rs X (.Constant .none j pos) (PD K .none) := YE.wp pe_non (ye_c fun _ => rfl)
theorem xe_str {x : Str} {j pos} : XE M Γ Rs X (.Constant (.str x) j pos) (PD K (.str x)) := YE.wp pe_str (ye_c fun _ => rfl)
/-- a module's name that holds an int -/
theorem xe_gint {x : Str} {i : Int} {t : Tok} {pos : Pos} (hm : X.mg x = some (.int i t)) (hg : Gl X x := by rfl) (hd : (x == ("__debug__" : Str)) = false := by decide) : XE M Γ Rs X (.Name x pos) (PD K (.int i)) :=
  YE.wp (pe_glob (v := .int i) hg hm ⟨t, rfl⟩ hd) (ye_c fun _ => rfl)
theorem xe_bltn {x : Str} {v : V} {u : Value} {pos : Pos} (hm : X.mg x = none) (hv : bootBuiltins x = some u) (r : RelV v u) (hg : Gl X x := by rfl) (hn : x ≠ "__name__" := by decide) (hd : (x == ("__debug__" : Str)) = false := by decide) : XE M Γ Rs X (.Name x pos) (PV v) :=
  YE.wp (pe_bltn hg hm hv r hn hd) (ye_c fun _ => rfl)

/-! ### two operands -/
theorem ye_op {r : R2} {ta tb : TE} {A B C : Pd} (ha : YE M Γ Rs ta A) (hb : YE M Γ Rs tb B) (hr : ∀ x y H0 H, A.p x H0 → B.p y H0 → Ex H0 H → Rok Rs H0 H → Yld H0 H C (r x y H)) : YE M Γ Rs (tOp r ta tb) C := fun σ H0 H l e k Q q =>
  ha σ H0 H l e k _ fun x H1 G1 s1 k1 a1 => hb σ H1 G1 (l.ex s1.ex) s1.le k1 _ fun y H2 G2 s2 k2 b2 =>
    hr x y H2 G2 (A.m s2.ex a1) b2 s2.le k2 Q fun v H3 G3 s3 c3 => q v H3 G3 ((s1.trans s2).trans s3.of0) (k2.step0 s3) c3
theorem ye_un {r : V → Hp → VK → Prop} {ta : TE} {A C : Pd} (ha : YE M Γ Rs ta A) (hr : ∀ x H0 H, A.p x H0 → Ex H0 H → Rok Rs H0 H → Yld H0 H C (r x H)) : YE M Γ Rs (tUn r ta) C := fun σ H0 H l e k Q q =>
  ha σ H0 H l e k _ fun x H1 G1 s1 k1 a1 => hr x H1 G1 a1 s1.le k1 Q fun v H3 G3 s3 c3 => q v H3 G3 (s1.trans s3.of0) (k1.step0 s3) c3
theorem xe_bin {op : Operator} {r : R2} {a b : Expr} {A B C : Pd} {pos : Pos} (ho : OpR X (binaryOp op) r) (ha : XE M Γ Rs X a A) (hb : XE M Γ Rs X b B)
    (hr : ∀ x y H0 H, A.p x H0 → B.p y H0 → Ex H0 H → Rok Rs H0 H → Yld H0 H C (r x y H)) : XE M Γ Rs X (.BinOp a op b pos) C := YE.wp (pe_op ho pe_wp pe_wp) (ye_op ha hb hr)
theorem xe_cmp {op : CmpOp} {r : R2} {a b : Expr} {A B C : Pd} {pos : Pos} (ho : OpR X (compareOp op) r) (ha : XE M Γ Rs X a A) (hb : XE M Γ Rs X b B)
    (hr : ∀ x y H0 H, A.p x H0 → B.p y H0 → Ex H0 H → Rok Rs H0 H → Yld H0 H C (r x y H)) (hm : behindInMarks op b = false) : XE M Γ Rs X (.Compare a [op] [b] pos) C := YE.wp (pe_cmpR ho pe_wp pe_wp hm) (ye_op ha hb hr)
theorem xe_un {op : UnaryOp} {r : V → Hp → VK → Prop} {a : Expr} {A C : Pd} {pos : Pos} (ho : UnR X (unaryOp op) r) (ha : XE M Γ Rs X a A)
    (hr : ∀ x H0 H, A.p x H0 → Ex H0 H → Rok Rs H0 H → Yld H0 H C (r x H)) : XE M Γ Rs X (.UnaryOp op a pos) C := YE.wp (pe_un ho pe_wp) (ye_un ha hr)
/-- a test's answer -/
def PB (K : PySem.W.Frag) (B : Bool → Prop) : Pd := PEx B fun b => PD K (.bool b)
theorem yt_test {t : TE} {B : Bool → Prop} (h : YE M Γ Rs t (PB K B)) : YT M Γ Rs (tTest t) B := fun σ H0 H l e k Q q => h σ H0 H l e k _ fun v H1 G1 s1 k1 a1 => by
  obtain ⟨b, hb, hv⟩ := a1
  exact ⟨b, hv, q b H1 G1 s1 k1 hb⟩
theorem yt_B {t : TE} {B : Bool → Prop} (h : YE M Γ Rs t (PB K B)) : YT M Γ Rs (tB t) B := fun σ H0 H l e k Q q => h σ H0 H l e k _ fun v H1 G1 s1 k1 a1 => by
  obtain ⟨b, hb, hv⟩ := a1
  exact ⟨b, hv, q b H1 G1 s1 k1 hb⟩
theorem YE.pb {t : TE} {b : Bool} (h : YE M Γ Rs t (PD K (.bool b))) : YE M Γ Rs t (PB K (Is b)) := h.imp fun v H p => ⟨b, rfl, p⟩
theorem xt_cmp {op : CmpOp} {r : R2} {a b : Expr} {A B : Pd} {T : Bool → Prop} {pos : Pos} (ho : OpR X (compareOp op) r) (ha : XE M Γ Rs X a A) (hb : XE M Γ Rs X b B)
    (hr : ∀ x y H0 H, A.p x H0 → B.p y H0 → Ex H0 H → Rok Rs H0 H → Yld H0 H (PB K T) (r x y H)) (hm : behindInMarks op b = false) : XT M Γ Rs X (.Compare a [op] [b] pos) T := YT.wp (pt_cmpR ho pe_wp pe_wp hm) (yt_test (ye_op ha hb hr))
theorem xt_val {e : Expr} {B : Bool → Prop} (h : XE M Γ Rs X e (PB K B)) (he : ∀ whole, isTrue e X.env whole = (do let v ← whole; standAt e.pos; holding [v] (truthy v)) := by intro _; rfl) : XT M Γ Rs X e B := YT.wp (pt_val pe_wp he) (yt_B h)
theorem xt_not {e : Expr} {B : Bool → Prop} {pos : Pos} (h : XT M Γ Rs X e B) : XT M Γ Rs X (.UnaryOp .Not e pos) (fun b => B (!b)) := YT.wp (pt_not pt_wp) fun σ H0 H l e k Q q =>
  h σ H0 H l e k _ fun b H1 G1 s1 k1 a1 => q (!b) H1 G1 s1 k1 (by rw [Bool.not_not]; exact a1)
/-- and: the second is asked where the first holds -/
def BAnd (A B : Bool → Prop) : Bool → Prop := fun b => (A false ∧ b = false) ∨ (A true ∧ B b)
def BOr (A B : Bool → Prop) : Bool → Prop := fun b => (A true ∧ b = true) ∨ (A false ∧ B b)
theorem yt_and {t u : TT} {A B : Bool → Prop} (h : YT M Γ Rs t A) (h' : A true → YT M Γ Rs u B) : YT M Γ Rs (tAnd t u) (BAnd A B) := fun σ H0 H l e k Q q =>
  h σ H0 H l e k _ fun b H1 G1 s1 k1 a1 => by
    cases b with
    | true => exact h' a1 σ H1 G1 (l.ex s1.ex) s1.le k1 Q fun c H2 G2 s2 k2 a2 => q c H2 G2 (s1.trans s2) k2 (.inr ⟨a1, a2⟩)
    | false => exact q false H1 G1 s1 k1 (.inl ⟨a1, rfl⟩)
theorem yt_or {t u : TT} {A B : Bool → Prop} (h : YT M Γ Rs t A) (h' : A false → YT M Γ Rs u B) : YT M Γ Rs (tOr t u) (BOr A B) := fun σ H0 H l e k Q q =>
  h σ H0 H l e k _ fun b H1 G1 s1 k1 a1 => by
    cases b with
    | false => exact h' a1 σ H1 G1 (l.ex s1.ex) s1.le k1 Q fun c H2 G2 s2 k2 a2 => q c H2 G2 (s1.trans s2) k2 (.inr ⟨a1, a2⟩)
    | true => exact q true H1 G1 s1 k1 (.inl ⟨a1, rfl⟩)
theorem xt_and {a b : Expr} {A B : Bool → Prop} {pos : Pos} (h : XT M Γ Rs X a A) (h' : A true → XT M Γ Rs X b B) : XT M Γ Rs X (.BoolOp .And [a, b] pos) (BAnd A B) := YT.wp (PW.pt (pw_and pt_wp (pw_and1 pt_wp))) (yt_and h h')
theorem xt_or {a b : Expr} {A B : Bool → Prop} {pos : Pos} (h : XT M Γ Rs X a A) (h' : A false → XT M Γ Rs X b B) : XT M Γ Rs X (.BoolOp .Or [a, b] pos) (BOr A B) := YT.wp (PW.pt (pw_or pt_wp (pw_or1 pt_wp))) (yt_or h h')
theorem xt_and3 {a b c : Expr} {A B C : Bool → Prop} {pos : Pos} (h : XT M Γ Rs X a A) (h' : A true → XT M Γ Rs X b B) (h'' : A true → B true → XT M Γ Rs X c C) : XT M Γ Rs X (.BoolOp .And [a, b, c] pos) (BAnd A (BAnd B C)) :=
  YT.wp (PW.pt (pw_and pt_wp (pw_and pt_wp (pw_and1 pt_wp)))) (yt_and h fun ha => yt_and (h' ha) fun hb => h'' ha hb)
theorem xt_or3 {a b c : Expr} {A B C : Bool → Prop} {pos : Pos} (h : XT M Γ Rs X a A) (h' : A false → XT M Γ Rs X b B) (h'' : A false → B false → XT M Γ Rs X c C) : XT M Γ Rs X (.BoolOp .Or [a, b, c] pos) (BOr A (BOr B C)) :=
  YT.wp (PW.pt (pw_or pt_wp (pw_or pt_wp (pw_or1 pt_wp)))) (yt_or h fun ha => yt_or (h' ha) fun hb => h'' ha hb)
/-- as values -/
theorem ye_andV {t u : TE} {A B : Bool → Prop} (h : YE M Γ Rs t (PB K A)) (h' : A true → YE M Γ Rs u (PB K B)) : YE M Γ Rs (tAndV t u) (PB K (BAnd A B)) := fun σ H0 H l e k Q q =>
  h σ H0 H l e k _ fun v H1 G1 s1 k1 ⟨b, a1, hv⟩ => ⟨b, hv, by
    cases b with
    | true => exact h' a1 σ H1 G1 (l.ex s1.ex) s1.le k1 Q fun c H2 G2 s2 k2 ⟨b2, a2, hv2⟩ => q c H2 G2 (s1.trans s2) k2 ⟨b2, .inr ⟨a1, a2⟩, hv2⟩
    | false => exact q _ H1 G1 s1 k1 ⟨false, .inl ⟨a1, rfl⟩, rfl⟩⟩
theorem ye_orV {t u : TE} {A B : Bool → Prop} (h : YE M Γ Rs t (PB K A)) (h' : A false → YE M Γ Rs u (PB K B)) : YE M Γ Rs (tOrV t u) (PB K (BOr A B)) := fun σ H0 H l e k Q q =>
  h σ H0 H l e k _ fun v H1 G1 s1 k1 ⟨b, a1, hv⟩ => ⟨b, hv, by
    cases b with
    | false => exact h' a1 σ H1 G1 (l.ex s1.ex) s1.le k1 Q fun c H2 G2 s2 k2 ⟨b2, a2, hv2⟩ => q c H2 G2 (s1.trans s2) k2 ⟨b2, .inr ⟨a1, a2⟩, hv2⟩
    | true => exact q _ H1 G1 s1 k1 ⟨true, .inl ⟨a1, rfl⟩, rfl⟩⟩
theorem xe_and {a b : Expr} {A B : Bool → Prop} {pos : Pos} (h : XE M Γ Rs X a (PB K A)) (h' : A true → XE M Γ Rs X b (PB K B)) : XE M Γ Rs X (.BoolOp .And [a, b] pos) (PB K (BAnd A B)) := YE.wp (pe_and pe_wp (pe_one pe_wp)) (ye_andV h h')
theorem xe_or {a b : Expr} {A B : Bool → Prop} {pos : Pos} (h : XE M Γ Rs X a (PB K A)) (h' : A false → XE M Γ Rs X b (PB K B)) : XE M Γ Rs X (.BoolOp .Or [a, b] pos) (PB K (BOr A B)) := YE.wp (pe_or pe_wp (pe_one pe_wp)) (ye_orV h h')
theorem xe_and3 {a b c : Expr} {A B C : Bool → Prop} {pos : Pos} (h : XE M Γ Rs X a (PB K A)) (h' : A true → XE M Γ Rs X b (PB K B)) (h'' : A true → B true → XE M Γ Rs X c (PB K C)) : XE M Γ Rs X (.BoolOp .And [a, b, c] pos) (PB K (BAnd A (BAnd B C))) :=
  YE.wp (pe_and pe_wp (pe_and pe_wp (pe_one pe_wp))) (ye_andV h fun ha => ye_andV (h' ha) fun hb => h'' ha hb)
theorem xe_notB {a : Expr} {A : Bool → Prop} {pos : Pos} (h : XE M Γ Rs X a (PB K A)) : XE M Γ Rs X (.UnaryOp .Not a pos) (PB K fun b => A (!b)) := YE.wp (pe_not pe_wp) fun σ H0 H l e k Q q =>
  h σ H0 H l e k _ fun v H1 G1 s1 k1 ⟨b, a1, hv⟩ => ⟨b, hv, q _ H1 G1 s1 k1 ⟨!b, by show A (!!b); rw [Bool.not_not]; exact a1, rfl⟩⟩
theorem xe_ifx {c a b : Expr} {B : Bool → Prop} {P : Pd} {pos : Pos} (hc : XT M Γ Rs X c B) (ha : B true → XE M Γ Rs X a P) (hb : B false → XE M Γ Rs X b P) : XE M Γ Rs X (.IfExp c a b pos) P := YE.wp (pe_ifExp pt_wp pe_wp pe_wp) fun σ H0 H l e k Q q =>
  hc σ H0 H l e k _ fun d H1 G1 s1 k1 a1 => by
    cases d with
    | true => exact ha a1 σ H1 G1 (l.ex s1.ex) s1.le k1 Q fun c H2 G2 s2 k2 a2 => q c H2 G2 (s1.trans s2) k2 a2
    | false => exact hb a1 σ H1 G1 (l.ex s1.ex) s1.le k1 Q fun c H2 G2 s2 k2 a2 => q c H2 G2 (s1.trans s2) k2 a2
/-- a < b < c -/
theorem ye_chain {r r' : R2} {ta tb tc : TE} {A B C : Pd} {T U : Bool → Prop} (ha : YE M Γ Rs ta A) (hb : YE M Γ Rs tb B) (hr : ∀ x y H0 H, A.p x H0 → B.p y H0 → Ex H0 H → Rok Rs H0 H → Yld H0 H (PB K T) (r x y H))
    (hc : T true → YE M Γ Rs tc C) (hr' : T true → ∀ x y H0 H, B.p x H0 → C.p y H0 → Ex H0 H → Rok Rs H0 H → Yld H0 H (PB K U) (r' x y H)) : YE M Γ Rs (tChain r r' ta tb tc) (PB K (BAnd T U)) := fun σ H0 H l e k Q q =>
  ha σ H0 H l e k _ fun x H1 G1 s1 k1 a1 => hb σ H1 G1 (l.ex s1.ex) s1.le k1 _ fun y H2 G2 s2 k2 b2 =>
    hr x y H2 G2 (A.m s2.ex a1) b2 s2.le k2 _ fun v H3 G3 s3 ⟨b, hb3, hv⟩ => ⟨b, hv, by
      have k3 := k2.step0 s3
      have s13 := (s1.trans s2).trans s3.of0
      cases b with
      | true =>
        exact hc hb3 σ H3 G3 (l.ex s13.ex) s13.le k3 _ fun w H4 G4 s4 k4 c4 => hr' hb3 y w H4 G4 (B.m (s3.ex.trans s4.ex) b2) c4 s4.le k4 Q fun z H5 G5 s5 ⟨b5, h5, hv5⟩ => q z H5 G5 ((s13.trans s4).trans s5.of0) (k4.step0 s5) ⟨b5, .inr ⟨hb3, h5⟩, hv5⟩
      | false => exact q _ H3 G3 s13 k3 ⟨false, .inl ⟨hb3, rfl⟩, rfl⟩⟩
theorem xt_chain {op op' : CmpOp} {r r' : R2} {a b c : Expr} {A B C : Pd} {T U : Bool → Prop} {pos : Pos} (ho : OpR X (compareOp op) r) (ho' : OpR X (compareOp op') r') (ha : XE M Γ Rs X a A) (hb : XE M Γ Rs X b B)
    (hr : ∀ x y H0 H, A.p x H0 → B.p y H0 → Ex H0 H → Rok Rs H0 H → Yld H0 H (PB K T) (r x y H)) (hc : T true → XE M Γ Rs X c C) (hr' : T true → ∀ x y H0 H, B.p x H0 → C.p y H0 → Ex H0 H → Rok Rs H0 H → Yld H0 H (PB K U) (r' x y H))
    (hm : lastMarks [op, op'] [b, c] = false := by with_unfolding_all rfl) : XT M Γ Rs X (.Compare a [op, op'] [b, c] pos) (BAnd T U) := YT.wp (pt_chain ho ho' pe_wp pe_wp pe_wp hm) (yt_test (ye_chain ha hb hr hc hr'))
theorem xe_chain {op op' : CmpOp} {r r' : R2} {a b c : Expr} {A B C : Pd} {T U : Bool → Prop} {pos : Pos} (ho : OpR X (compareOp op) r) (ho' : OpR X (compareOp op') r') (ha : XE M Γ Rs X a A) (hb : XE M Γ Rs X b B)
    (hr : ∀ x y H0 H, A.p x H0 → B.p y H0 → Ex H0 H → Rok Rs H0 H → Yld H0 H (PB K T) (r x y H)) (hc : T true → XE M Γ Rs X c C) (hr' : T true → ∀ x y H0 H, B.p x H0 → C.p y H0 → Ex H0 H → Rok Rs H0 H → Yld H0 H (PB K U) (r' x y H))
    (hm : lastMarks [op, op'] [b, c] = false := by with_unfolding_all rfl) : XE M Γ Rs X (.Compare a [op, op'] [b, c] pos) (PB K (BAnd T U)) := YE.wp (pe_chain ho ho' pe_wp pe_wp pe_wp hm) (ye_chain ha hb hr hc hr')

/-! ### argument lists -/
theorem xa_nil : XA M Γ Rs X [] [] := YA.wp pa_nil fun σ H0 H l e k Q q => q [] H0 H (Step.rfl e) k DAll.nil
theorem xa_cons {e : Expr} {es : List Expr} {P : Pd} {Ps : List Pd} (h : XE M Γ Rs X e P) (hs : XA M Γ Rs X es Ps) (he : starEach (e :: es) X.env = (false, eval e X.env) :: starEach es X.env := by rfl) : XA M Γ Rs X (e :: es) (P :: Ps) :=
  YA.wp (pa_cons pe_wp pa_wp he) fun σ H0 H l ex k Q q => h σ H0 H l ex k _ fun x H1 G1 s1 k1 a1 => hs σ H1 G1 (l.ex s1.ex) s1.le k1 _ fun xs H2 G2 s2 k2 a2 => q (x :: xs) H2 G2 (s1.trans s2) k2 (DAll.cons (P.m s2.ex a1) a2)
theorem xa_1 {e : Expr} {P : Pd} (h : XE M Γ Rs X e P) (he : starEach [e] X.env = (false, eval e X.env) :: starEach [] X.env := by rfl) : XA M Γ Rs X [e] [P] := xa_cons h xa_nil he
/-- a built-in by its name -/
theorem xe_callB {x : Str} {id : String} {r : List V → Hp → VK → Prop} {e : Expr} {es : List Expr} {Ps : List Pd} {C : Pd} {p pos : Pos} (hc : CallR X (.builtin id) r) (hm : X.mg x = none) (hv : bootBuiltins x = some (.builtin id)) (ha : XA M Γ Rs X (e :: es) Ps)
    (hr : ∀ xs H0 H, DAll Ps xs H0 → Ex H0 H → Rok Rs H0 H → Yld H0 H C (r xs H)) (hg : Gl X x := by rfl) (hn : x ≠ "__name__" := by decide) (hdb : (x == ("__debug__" : Str)) = false := by decide)
    (he : starEach (e :: es) X.env = (false, eval e X.env) :: starEach es X.env := by rfl) (hpl : (backTo pos (starEach es X.env)).any (·.1) = false := by rfl) : XE M Γ Rs X (.Call (.Name x p) (e :: es) [] pos) C :=
  YE.wp (pe_callB hc hg hm hv pa_wp hn hdb he hpl) fun σ H0 H l ex k Q q => ha σ H0 H l ex k _ fun xs H1 G1 s1 k1 a1 => hr xs H1 G1 a1 s1.le k1 Q fun v H2 G2 s2 c2 => q v H2 G2 (s1.trans s2.of0) (k1.step0 s2) c2
theorem xe_callTy {x : Str} {T : String} {r : List V → Hp → VK → Prop} {e : Expr} {es : List Expr} {Ps : List Pd} {C : Pd} {p pos : Pos} (hc : CallR X (.type T) r) (hm : X.mg x = none) (hv : bootBuiltins x = some (.type T)) (ha : XA M Γ Rs X (e :: es) Ps)
    (hr : ∀ xs H0 H, DAll Ps xs H0 → Ex H0 H → Rok Rs H0 H → Yld H0 H C (r xs H)) (hg : Gl X x := by rfl) (hn : x ≠ "__name__" := by decide) (hdb : (x == ("__debug__" : Str)) = false := by decide)
    (he : starEach (e :: es) X.env = (false, eval e X.env) :: starEach es X.env := by rfl) (hpl : (backTo pos (starEach es X.env)).any (·.1) = false := by rfl) : XE M Γ Rs X (.Call (.Name x p) (e :: es) [] pos) C :=
  YE.wp (pe_callTy hc hg hm hv pa_wp hn hdb he hpl) fun σ H0 H l ex k Q q => ha σ H0 H l ex k _ fun xs H1 G1 s1 k1 a1 => hr xs H1 G1 a1 s1.le k1 Q fun v H2 G2 s2 c2 => q v H2 G2 (s1.trans s2.of0) (k1.step0 s2) c2
/-! ### displays -/
theorem xe_tup {es : List Expr} {ds : List PyData} {x1} {pos : Pos} (h : XA M Γ Rs X es (ds.map (PD K))) (hz : ds.length ≤ 1000) : XE M Γ Rs X (.Tuple es x1 pos) (PD K (.tuple ds)) :=
  YE.wp (pe_tup pa_wp) fun σ H0 H l ex k Q q => h σ H0 H l ex k _ fun xs H1 G1 s1 k1 a1 => ⟨by have := a1.1; rw [List.length_map] at this; rw [this]; exact Nat.le_trans hz (by decide), fun p hp =>
    q _ (upd H1 p (.tup xs)) _ (s1.trans (Step.new s1.le hp)) (k1.step0 (Step.new s1.le hp)) ⟨p, xs, rfl, SqT.of upd_same, DdAll.ex (Ex.new (fresh_back s1.le hp)) _ _ a1.dd⟩⟩
theorem xe_lst {es : List Expr} {ds : List PyData} {pos : Pos} (h : XA M Γ Rs X es (ds.map (PD K))) (hz : ds.length ≤ 1000) : XE M Γ Rs X (.List es pos) (PD K (.list ds)) :=
  YE.wp (pe_lst pa_wp) fun σ H0 H l ex k Q q => h σ H0 H l ex k _ fun xs H1 G1 s1 k1 a1 => ⟨by have := a1.1; rw [List.length_map] at this; rw [this]; exact Nat.le_trans hz (by decide), fun p hp =>
    q _ (upd H1 p (.lst xs)) _ (s1.trans (Step.new s1.le hp)) (k1.step0 (Step.new s1.le hp)) ⟨p, xs, rfl, upd_same, DdAll.ex (Ex.new (fresh_back s1.le hp)) _ _ a1.dd⟩⟩
end

/-! ### statements -/
section
variable {M : Addr → Prop} {Γ Γ' : Ct} {Rs : List Res} {X : Cx} {Z0 Z Hl : Hp} {D : Ends} {K : PySem.W.Frag} {rest : List Stmt}
theorem xs_nil (h : ∀ σ H0 H, Sl Γ σ H0 → Step M Z0 Z H0 H → Ex Hl H0 → Rok Rs H0 H → D.nx σ H) : XS M Γ Rs X Z0 Z Hl D [] := fun σ H0 H l s b k => PSs.wp pss_nil (h σ H0 H l s b k)
/-- behind a block: the rest -/
theorem xs_then (h : XS M Γ Rs X Z0 Z Hl D rest) : XS M Γ Rs X Z0 Z Hl { D with nx := wpB X rest D } [] := xs_nil h
theorem xs_le (l : Le Γ Γ') (h : XS M Γ' Rs X Z0 Z Hl D rest) : XS M Γ Rs X Z0 Z Hl D rest := fun σ H0 H s => h σ H0 H (s.le l)
theorem xs_cons {st : Stmt} {t : TS} (h : PS X st t) (q : ∀ σ H0 H, Sl Γ σ H0 → Step M Z0 Z H0 H → Ex Hl H0 → Rok Rs H0 H → t { D with nx := wpB X rest D } σ H) : XS M Γ Rs X Z0 Z Hl D (st :: rest) :=
  fun σ H0 H l s b k => PSs.wp (pss_cons h pss_wp) (q σ H0 H l s b k)
/-- x = e -/
theorem xs_asg (i : Nat) {x : Str} {e : Expr} {P : Pd} {pos pos' : Pos} (he : XE M Γ Rs X e P) (h : XS M (Γ.set i (some P)) Rs X Z0 Z Hl D rest) (hN : X.N.Nodup) (hi : X.N[i]? = some x := by rfl) (hx : Loc X.env.scope x := by first | exact Or.inl rfl | exact Or.inr rfl)
    (hs : swapsWith e (some (.Name x pos')) pos.line X.env = pure false := by rfl) (hf : X.fn x = true ∨ X.env.scope.names.lookup x = some .local := by first | exact .inl rfl | exact .inr rfl) : XS M Γ Rs X Z0 Z Hl D (.Assign [.Name x pos'] e pos :: rest) :=
  xs_cons (ps_set hN hi hx pe_wp hs hf) fun σ H0 H l s b k => he σ H0 H l s.le k _ fun v H1 G1 s1 k1 a1 => h _ H1 G1 ((l.ex s1.ex).set a1) (s.trans s1) (b.trans s1.ex) k1
/-- x = e, where e is one of many -/
theorem xs_asgE (i : Nat) {α : Type} {A : α → Prop} {P : α → Pd} {x : Str} {e : Expr} {pos pos' : Pos} (he : XE M Γ Rs X e (PEx A P)) (h : ∀ a, A a → XS M (Γ.set i (some (P a))) Rs X Z0 Z Hl D rest) (hN : X.N.Nodup) (hi : X.N[i]? = some x := by rfl) (hx : Loc X.env.scope x := by first | exact Or.inl rfl | exact Or.inr rfl)
    (hs : swapsWith e (some (.Name x pos')) pos.line X.env = pure false := by rfl) (hf : X.fn x = true ∨ X.env.scope.names.lookup x = some .local := by first | exact .inl rfl | exact .inr rfl) : XS M Γ Rs X Z0 Z Hl D (.Assign [.Name x pos'] e pos :: rest) :=
  xs_cons (ps_set hN hi hx pe_wp hs hf) fun σ H0 H l s b k => he σ H0 H l s.le k _ fun v H1 G1 s1 k1 ⟨a, ha, hv⟩ => h a ha _ H1 G1 ((l.ex s1.ex).set hv) (s.trans s1) (b.trans s1.ex) k1
/-- a value dropped -/
theorem xs_expr {e : Expr} {P : Pd} {pos : Pos} (he : XE M Γ Rs X e P) (h : XS M Γ Rs X Z0 Z Hl D rest) (hs : swapsWith e none pos.line X.env = pure false := by rfl) : XS M Γ Rs X Z0 Z Hl D (.Expr e pos :: rest) :=
  xs_cons (ps_expr pe_wp hs) fun σ H0 H l s b k => he σ H0 H l s.le k _ fun v H1 G1 s1 k1 a1 => h _ H1 G1 (l.ex s1.ex) (s.trans s1) (b.trans s1.ex) k1
theorem xs_ret {e : Expr} {P : Pd} {pos : Pos} (he : XE M Γ Rs X e P) (h : ∀ v H0 H, Step M Z0 Z H0 H → Rok Rs H0 H → P.p v H0 → D.rt v H) : XS M Γ Rs X Z0 Z Hl D (.Return (some e) pos :: rest) :=
  xs_cons (ps_ret pe_wp) fun σ H0 H l s b k => he σ H0 H l s.le k _ fun v H1 G1 s1 k1 a1 => h v H1 G1 (s.trans s1) k1 a1
theorem xs_if {c : Expr} {a b : List Stmt} {B : Bool → Prop} {pos : Pos} (hc : XT M Γ Rs X c B) (ha : B true → XS M Γ Rs X Z0 Z Hl { D with nx := wpB X rest D } a) (hb : B false → XS M Γ Rs X Z0 Z Hl { D with nx := wpB X rest D } b) :
    XS M Γ Rs X Z0 Z Hl D (.If c a b pos :: rest) :=
  xs_cons (ps_if pt_wp pss_wp pss_wp) fun σ H0 H l s b k => hc σ H0 H l s.le k _ fun d H1 G1 s1 k1 a1 => by
    cases d with
    | true => exact ha a1 σ H1 G1 (l.ex s1.ex) (s.trans s1) (b.trans s1.ex) k1
    | false => exact hb a1 σ H1 G1 (l.ex s1.ex) (s.trans s1) (b.trans s1.ex) k1
/-- if c: (never) -/
theorem xs_skip {c : Expr} {a : List Stmt} {pos : Pos} (hc : XT M Γ Rs X c (Is false)) (h : XS M Γ Rs X Z0 Z Hl D rest) : XS M Γ Rs X Z0 Z Hl D (.If c a [] pos :: rest) := xs_if hc (fun q => Bool.noConfusion q) fun _ => xs_then h
/-- a, b = x, y -/
theorem xs_par (i j : Nat) {x y : Str} {a b : Expr} {P Q : Pd} {px py pt : Pos} {kt k2 pt2} {pos : Pos} (ha : XA M Γ Rs X [a, b] [P, Q]) (h : XS M ((Γ.set i (some P)).set j (some Q)) Rs X Z0 Z Hl D rest) (hN : X.N.Nodup) (hc : X.calm = true := by rfl) (hi : X.N[i]? = some x := by rfl) (hj : X.N[j]? = some y := by rfl) (hij : i ≠ j := by decide)
    (hx : X.env.scope.names.lookup x = some .local := by rfl) (hy : X.env.scope.names.lookup y = some .local := by rfl) (hw : swappedStores [.Tuple [.Name x px, .Name y py] kt pt] (.Tuple [a, b] k2 pt2) X.env = pure (some [x, y]) := by rfl)
    (hs : swapsWithSole [.Tuple [.Name x px, .Name y py] kt pt] (.Tuple [a, b] k2 pt2) pos.line X.env = pure false := by rfl) : XS M Γ Rs X Z0 Z Hl D (.Assign [.Tuple [.Name x px, .Name y py] kt pt] (.Tuple [a, b] k2 pt2) pos :: rest) :=
  xs_cons (ps_par hc hN hi hj hij hx hy pa_wp hw hs) fun σ H0 H l s b k => ha σ H0 H l s.le k _ fun vs H1 G1 s1 k1 a1 => by
    obtain ⟨v, r, e1, h1, h2⟩ := a1.inv
    obtain ⟨w, r', e2, h3, h4⟩ := h2.inv
    have e3 := h4.nil_inv
    subst e1 e2 e3
    exact ⟨v, w, rfl, h _ H1 G1 (((l.ex s1.ex).set h1).set h3) (s.trans s1) (b.trans s1.ex) k1⟩

/-! ### loops -/
/-- an iterator that gives the things Qs, one after another -/
def Wk (J : It) (Qs : List Pd) (H0 : Hp) : Prop := ∀ H0' H, Ex H0 H0' → Ex H0' H → ∀ i,
  (∀ Q, Qs[i]? = some Q → J.go i H ∧ ∀ x H', J.yld i H x H' → ∃ H0'', Step M0 H0' H H0'' H' ∧ Q.p x H0'') ∧ (Qs.length = i → J.stop i H)
def XI (M : Addr → Prop) (Γ : Ct) (Rs : List Res) (X : Cx) (tg iter : Expr) (Qs : List Pd) : Prop :=
  ∀ (σ : L2.St) (H0 H : Hp), Sl Γ σ H0 → Ex H0 H → Rok Rs H0 H → ∀ R : It → Hp → Prop, (∀ J H0' H', Step M H0 H H0' H' → Rok Rs H0' H' → Wk J Qs H0' → R J H') → wpI X tg iter σ H R
/-- what the target makes of a Q -/
def XG (X : Cx) (tg : Expr) (Q : Pd) (Γ Γ' : Ct) : Prop := ∃ g, PG X tg g ∧ ∀ (v : V) (σ : L2.St) (H0 H : Hp), Sl Γ σ H0 → Ex H0 H → Q.p v H0 → ∀ R : L2.St → Hp → Prop, (∀ σ', Sl Γ' σ' H0 → R σ' H) → g v σ H R
/-- a loop's word: in which contexts a turn may begin -/
structure KJ (M : Addr → Prop) (Z0 Z Hs : Hp) (J : Nat → Ct → List Res → Prop) (i : Nat) (σ : L2.St) (H : Hp) : Prop where
  is : ∃ Γ Rs H0, J i Γ Rs ∧ Ex Hs H0 ∧ Sl Γ σ H0 ∧ Step M Z0 Z H0 H ∧ Rok Rs H0 H
end
end Lh
namespace Lh
open PySem L2
open Evl (Ex ex_l ex_t ex_rd fresh_back)
section
variable {M : Addr → Prop} {Γ Γ' : Ct} {Rs : List Res} {X : Cx} {Z0 Z Hl : Hp} {D : Ends} {K : PySem.W.Frag} {rest : List Stmt}
theorem KJ.mono {Hs Hs' : Hp} {J : Nat → Ct → List Res → Prop} {i : Nat} {σ : L2.St} {H : Hp} (e : Ex Hs Hs') (h : KJ M Z0 Z Hs' J i σ H) : KJ M Z0 Z Hs J i σ H := by
  obtain ⟨Γ, Rs, H0, h1, h2, h3⟩ := h
  exact ⟨Γ, Rs, H0, h1, e.trans h2, h3⟩
/-- for tg in iter: body; rest. J: the loop's word, by the turn -/
theorem xs_for {tg iter : Expr} {body : List Stmt} {Qs : List Pd} {pos : Pos} (hp : PassesOwn (model X.prog X.w) X.A X.env X.xe) (hi : XI M Γ Rs X tg iter Qs) (J : Nat → Ct → List Res → Prop) (h0 : J 0 Γ Rs)
    (hg : ∃ g, PG X tg g ∧ ∀ (i : Nat) (Q : Pd) (Γ1 : Ct) (Rs1 : List Res), Qs[i]? = some Q → J i Γ1 Rs1 → ∃ Γ2, (∀ (v : V) (σ : L2.St) (H0 H : Hp), Sl Γ1 σ H0 → Ex H0 H → Q.p v H0 → ∀ R : L2.St → Hp → Prop, (∀ σ', Sl Γ2 σ' H0 → R σ' H) → g v σ H R) ∧
      ∀ Hs, XS M Γ2 Rs1 X Z0 Z Hs { D with nx := KJ M Z0 Z Hs J (i + 1), ct := KJ M Z0 Z Hs J (i + 1), bk := wpB X rest D } body)
    (hd : ∀ Γ1 Rs1, J Qs.length Γ1 Rs1 → XS M Γ1 Rs1 X Z0 Z Hl D rest) (hc : X.calm = true := by rfl) (hs : ∀ x, foldedSetIterable iter X.env x = pure x := by intro _; rfl) : XS M Γ Rs X Z0 Z Hl D (.For tg iter body [] pos :: rest) := by
  obtain ⟨g, hg, hb⟩ := hg
  refine xs_cons (ps_for hp hc pi_wp hg pss_wp hs) fun σ H0 H l s b k => hi σ H0 H l s.le k _ fun I H1 G1 s1 k1 wk => ?_
  refine ⟨fun i m σ' G => m = Qs.length - i ∧ i ≤ Qs.length ∧ KJ M Z0 Z H1 J i σ' G, ⟨_, rfl, Nat.zero_le _, Γ, Rs, H1, h0, Ex.refl _, l.ex s1.ex, s.trans s1, k1⟩, ?_⟩
  rintro i m σ' G ⟨rfl, hi', Γ1, Rs1, H2, j, e2, l2, s2, k2⟩
  have w := wk H2 G e2 s2.le i
  by_cases hlt : i < Qs.length
  · obtain ⟨go, yl⟩ := w.1 _ (List.getElem?_eq_getElem hlt)
    refine .inr ⟨go, KJ M Z0 Z H1 J (i + 1), fun σ3 G3 h3 => ⟨Qs.length - (i + 1), by omega, rfl, hlt, h3⟩, fun x G3 y => ?_⟩
    obtain ⟨H3, s3, hx⟩ := yl x G3 y
    obtain ⟨Γ2, hv, hbody⟩ := hb i _ Γ1 Rs1 (List.getElem?_eq_getElem hlt) j
    refine hv x σ' H3 G3 (l2.ex s3.ex) s3.le hx _ fun σ4 l4 => ?_
    have hb2 := hbody H1 σ4 H3 G3 l4 (s2.trans s3.of0) (e2.trans s3.ex) (k2.step0 s3)
    exact hb2
  · have e : i = Qs.length := by omega
    subst e
    exact .inl ⟨w.2 rfl, hd Γ1 Rs1 j σ' H2 G l2 s2 ((b.trans s1.ex).trans e2) k2⟩
/-- at a turn's end -/
theorem xs_turn {J : Nat → Ct → List Res → Prop} {i : Nat} {Hs : Hp} {Γ1 : Ct} {Rs1 : List Res} (hn : ∀ σ H, KJ M Z0 Z Hs J i σ H → D.nx σ H) (h : J i Γ1 Rs1) : XS M Γ1 Rs1 X Z0 Z Hs D [] :=
  xs_nil fun σ H0 H l s b k => hn σ H ⟨Γ1, Rs1, H0, h, b, l, s, k⟩

/-! ### while -/
theorem xs_while {c : Expr} {body : List Stmt} {pos : Pos} (hp : PassesOwn (model X.prog X.w) X.A X.env X.xe) (J : Nat → Ct → List Res → Prop) (m0 : Nat) (h0 : J m0 Γ Rs)
    (hs : ∀ m Γ1 Rs1, J m Γ1 Rs1 → ∃ B, XT M Γ1 Rs1 X c B ∧ (B true → ∀ Hs, XS M Γ1 Rs1 X Z0 Z Hs { D with nx := fun σ H => ∃ m', m' < m ∧ KJ M Z0 Z Hs J m' σ H, ct := fun σ H => ∃ m', m' < m ∧ KJ M Z0 Z Hs J m' σ H, bk := wpB X rest D } body) ∧
      (B false → XS M Γ1 Rs1 X Z0 Z Hl D rest)) : XS M Γ Rs X Z0 Z Hl D (.While c body [] pos :: rest) := by
  refine xs_cons (ps_while hp pt_wp pss_wp) fun σ H0 H l s b k => ?_
  refine ⟨fun m σ' G => KJ M Z0 Z H0 J m σ' G, ⟨m0, Γ, Rs, H0, h0, Ex.refl _, l, s, k⟩, ?_⟩
  rintro m σ' G ⟨Γ1, Rs1, H2, j, e2, l2, s2, k2⟩
  obtain ⟨B, ht, hy, hn⟩ := hs m Γ1 Rs1 j
  refine ht σ' H2 G l2 s2.le k2 _ fun d H3 G3 s3 k3 hd => ?_
  cases d with
  | true =>
    refine ⟨fun σ3 G3 => ∃ m', m' < m ∧ KJ M Z0 Z H0 J m' σ3 G3, fun σ3 G3 h3 => h3, ?_⟩
    have q := hy hd H0 σ' H3 G3 (l2.ex s3.ex) (s2.trans s3) (e2.trans s3.ex) k3
    exact q
  | false => exact hn hd σ' H3 G3 (l2.ex s3.ex) (s2.trans s3) ((b.trans e2).trans s3.ex) k3
theorem xs_turnW {J : Nat → Ct → List Res → Prop} {m m' : Nat} {Hs : Hp} {Γ1 : Ct} {Rs1 : List Res} (hn : ∀ σ H, (∃ m', m' < m ∧ KJ M Z0 Z Hs J m' σ H) → D.nx σ H) (hm : m' < m) (h : J m' Γ1 Rs1) : XS M Γ1 Rs1 X Z0 Z Hs D [] :=
  xs_nil fun σ H0 H l s b k => hn σ H ⟨m', hm, Γ1, Rs1, H0, h, b, l, s, k⟩

/-! ### what a for goes over -/
theorem wk_list {a : Addr} {xs : List V} {ds : List PyData} {H0 : Hp} (h : SqL K H0 a xs) (hd : DdAll K H0 ds xs) : Wk (Itl K a) (ds.map (PD K)) H0 := fun H0' H e e' i => by
  refine ⟨fun Q q => ?_, fun q => ⟨xs, ex_l (e.trans e') h, by rw [hd.len]; exact Nat.le_of_eq (by simpa using q)⟩⟩
  rw [List.getElem?_map] at q
  cases hi : ds[i]? with
  | none =>
    rw [hi] at q
    cases q
  | some d =>
    rw [hi] at q
    have e1 : PD K d = Q := Option.some.inj q
    subst e1
    obtain ⟨v, h1, h2⟩ := hd.get hi
    refine ⟨⟨xs, v, ex_l (e.trans e') h, h1⟩, fun x H' ⟨y1, y2⟩ => ?_⟩
    have e2 : x = v := Option.some.inj ((y2 xs (ex_l (e.trans e') h)).symm.trans h1)
    subst e2 y1
    exact ⟨H0', Step.rfl e', Dd.ex e _ _ h2⟩
theorem wk_tup {a : Addr} {xs : List V} {ds : List PyData} {H0 : Hp} (h : SqT K H0 a xs) (hd : DdAll K H0 ds xs) : Wk (Itt K a) (ds.map (PD K)) H0 := fun H0' H e e' i => by
  refine ⟨fun Q q => ?_, fun q => ⟨xs, ex_t (e.trans e') h, by rw [hd.len]; exact Nat.le_of_eq (by simpa using q)⟩⟩
  rw [List.getElem?_map] at q
  cases hi : ds[i]? with
  | none =>
    rw [hi] at q
    cases q
  | some d =>
    rw [hi] at q
    have e1 : PD K d = Q := Option.some.inj q
    subst e1
    obtain ⟨v, h1, h2⟩ := hd.get hi
    refine ⟨⟨xs, v, ex_t (e.trans e') h, h1⟩, fun x H' ⟨y1, y2⟩ => ?_⟩
    have e2 : x = v := Option.some.inj ((y2 xs (ex_t (e.trans e') h)).symm.trans h1)
    subst e2 y1
    exact ⟨H0', Step.rfl e', Dd.ex e _ _ h2⟩
/-- lo, lo + 1, .. -/
def rgI (lo : Int) (n : Nat) : List Int := (List.range n).map fun (i : Nat) => lo + (i : Int)
theorem wk_range {lo : Int} {n : Nat} {H0 : Hp} : Wk (Itr lo n) ((li (rgI lo n)).map (PD K)) H0 := fun H0' H e e' i => by
  refine ⟨fun Q q => ?_, fun q => (show n ≤ i from Nat.le_of_eq (by simpa [rgI, li] using q))⟩
  by_cases hi : i < n
  · refine ⟨hi, fun x H' ⟨y1, y2⟩ => ?_⟩
    have e1 : PD K (.int (lo + (i : Int))) = Q := by simpa [rgI, li, hi] using q
    subst e1 y1
    exact ⟨H0', Step.rfl e', y2⟩
  · simp [rgI, li, hi] at q
theorem wk_rev {a : Addr} {xs : List V} {ds : List PyData} {H0 : Hp} (h : SqL K H0 a xs) (hd : DdAll K H0 ds xs) : Wk (Itv K a xs.length) (ds.reverse.map (PD K)) H0 := fun H0' H e e' i => by
  have hl := hd.len
  refine ⟨fun Q q => ?_, fun q => by show xs.length ≤ i; rw [hl]; exact Nat.le_of_eq (by simpa using q)⟩
  have hlt : i < ds.length := by
    have := (List.getElem?_eq_some_iff.mp q).1
    simpa using this
  have hi : ds[xs.length - 1 - i]? = some (ds[xs.length - 1 - i]'(by omega)) := List.getElem?_eq_getElem _
  have e1 : PD K (ds[xs.length - 1 - i]'(by omega)) = Q := by
    rw [List.getElem?_map, List.getElem?_reverse hlt] at q
    have e3 : ds.length - 1 - i = xs.length - 1 - i := by omega
    rw [e3, hi] at q
    exact Option.some.inj q
  subst e1
  obtain ⟨v, h1, h2⟩ := hd.get hi
  refine ⟨⟨by omega, xs, v, ex_l (e.trans e') h, h1⟩, fun x H' ⟨y1, y2⟩ => ?_⟩
  have e2 : x = v := Option.some.inj ((y2 xs (ex_l (e.trans e') h)).symm.trans h1)
  subst e2 y1
  exact ⟨H0', Step.rfl e', Dd.ex e _ _ h2⟩
/-- pairs in new tuples -/
def PT2 (K : PySem.W.Frag) (P Q : Pd) : Pd := ⟨fun v H => ∃ a x y, v = .ref a ∧ SqT K H a [x, y] ∧ P.p x H ∧ Q.p y H, fun e ⟨a, x, y, h1, h2, h3, h4⟩ => ⟨a, x, y, h1, ex_t e h2, P.m e h3, Q.m e h4⟩⟩
theorem wk_enum {a : Addr} {xs : List V} {ds : List PyData} {H0 : Hp} (h : SqL K H0 a xs) (hd : DdAll K H0 ds xs) : Wk (Ite K a) ((List.range ds.length).zipWith (fun i d => PT2 K (PD K (.int (i : Nat))) (PD K d)) ds) H0 := fun H0' H e e' i => by
  refine ⟨fun Q q => ?_, fun q => ⟨xs, ex_l (e.trans e') h, by rw [hd.len]; exact Nat.le_of_eq (by simpa using q)⟩⟩
  have hlt : i < ds.length := by
    have := (List.getElem?_eq_some_iff.mp q).1
    simpa using this
  have e1 : PT2 K (PD K (.int (i : Nat))) (PD K ds[i]) = Q := by
    simpa [List.getElem?_zipWith, hlt] using q
  subst e1
  obtain ⟨v, h1, h2⟩ := hd.get (List.getElem?_eq_getElem hlt)
  refine ⟨⟨xs, v, ex_l (e.trans e') h, h1⟩, fun x H' ⟨T, y, y1, y2, y3, y4⟩ => ?_⟩
  have e2 : y = v := Option.some.inj ((y4 xs (ex_l (e.trans e') h)).symm.trans h1)
  subst e2 y1 y3
  exact ⟨upd H0' T (.tup [.int (i : Nat), y]), Step.new e' y2, T, _, _, rfl, SqT.of upd_same, rfl, Dd.ex (e.trans (Ex.new (fresh_back e' y2))) _ _ h2⟩
theorem wk_zip {a b : Addr} {xs ys : List V} {ds es : List PyData} {H0 : Hp} (h : SqL K H0 a xs) (hd : DdAll K H0 ds xs) (h' : SqL K H0 b ys) (hd' : DdAll K H0 es ys) : Wk (Itz K a b) (ds.zipWith (fun d e => PT2 K (PD K d) (PD K e)) es) H0 := fun H0' H e e' i => by
  have l1 := hd.len
  have l2 := hd'.len
  refine ⟨fun Q q => ?_, fun q => ⟨xs, ys, ex_l (e.trans e') h, ex_l (e.trans e') h', by rw [List.length_zipWith] at q; omega⟩⟩
  have hlt : i < ds.length ∧ i < es.length := by
    have := (List.getElem?_eq_some_iff.mp q).1
    rw [List.length_zipWith] at this
    omega
  have e1 : PT2 K (PD K (ds[i]'hlt.1)) (PD K (es[i]'hlt.2)) = Q := by
    simpa [List.getElem?_zipWith, hlt.1, hlt.2] using q
  subst e1
  obtain ⟨v, h1, h2⟩ := hd.get (List.getElem?_eq_getElem hlt.1)
  obtain ⟨u, h3, h4⟩ := hd'.get (List.getElem?_eq_getElem hlt.2)
  refine ⟨⟨xs, ys, v, u, ex_l (e.trans e') h, ex_l (e.trans e') h', h1, h3⟩, fun x H' ⟨T, y, z, y1, y2, y3, y4, y5⟩ => ?_⟩
  have e2 : y = v := Option.some.inj ((y4 xs (ex_l (e.trans e') h)).symm.trans h1)
  have e3 : z = u := Option.some.inj ((y5 ys (ex_l (e.trans e') h')).symm.trans h3)
  subst e2 e3 y1 y3
  have x2 := e.trans (Ex.new (o := .tup [y, z]) (fresh_back e' y2))
  exact ⟨upd H0' T (.tup [y, z]), Step.new e' y2, T, _, _, rfl, SqT.of upd_same, Dd.ex x2 _ _ h2, Dd.ex x2 _ _ h4⟩
theorem xi_list {tg e : Expr} {ds : List PyData} (h : XE M Γ Rs X e (PD X.K (.list ds))) : XI M Γ Rs X tg e (ds.map (PD X.K)) := fun σ H0 H l ex k R r => PI.wp (pi_list pe_wp) (h σ H0 H l ex k _ fun v H1 G1 s1 k1 ⟨a, xs, e1, h1, h2⟩ =>
  ⟨a, e1, ⟨xs, ex_l s1.le (SqL.of h1)⟩, r _ H1 G1 s1 k1 (wk_list (SqL.of h1) h2)⟩)
theorem xi_tup {tg e : Expr} {ds : List PyData} (h : XE M Γ Rs X e (PD X.K (.tuple ds))) : XI M Γ Rs X tg e (ds.map (PD X.K)) := fun σ H0 H l ex k R r => PI.wp (pi_tup pe_wp) (h σ H0 H l ex k _ fun v H1 G1 s1 k1 ⟨a, xs, e1, h1, h2⟩ =>
  ⟨a, e1, ⟨xs, ex_t s1.le h1⟩, r _ H1 G1 s1 k1 (wk_tup h1 h2)⟩)
theorem xi_range1 {tg a : Expr} {p pos : Pos} {n : Int} (hm : X.mg "range" = none) (h : XE M Γ Rs X a (PD K (.int n))) (hn : -(2 ^ 62) ≤ n ∧ n < 2 ^ 62) (hg : Gl X "range" := by rfl) (hs : starEach [a] X.env = [(false, eval a X.env)] := by rfl) :
    XI M Γ Rs X tg (.Call (.Name "range" p) [a] [] pos) ((li (rgI 0 n.toNat)).map (PD K)) := fun σ H0 H l ex k R r => PI.wp (pi_range1 hg hm pa_wp hs) ((xa_1 (by exact h) (by exact hs)) σ H0 H l ex k _ fun vs H1 G1 s1 k1 a1 => by
  obtain ⟨v, w, e1, h1, h2⟩ := a1.inv
  have e2 := h2.nil_inv
  subst e1 e2
  have e3 : v = .int n := h1
  subst e3
  exact ⟨n, rfl, hn.1, hn.2, r _ H1 G1 s1 k1 wk_range⟩)
theorem xi_range2 {tg a b : Expr} {p pos : Pos} {lo n : Int} (hm : X.mg "range" = none) (h : XE M Γ Rs X a (PD K (.int lo))) (h' : XE M Γ Rs X b (PD K (.int n))) (hn : -(2 ^ 62) ≤ lo ∧ lo < 2 ^ 62 ∧ -(2 ^ 62) ≤ n ∧ n < 2 ^ 62) (hg : Gl X "range" := by rfl)
    (hs : starEach [a, b] X.env = [(false, eval a X.env), (false, eval b X.env)] := by rfl) (hs2 : starEach [b] X.env = [(false, eval b X.env)] := by rfl) :
    XI M Γ Rs X tg (.Call (.Name "range" p) [a, b] [] pos) ((li (rgI lo (n - lo).toNat)).map (PD K)) := fun σ H0 H l ex k R r => PI.wp (pi_range2 hg hm pa_wp hs hs2) ((xa_cons h (xa_1 h' (by exact hs2)) (by rw [hs, hs2])) σ H0 H l ex k _ fun vs H1 G1 s1 k1 a1 => by
  obtain ⟨v, w, e1, h1, h2⟩ := a1.inv
  obtain ⟨u, w', e4, h3, h4⟩ := h2.inv
  have e2 := h4.nil_inv
  subst e1 e4 e2
  have e3 : v = .int lo := h1
  have e5 : u = .int n := h3
  subst e3 e5
  exact ⟨lo, n, rfl, hn, r _ H1 G1 s1 k1 wk_range⟩)
theorem xi_rev {tg e : Expr} {p pos : Pos} {ds : List PyData} (hm : X.mg "reversed" = none) (h : XE M Γ Rs X e (PD X.K (.list ds))) (hg : Gl X "reversed" := by rfl) (hs : starEach [e] X.env = [(false, eval e X.env)] := by rfl) :
    XI M Γ Rs X tg (.Call (.Name "reversed" p) [e] [] pos) (ds.reverse.map (PD X.K)) := fun σ H0 H l ex k R r => PI.wp (pi_reversed hg hm pa_wp hs) ((xa_1 h (by exact hs)) σ H0 H l ex k _ fun vs H1 G1 s1 k1 a1 => by
  obtain ⟨v, w, e1, ⟨a, xs, e3, h3, h4⟩, h2⟩ := a1.inv
  have e2 := h2.nil_inv
  subst e1 e2 e3
  exact ⟨a, xs, rfl, ex_l s1.le (SqL.of h3), r _ H1 G1 s1 k1 (wk_rev (SqL.of h3) h4)⟩)
theorem xi_enum {e : Expr} {p pos tpos : Pos} {elts : List Expr} {kk : Nat} {ds : List PyData} (hm : X.mg "enumerate" = none) (h : XE M Γ Rs X e (PD X.K (.list ds))) (hg : Gl X "enumerate" := by rfl) (hs : starEach [e] X.env = [(false, eval e X.env)] := by rfl) :
    XI M Γ Rs X (.Tuple elts kk tpos) (.Call (.Name "enumerate" p) [e] [] pos) ((List.range ds.length).zipWith (fun i d => PT2 X.K (PD X.K (.int (i : Nat))) (PD X.K d)) ds) := fun σ H0 H l ex k R r => PI.wp (pi_enum hg hm pa_wp hs) ((xa_1 h (by exact hs)) σ H0 H l ex k _ fun vs H1 G1 s1 k1 a1 => by
  obtain ⟨v, w, e1, ⟨a, xs, e3, h3, h4⟩, h2⟩ := a1.inv
  have e2 := h2.nil_inv
  subst e1 e2 e3
  exact ⟨a, xs, rfl, ex_l s1.le (SqL.of h3), r _ H1 G1 s1 k1 (wk_enum (SqL.of h3) h4)⟩)
theorem xi_zip {e e2 : Expr} {p pos tpos : Pos} {elts : List Expr} {kk : Nat} {ds es : List PyData} (hm : X.mg "zip" = none) (h : XE M Γ Rs X e (PD X.K (.list ds))) (h' : XE M Γ Rs X e2 (PD X.K (.list es))) (hg : Gl X "zip" := by rfl)
    (hs : starEach [e, e2] X.env = (false, eval e X.env) :: starEach [e2] X.env := by rfl) (hpl : (backTo pos (starEach [e2] X.env)).any (·.1) = false := by rfl) (hs2 : starEach [e2] X.env = (false, eval e2 X.env) :: starEach [] X.env := by rfl) :
    XI M Γ Rs X (.Tuple elts kk tpos) (.Call (.Name "zip" p) [e, e2] [] pos) (ds.zipWith (fun d e => PT2 X.K (PD X.K d) (PD X.K e)) es) := fun σ H0 H l ex k R r => PI.wp (pi_zip hg hm pa_wp hs hpl) ((xa_cons h (xa_1 h' hs2) hs) σ H0 H l ex k _ fun vs H1 G1 s1 k1 a1 => by
  obtain ⟨v, w, e1, ⟨a, xs, e3, h3, h4⟩, h2⟩ := a1.inv
  obtain ⟨u, w', e5, ⟨b, ys, e6, h6, h7⟩, h8⟩ := h2.inv
  have e2 := h8.nil_inv
  subst e1 e5 e2 e3 e6
  exact ⟨a, b, xs, ys, rfl, ex_l s1.le (SqL.of h3), ex_l s1.le (SqL.of h6), r _ H1 G1 s1 k1 (wk_zip (SqL.of h3) h4 (SqL.of h6) h7)⟩)
/-! ### targets -/
abbrev GV (g : TG) (Q : Pd) (Γ1 Γ2 : Ct) : Prop := ∀ (v : V) (σ : L2.St) (H0 H : Hp), Sl Γ1 σ H0 → Ex H0 H → Q.p v H0 → ∀ R : L2.St → Hp → Prop, (∀ σ', Sl Γ2 σ' H0 → R σ' H) → g v σ H R
theorem gv_name {i : Nat} {Q : Pd} : GV (gName i) Q Γ (Γ.set i (some Q)) := fun v σ H0 H l e h R r => r _ (l.set h)
theorem gv_pair {i j : Nat} {P Q : Pd} : GV (gTup K 2 (gCons (gName i) (gCons (gName j) gNil))) (PT2 K P Q) Γ ((Γ.set i (some P)).set j (some Q)) := fun v σ H0 H l e ⟨a, x, y, h1, h2, h3, h4⟩ R r =>
  ⟨a, [x, y], h1, ex_t e h2, rfl, x, [y], rfl, y, [], rfl, rfl, r _ ((l.set h3).set h4)⟩
/-- for x in iter, x the i-th name -/
theorem xs_forN (i : Nat) {x : Str} {iter : Expr} {body : List Stmt} {Qs : List Pd} {pos xp : Pos} (hi : XI M Γ Rs X (.Name x xp) iter Qs) (J : Nat → Ct → List Res → Prop) (h0 : J 0 Γ Rs)
    (hb : ∀ (t : Nat) (Q : Pd) (Γ1 : Ct) (Rs1 : List Res), Qs[t]? = some Q → J t Γ1 Rs1 → ∀ Hs, XS M (Γ1.set i (some Q)) Rs1 X Z0 Z Hs { D with nx := KJ M Z0 Z Hs J (t + 1), ct := KJ M Z0 Z Hs J (t + 1), bk := wpB X rest D } body)
    (hd : ∀ Γ1 Rs1, J Qs.length Γ1 Rs1 → XS M Γ1 Rs1 X Z0 Z Hl D rest) (hN : X.N.Nodup) (hp : PassesOwn (model X.prog X.w) X.A X.env X.xe := by exact PassesOwn.never) (hx : X.N[i]? = some x := by rfl) (hl : Loc X.env.scope x := by first | exact Or.inl rfl | exact Or.inr rfl)
    (hf : X.fn x = true ∨ X.env.scope.names.lookup x = some .local := by first | exact .inl rfl | exact .inr rfl) (hc : X.calm = true := by rfl) (hs : ∀ x, foldedSetIterable iter X.env x = pure x := by intro _; rfl) : XS M Γ Rs X Z0 Z Hl D (.For (.Name x xp) iter body [] pos :: rest) :=
  xs_for hp hi J h0 ⟨gName i, pg_name hN hx hl hf, fun t Q Γ1 Rs1 hq j => ⟨_, gv_name, hb t Q Γ1 Rs1 hq j⟩⟩ hd hc hs
/-- for x, y in iter -/
theorem xs_forP (i j : Nat) {x y : Str} {iter : Expr} {body : List Stmt} {pos xp yp tp : Pos} {kt : Nat} {Qs : List Pd} (hi : XI M Γ Rs X (.Tuple [.Name x xp, .Name y yp] kt tp) iter Qs) (J : Nat → Ct → List Res → Prop) (h0 : J 0 Γ Rs)
    (hb : ∀ (t : Nat) (Q : Pd) (Γ1 : Ct) (Rs1 : List Res), Qs[t]? = some Q → J t Γ1 Rs1 → ∃ P1 P2, Q = PT2 X.K P1 P2 ∧ ∀ Hs, XS M ((Γ1.set i (some P1)).set j (some P2)) Rs1 X Z0 Z Hs { D with nx := KJ M Z0 Z Hs J (t + 1), ct := KJ M Z0 Z Hs J (t + 1), bk := wpB X rest D } body)
    (hd : ∀ Γ1 Rs1, J Qs.length Γ1 Rs1 → XS M Γ1 Rs1 X Z0 Z Hl D rest) (hN : X.N.Nodup) (hp : PassesOwn (model X.prog X.w) X.A X.env X.xe := by exact PassesOwn.never) (hx : X.N[i]? = some x := by rfl) (hy : X.N[j]? = some y := by rfl) (hl : Loc X.env.scope x := by first | exact Or.inl rfl | exact Or.inr rfl) (hl2 : Loc X.env.scope y := by first | exact Or.inl rfl | exact Or.inr rfl)
    (hf : X.fn x = true ∨ X.env.scope.names.lookup x = some .local := by first | exact .inl rfl | exact .inr rfl) (hf2 : X.fn y = true ∨ X.env.scope.names.lookup y = some .local := by first | exact .inl rfl | exact .inr rfl) (hc : X.calm = true := by rfl) (hs : ∀ x, foldedSetIterable iter X.env x = pure x := by intro _; rfl) :
    XS M Γ Rs X Z0 Z Hl D (.For (.Tuple [.Name x xp, .Name y yp] kt tp) iter body [] pos :: rest) :=
  xs_for hp hi J h0 ⟨_, pg_tup hc (pgs_cons (pg_name hN hx hl hf) (pgs_cons (pg_name hN hy hl2 hf2) pgs_nil)), fun t Q Γ1 Rs1 hq j => by
    obtain ⟨P1, P2, e, h⟩ := hb t Q Γ1 Rs1 hq j
    subst e
    exact ⟨_, gv_pair, h⟩⟩ hd hc hs
end
end Lh
namespace Lh
open PySem L2
open Evl (Ex ex_l ex_t ex_rd fresh_back)
/-! ### calls of defs -/
/-- a promise: from things as pre tells, the lists Rs at hand, a thing as post tells; what is in M may have changed -/
def SpF {α : Type} (M : α → Addr → Prop) (Rs : α → List Res) (pre : α → List Pd) (post : α → Pd) : Sp := fun vs H Q _ => ∃ (x : α) (H0 : Hp), Ex H0 H ∧ Rok (Rs x) H0 H ∧ DAll (pre x) vs H0 ∧
  ∀ v H0' H', Step (M x) H0 H H0' H' → Rok (Rs x) H0' H' → (post x).p v H0' → Q v H'
abbrev SpP {α : Type} (pre : α → List Pd) (post : α → Pd) : Sp := SpF (fun _ => M0) (fun _ => []) pre post
theorem Rok.mem {Rs : List Res} {H0 H : Hp} (k : Rok Rs H0 H) {r : Res} (h : r ∈ Rs) : r.p H0 H := k.2 r h
section
variable {M : Addr → Prop} {Γ Γ' : Ct} {Rs : List Res} {X : Cx} {Z0 Z Hl : Hp} {D : Ends} {K : PySem.W.Frag} {rest : List Stmt}
theorem sp_use {α : Type} {pre : α → List Pd} {post : α → Pd} {vs : List V} {H0 H : Hp} {Q : VK} {E : XK} (x : α) (e : Ex H0 H) (h : DAll (pre x) vs H0) (q : ∀ v H0' H', Step M0 H0 H H0' H' → (post x).p v H0' → Q v H') : SpP pre post vs H Q E :=
  ⟨x, H0, e, Rok.nil, h, fun v H0' H' s _ p => q v H0' H' s p⟩
/-- a call of a def that changes nothing -/
theorem xe_call {P' : Program} {w' : World} {K' : PySem.W.Frag} {mg' : Str → Option Value} {base' : Heap} {α : Type} {pre : α → List Pd} {post : α → Pd} {x : Str} {f : Addr} {fd : FuncData} {ps : List Str} {k : Nat} {e : Expr} {es : List Expr} {p pos : Pos} {Ps : List Pd} {C : Pd} (F : FnOk P' w' K' mg' base' CX0 k f fd ps (SpP pre post)) (hr : Room k X.A) (hm : mg' x = some (.ref f)) (hk : PySem.W.keepIn K' (.ref f) = true)
    (hb : Binds K' fd ps []) (ha : XA M Γ Rs X (e :: es) Ps) (hx : ∀ vs H, DAll Ps vs H → ∃ y, DAll (pre y) vs H ∧ ∀ v H, (post y).p v H → C.p v H) (hg : Gl X x := by rfl) (hdb : (x == ("__debug__" : Str)) = false := by decide)
    (he : starEach (e :: es) X.env = (false, eval e X.env) :: starEach es X.env := by rfl)
    (hpl : (backTo pos (starEach es X.env)).any (·.1) = false := by rfl) (eP : X.prog = P' := by rfl) (ew : X.w = w' := by rfl) (eK : X.K = K' := by rfl) (em : X.mg = mg' := by rfl) (eb : X.base = base' := by rfl) : XE M Γ Rs X (.Call (.Name x p) (e :: es) [] pos) C := by
  subst eP ew eK em eb
  exact YE.wp (pe_call F hr hg hm hk hb (dvs := []) .nil pass0 pa_wp hdb he hpl) fun σ H0 H l ex r Q q => ha σ H0 H l ex r _ fun vs H1 G1 s1 r1 a1 => by
    obtain ⟨y, h1, h2⟩ := hx vs H1 a1
    refine ⟨y, H1, s1.le, Rok.nil, by rw [List.append_nil]; exact h1, fun v H2 G2 s2 _ p2 => q v H2 G2 (s1.trans (s2.imp fun _ z => z.elim)) (r1.step0 s2) (h2 v H2 p2)⟩
theorem xe_callD {P' : Program} {w' : World} {K' : PySem.W.Frag} {mg' : Str → Option Value} {base' : Heap} {α : Type} {pre : α → List Pd} {post : α → Pd} {x : Str} {f : Addr} {fd : FuncData} {ps : List Str} {k : Nat} {e : Expr} {es : List Expr} {p pos : Pos} (F : FnOk P' w' K' mg' base' CX0 k f fd ps (SpP pre post)) (y : α) (hr : Room k X.A)
    (hm : mg' x = some (.ref f)) (hk : PySem.W.keepIn K' (.ref f) = true) (hb : Binds K' fd ps []) (ha : XA M Γ Rs X (e :: es) (pre y)) (hg : Gl X x := by rfl) (hdb : (x == ("__debug__" : Str)) = false := by decide)
    (he : starEach (e :: es) X.env = (false, eval e X.env) :: starEach es X.env := by rfl)
    (hpl : (backTo pos (starEach es X.env)).any (·.1) = false := by rfl)
    (eP : X.prog = P' := by rfl) (ew : X.w = w' := by rfl) (eK : X.K = K' := by rfl) (em : X.mg = mg' := by rfl) (eb : X.base = base' := by rfl) : XE M Γ Rs X (.Call (.Name x p) (e :: es) [] pos) (post y) :=
  xe_call F hr hm hk hb ha (fun vs H h => ⟨y, h, fun _ _ h => h⟩) hg hdb he hpl eP ew eK em eb
/-- a call of a def that changes the lists R1 (within M1), the first of those at hand -/
theorem xe_callM {P' : Program} {w' : World} {K' : PySem.W.Frag} {mg' : Str → Option Value} {base' : Heap} {α : Type} {M1 : α → Addr → Prop} {R1 : α → List Res} {pre : α → List Pd} {post : α → Pd} {x : Str} {f : Addr} {fd : FuncData} {ps : List Str} {k : Nat} {e : Expr} {es : List Expr} {p pos : Pos} {Ps : List Pd} {C : Pd} {r1 : Res} {Rs2 : List Res} (F : FnOk P' w' K' mg' base' CX0 k f fd ps (SpF M1 R1 pre post)) (hr : Room k X.A)
    (hm : mg' x = some (.ref f)) (hk : PySem.W.keepIn K' (.ref f) = true) (hb : Binds K' fd ps []) (ha : XA M Γ (r1 :: Rs2) X (e :: es) Ps) (hx : ∀ vs H, DAll Ps vs H → ∃ y, DAll (pre y) vs H ∧ R1 y = [r1] ∧ (∀ a, M1 y a → M a) ∧ (∀ a, M1 y a → a ∈ r1.ad) ∧ ∀ v H, (post y).p v H → C.p v H)
    (hg : Gl X x := by rfl) (hdb : (x == ("__debug__" : Str)) = false := by decide) (he : starEach (e :: es) X.env = (false, eval e X.env) :: starEach es X.env := by rfl) (hpl : (backTo pos (starEach es X.env)).any (·.1) = false := by rfl) (eP : X.prog = P' := by rfl) (ew : X.w = w' := by rfl) (eK : X.K = K' := by rfl) (em : X.mg = mg' := by rfl) (eb : X.base = base' := by rfl) : XE M Γ (r1 :: Rs2) X (.Call (.Name x p) (e :: es) [] pos) C := by
  subst eP ew eK em eb
  exact YE.wp (pe_call F hr hg hm hk hb (dvs := []) .nil pass0 pa_wp hdb he hpl) fun σ H0 H l ex r Q q => ha σ H0 H l ex r _ fun vs H1 G1 s1 k1 a1 => by
    obtain ⟨y, h1, h2, h3, h4, h5⟩ := hx vs H1 a1
    have nd : ∀ r ∈ Rs2, ∀ a ∈ r.ad, a ∉ r1.ad := fun r hr a ha hb => by
      have d := k1.1
      rw [List.flatMap_cons, List.nodup_append] at d
      exact d.2.2 a hb a (List.mem_flatMap.mpr ⟨r, hr, ha⟩) rfl
    refine ⟨y, H1, s1.le, ?_, by rw [List.append_nil]; exact h1, fun v H2 G2 s2 k2 p2 => ?_⟩
    · rw [h2]
      refine ⟨?_, fun r hr => k1.2 r (by rw [List.mem_singleton.mp hr]; exact List.mem_cons_self)⟩
      have d := k1.1
      rw [List.flatMap_cons, List.nodup_append] at d
      simpa using d.1
    · have k3 : Rok Rs2 H2 G2 := by
        have k1' : Rok Rs2 H1 G1 := ⟨by have d := k1.1; rw [List.flatMap_cons, List.nodup_append] at d; exact d.2.1, fun r hr => k1.2 r (List.mem_cons_of_mem _ hr)⟩
        exact k1'.step s2 fun r hr a ha hm => nd r hr a ha (h4 a hm)
      refine q v H2 G2 (s1.trans (s2.imp h3)) ⟨k1.1, fun r hr => ?_⟩ (h5 v H2 p2)
      rcases List.mem_cons.mp hr with e1 | hr
      · rw [e1]
        exact k2.2 r1 (by rw [h2]; exact List.mem_cons_self)
      · exact k3.2 r hr
end

/-! ### a def's promise by its body -/
section
variable {K : PySem.W.Frag} {mg : Str → Option Value} {base : Heap} {P : Program} {w : World}
/-- the slots at the beginning -/
def ctOf (N : List Str) (Ps : List Pd) : Ct := Ps.map some ++ List.replicate (N.length - Ps.length) none
theorem sl_start {N : List Str} {Ps : List Pd} {vs : List V} {H : Hp} (h : DAll Ps vs H) : Sl (ctOf N Ps) (L2.start N vs) H := by
  have e := h.1
  refine ⟨by simp [ctOf, L2.start, e], fun i P q => ?_⟩
  by_cases hi : i < Ps.length
  · unfold ctOf at q
    rw [List.getElem?_append_left (by simpa using hi), List.getElem?_map] at q
    cases hp : Ps[i]? with
    | none =>
      rw [hp] at q
      cases q
    | some P' =>
      rw [hp] at q
      have e1 : P' = P := Option.some.inj (Option.some.inj q)
      subst e1
      obtain ⟨v, h1, h2⟩ := h.2 i P' hp
      refine ⟨v, ?_, h2⟩
      unfold L2.start
      rw [List.getElem?_append_left (by simp [e]; exact hi), List.getElem?_map, h1]
      rfl
  · unfold ctOf at q
    rw [List.getElem?_append_right (by simpa using Nat.le_of_not_lt hi)] at q
    have := List.getElem?_replicate (n := N.length - Ps.length) (a := (none : Option Pd)) (i := i - (Ps.map some).length)
    rw [this] at q
    split at q
    · cases q
    · cases q
/-- what the walk of a body asks: the context, the promise's ends -/
theorem fn_F {α : Type} {M : α → Addr → Prop} {Rs : α → List Res} {pre : α → List Pd} {post : α → Pd} {x qual : Str} {st : Stmt} {f : Addr} {fd : FuncData} {N ps : List Str} {k : Nat} (F : Fun K x qual st f fd) (S : FnScope N ps (defScope st)) (len : ∀ y, (pre y).length = ps.length)
    (hb : ∀ (y : α) (Z0 Z : Hp) (Q : VK) (X : Cx) (qX : ∃ (cdv : Value) (A : Around) (outer : List Env) (s : Shared) (E : XK), X = (cxOf CX0 P w K mg base N qual (defScope st) f cdv A outer s Z E).nox ∧ Room k X.A), (∀ v H0' H', Step (M y) Z0 Z H0' H' → Rok (Rs y) H0' H' → (post y).p v H0' → Q v H') →
      XS (M y) (ctOf N (pre y)) (Rs y) X Z0 Z Z0 { nx := fun _ H' => Q .non H', rt := Q } (defBody st)) : FnOk P w K mg base CX0 (k + 1) f fd ps (SpF M Rs pre post) := by
  refine F.ok S (fun vs H Q E h => ?_) (fun cdv A outer s H vs Q E hr h => ?_)
  · obtain ⟨y, H0, _, _, h, _⟩ := h
    rw [h.1, len]
  · obtain ⟨y, H0, e, r, h, q⟩ := h
    refine ⟨_, pss_wp, ?_⟩
    exact hb y H0 H Q _ ⟨cdv, A, outer, s, E, rfl, hr⟩ q _ H0 H (sl_start h) (Step.rfl e) (Ex.refl _) r
end

/-! ### comprehensions -/
def wpEb (X : Cx) (scope : Scope) (e : Expr) : TE := fun σ H Q => ∀ (s0 : Shared) (H0 : Hp) (C : Addr) (cl : List (Str × Addr)) (fp : List Addr), wpE (X.blk s0 H0 scope (compEnvC scope cl C X.env) fp) e σ H Q
def wpTb (X : Cx) (scope : Scope) (e : Expr) : TT := fun σ H Q => ∀ (s0 : Shared) (H0 : Hp) (C : Addr) (cl : List (Str × Addr)) (fp : List Addr), wpT (X.blk s0 H0 scope (compEnvC scope cl C X.env) fp) e σ H Q
def wipeC (Γ : Ct) : List Nat → Ct
  | [] => Γ
  | v :: vs => (wipeC Γ vs).set v none
theorem Sl.forget {Γ : Ct} {σ : L2.St} {H : Hp} (h : Sl Γ σ H) (v : Nat) : Sl (Γ.set v none) (σ.set v none) H := by
  refine ⟨by simp [h.1], fun i P q => ?_⟩
  by_cases hi : v = i
  · subst hi
    by_cases hl : v < Γ.length
    · rw [List.getElem?_set_self hl] at q
      cases q
    · rw [List.getElem?_eq_none (by simpa using Nat.le_of_not_lt hl)] at q
      cases q
  · rw [List.getElem?_set_ne hi] at q
    obtain ⟨u, h1, h2⟩ := h.2 i P q
    exact ⟨u, by rw [List.getElem?_set_ne hi]; exact h1, h2⟩
theorem Sl.wipe {Γ : Ct} {σ : L2.St} {H : Hp} (h : Sl Γ σ H) : ∀ vs : List Nat, Sl (wipeC Γ vs) (L2.wipe σ vs) H
  | [] => h
  | v :: vs => (Sl.wipe h vs).forget v
/-- what may change stands in the heap -/
def Cov (M : Addr → Prop) (Rs : List Res) : Prop := ∀ H0 H, Rok Rs H0 H → ∀ a, M a → ∃ o, H a = some o
theorem cov0 {Rs : List Res} : Cov M0 Rs := fun _ _ _ _ z => z.elim
theorem Rok.wr {Rs : List Res} {A H : Hp} {p : Addr} {o : HO} (k : Rok Rs A H) (h : ∀ r ∈ Rs, ∀ a ∈ r.ad, a ≠ p) : Rok Rs A (upd H p o) := ⟨k.1, fun r hr => r.st (Ex.refl _) (fun a ha => (r.tr (k.2 r hr) a ha).2) (fun a ha => upd_ne (h r hr a ha)) (k.2 r hr)⟩
theorem Rok.updA {Rs : List Res} {A H : Hp} {p : Addr} {o : HO} (k : Rok Rs A H) (hp : A p = none) (h : ∀ r ∈ Rs, ∀ a ∈ r.ad, a ≠ p) : Rok Rs (upd A p o) H := ⟨k.1, fun r hr => r.st (Ex.new hp) (fun a ha => by rw [upd_ne (h r hr a ha)]; exact (r.tr (k.2 r hr) a ha).2) (fun a ha => rfl) (k.2 r hr)⟩
section
variable {M : Addr → Prop} {Γ Γ' : Ct} {Rs : List Res} {X : Cx} {Z0 Z Hl : Hp} {D : Ends} {K : PySem.W.Frag} {rest : List Stmt}
/-- the comprehension's word: the lists that may be made so far -/
theorem ye_lc {tg iter : Expr} {j : Nat} {tt : TT} {te : TE} {Qs : List Pd} (hi : XI M Γ Rs X tg iter Qs) (cv : Cov M Rs) (hz : Qs.length ≤ 100000) (R : Nat → List PyData → Prop) (r0 : R 0 [])
    (ht : ∀ (i : Nat) (Q : Pd), Qs[i]? = some Q → ∃ B, YT M ((wipeC Γ [j]).set j (some Q)) Rs tt B ∧ (B true → YE M ((wipeC Γ [j]).set j (some Q)) Rs te (PEx (fun d => ∀ ds, ds.length ≤ i → R i ds → R (i + 1) (ds ++ [d])) (PD K))) ∧ (B false → ∀ ds, R i ds → R (i + 1) ds)) :
    YE M Γ Rs (tLc (wpI X tg iter) (gName j) tt te [j]) (PEx (fun ds => R Qs.length ds ∧ ds.length ≤ Qs.length) fun ds => PD K (.list ds)) := fun σ H0 H l ex k Q q => hi σ H0 H l ex k _ fun J A0 G1 s1 k1 wk D hD => by
  have nr : ∀ r ∈ Rs, ∀ a ∈ r.ad, a ≠ D := fun r hr a ha e => by
    obtain ⟨⟨o, h1⟩, _⟩ := r.tr (k1.2 r hr) a ha
    rw [e, hD] at h1
    cases h1
  have nM : ¬ M D := fun z => by
    obtain ⟨o, h⟩ := cv A0 G1 k1 D z
    rw [hD] at h
    cases h
  refine ⟨fun i m G => m = Qs.length - i ∧ i ≤ Qs.length ∧ ∃ A acc ds, R i ds ∧ ds.length ≤ i ∧ Step M A0 G1 A G ∧ A D = none ∧ Rok Rs A G ∧ G D = some (.lst acc) ∧ DdAll K A ds acc, ⟨_, rfl, Nat.zero_le _, A0, [], [], r0, Nat.le_refl _, ?_, fresh_back s1.le hD, k1.wr nr, upd_same, rfl⟩, ?_⟩
  · exact ⟨fun a o _ h => by rw [upd_ne (ne_of_none h hD)]; exact h, fun a o h => ⟨o, by rw [upd_ne (ne_of_none h hD)]; exact h⟩, Ex.refl _, fun a o h => by rw [upd_ne (ne_of_none (s1.le a o h) hD)]; exact s1.le a o h, fun a o h => .inl h⟩
  · rintro i m G ⟨rfl, hi', A, acc, ds, hR, hlen, s2, aD, k2, gD, hdd⟩
    have w := wk A G s2.ex s2.le i
    by_cases hlt : i < Qs.length
    · have hq := List.getElem?_eq_getElem hlt
      obtain ⟨go, yl⟩ := w.1 _ hq
      obtain ⟨B, hB, hY, hN⟩ := ht i _ hq
      refine .inr ⟨go, fun G' => i + 1 ≤ Qs.length ∧ ∃ A acc ds, R (i + 1) ds ∧ ds.length ≤ i + 1 ∧ Step M A0 G1 A G' ∧ A D = none ∧ Rok Rs A G' ∧ G' D = some (.lst acc) ∧ DdAll K A ds acc, fun G' h => ⟨Qs.length - (i + 1), by omega, rfl, h⟩, fun x G2 y => ?_⟩
      obtain ⟨A2, s3, hx⟩ := yl x G2 y
      refine ⟨by simp [L2.wipe, List.set_set], ?_⟩
      have s12 := s2.trans s3.of0
      have nw : ∀ {A' G' : Hp}, Step M A G A' G' → A' D = none := fun {A' G'} s => by
        cases e : A' D with
        | none => rfl
        | some o =>
          rcases s.nw D o e with z | z
          · rw [aD] at z
            cases z
          · rw [gD] at z
            cases z
      have lΓ : Sl ((wipeC Γ [j]).set j (some Qs[i])) ((L2.wipe σ [j]).set j (some x)) A2 := (((l.ex s1.ex).ex (s2.ex.trans s3.ex)).wipe [j]).set hx
      refine hB _ A2 G2 lΓ s3.le (k2.step0 s3) _ fun b A3 G3 s4 k4 hb => ?_
      cases b with
      | true =>
        refine hY hb _ A3 G3 (lΓ.ex s4.ex) s4.le k4 _ fun v A4 G4 s5 k5 ⟨d, hd, hv⟩ => ?_
        have s35 : Step M A G A4 G4 := (s3.of0.trans s4).trans s5
        have g4 : G4 D = some (.lst acc) := s35.un D _ nM gD
        refine ⟨acc, g4, ?_, hlt, A4, acc ++ [v], ds ++ [d], hd ds hlen hR, by simp; omega, ?_, nw s35, k5.wr nr, upd_same, DdAll.app (DdAll.ex s35.ex _ _ hdd) (DdAll.one hv)⟩
        · rw [hdd.len]
          have : (100000 : Nat) < sizeLine := by decide
          omega
        · have t := s2.trans s35
          refine ⟨fun a o hm h => ?_, fun a o h => ?_, t.ex, fun a o h => ?_, t.nw⟩
          · rw [upd_ne (ne_of_none h hD)]
            exact t.un a o hm h
          · obtain ⟨o', h'⟩ := t.th a o h
            exact ⟨o', by rw [upd_ne (ne_of_none h hD)]; exact h'⟩
          · have na : a ≠ D := fun e => by
              rw [e, nw s35] at h
              cases h
            rw [upd_ne na]
            exact t.le a o h
      | false =>
        have s34 : Step M A G A3 G3 := s3.of0.trans s4
        exact ⟨hlt, A3, acc, ds, hN hb ds hR, by omega, s2.trans s34, nw s34, k4, s34.un D _ nM gD, DdAll.ex s34.ex _ _ hdd⟩
    · have e : i = Qs.length := by omega
      subst e
      refine .inl ⟨w.2 rfl, q (.ref D) (upd A D (.lst acc)) G ?_ (k2.updA aD nr) ⟨ds, ⟨hR, hlen⟩, D, acc, rfl, upd_same, DdAll.ex (Ex.new aD) _ _ hdd⟩⟩
      have t := s1.trans s2
      refine ⟨t.un, t.th, t.ex.trans (Ex.new aD), fun a o h => ?_, fun a o h => ?_⟩
      · by_cases ha : a = D
        · subst ha
          rw [upd_same] at h
          rw [gD]
          exact h
        · rw [upd_ne ha] at h
          exact t.le a o h
      · by_cases ha : a = D
        · subst ha
          refine .inr ?_
          cases e : H a with
          | none => rfl
          | some u =>
            obtain ⟨u', h'⟩ := s1.th a u e
            rw [hD] at h'
            cases h'
        · rw [upd_ne ha] at h
          exact t.nw a o h
theorem yt_yes : YT M Γ Rs tYes (Is true) := fun σ H0 H l e k Q q => q true H0 H (Step.rfl e) k rfl

theorem blk_ok {X : Cx} {e : Expr} {scope : Scope} : ∀ (s0 : Shared) (H0 : Hp) (C : Addr) (cl : List (Str × Addr)) (fp : List Addr), PE (X.blk s0 H0 scope (compEnvC scope cl C X.env) fp) e (wpEb X scope e) := fun s0 H0 C cl fp => ⟨fun pins s σ H Q I h => h s0 H0 C cl fp pins s I⟩
theorem blk_okT {X : Cx} {e : Expr} {scope : Scope} : ∀ (s0 : Shared) (H0 : Hp) (C : Addr) (cl : List (Str × Addr)) (fp : List Addr), PT (X.blk s0 H0 scope (compEnvC scope cl C X.env) fp) e (wpTb X scope e) := fun s0 H0 C cl fp => ⟨fun pins s σ H Q I h => h s0 H0 C cl fp pins s I⟩
/-- every block of the comprehension's scope -/
abbrev Blk (X : Cx) (scope : Scope) (Y : Cx → Prop) : Prop := ∀ (s0 : Shared) (H0 : Hp) (C : Addr) (cl : List (Str × Addr)) (fp : List Addr), Y (X.blk s0 H0 scope (compEnvC scope cl C X.env) fp)
theorem ye_blk {X : Cx} {e : Expr} {scope : Scope} {P : Pd} (h : Blk X scope fun Y => XE M Γ Rs Y e P) : YE M Γ Rs (wpEb X scope e) P := fun σ H0 H l ex k Q q s0 G0 C cl fp => h s0 G0 C cl fp σ H0 H l ex k Q q
theorem yt_blk {X : Cx} {e : Expr} {scope : Scope} {B : Bool → Prop} (h : Blk X scope fun Y => XT M Γ Rs Y e B) : YT M Γ Rs (wpTb X scope e) B := fun σ H0 H l ex k Q q s0 G0 C cl fp => h s0 G0 C cl fp σ H0 H l ex k Q q
abbrev blkG (Γ : Ct) (j : Nat) (Q : Pd) : Ct := (wipeC Γ [j]).set j (some Q)
/-- what the parts of [elt for x in iter if c] give -/
def LcIf (M : Addr → Prop) (Γ : Ct) (Rs : List Res) (X : Cx) (K : PySem.W.Frag) (scope : Scope) (j : Nat) (elt c : Expr) (Qs : List Pd) (R : Nat → List PyData → Prop) : Prop :=
  ∀ (i : Nat) (Q : Pd), Qs[i]? = some Q → ∃ B, (Blk X scope fun Y => XT M (blkG Γ j Q) Rs Y c B) ∧ (B true → Blk X scope fun Y => XE M (blkG Γ j Q) Rs Y elt (PEx (fun d => ∀ ds, ds.length ≤ i → R i ds → R (i + 1) (ds ++ [d])) (PD K))) ∧ (B false → ∀ ds, R i ds → R (i + 1) ds)
def LcAll (M : Addr → Prop) (Γ : Ct) (Rs : List Res) (X : Cx) (K : PySem.W.Frag) (scope : Scope) (j : Nat) (elt : Expr) (Qs : List Pd) (R : Nat → List PyData → Prop) : Prop :=
  ∀ (i : Nat) (Q : Pd), Qs[i]? = some Q → Blk X scope fun Y => XE M (blkG Γ j Q) Rs Y elt (PEx (fun d => ∀ ds, ds.length ≤ i → R i ds → R (i + 1) (ds ++ [d])) (PD K))
abbrev LcP (K : PySem.W.Frag) (Qs : List Pd) (R : Nat → List PyData → Prop) : Pd := PEx (fun ds => R Qs.length ds ∧ ds.length ≤ Qs.length) fun ds => PD K (.list ds)
theorem ye_lcIf (j : Nat) {tg iter elt c : Expr} {scope : Scope} {Qs : List Pd} (hi : XI M Γ Rs X tg iter Qs) (cv : Cov M Rs) (hz : Qs.length ≤ 100000) (R : Nat → List PyData → Prop) (r0 : R 0 []) (ht : LcIf M Γ Rs X K scope j elt c Qs R) :
    YE M Γ Rs (tLc (wpI X tg iter) (gName j) (wpTb X scope c) (wpEb X scope elt) [j]) (LcP K Qs R) := ye_lc hi cv hz R r0 fun i Q hq => by
  obtain ⟨B, h1, h2, h3⟩ := ht i Q hq
  exact ⟨B, yt_blk h1, fun hb => ye_blk (h2 hb), h3⟩
theorem ye_lcAll (j : Nat) {tg iter elt : Expr} {scope : Scope} {Qs : List Pd} (hi : XI M Γ Rs X tg iter Qs) (cv : Cov M Rs) (hz : Qs.length ≤ 100000) (R : Nat → List PyData → Prop) (r0 : R 0 []) (ht : LcAll M Γ Rs X K scope j elt Qs R) :
    YE M Γ Rs (tLc (wpI X tg iter) (gName j) tYes (wpEb X scope elt) [j]) (LcP K Qs R) := ye_lc hi cv hz R r0 fun i Q hq => ⟨Is true, yt_yes, fun _ => ye_blk (ht i Q hq), fun z => Bool.noConfusion z⟩
/-- the block's own name is stored -/
abbrev BlkG (X : Cx) (scope : Scope) (x : Str) (xp : Pos) (j : Nat) : Prop := ∀ (s : Shared) (H : Hp) (C : Addr) (cl : List (Str × Addr)) (fp : List Addr), PG (X.blk s H scope (compEnvC scope cl C X.env) fp) (.Name x xp) (gName j)
theorem xe_lcIf (j : Nat) {x : Str} {elt iter c : Expr} {scope : Scope} {pos xp : Pos} {Qs : List Pd} (hi : XI M Γ Rs X (.Name x xp) iter Qs) (R : Nat → List PyData → Prop) (r0 : R 0 []) (ht : LcIf M Γ Rs X K scope j elt c Qs R) (hN : X.N.Nodup)
    (ok : BlkOk X.N X.env.scope scope [(x, j)]) (hz : Qs.length ≤ 100000) (cv : Cov M Rs) (hg : BlkG X scope x xp j) (hc : X.calm = true := by rfl) (hs : ∀ x, foldedSetIterable iter X.env x = pure x := by intro _; rfl) :
    XE M Γ Rs X (.ListComp elt [⟨.Name x xp, iter, [c], 0⟩] scope pos) (LcP K Qs R) := YE.wp (pe_lc (own := [(x, j)]) hc hN pi_wp ok hg (fun s H C cl fp => pts_one (blk_okT s H C cl fp)) blk_ok hs) (ye_lcIf j hi cv hz R r0 ht)
theorem xe_lc (j : Nat) {x : Str} {elt iter : Expr} {scope : Scope} {pos xp : Pos} {Qs : List Pd} (hi : XI M Γ Rs X (.Name x xp) iter Qs) (R : Nat → List PyData → Prop) (r0 : R 0 []) (ht : LcAll M Γ Rs X K scope j elt Qs R) (hN : X.N.Nodup)
    (ok : BlkOk X.N X.env.scope scope [(x, j)]) (hz : Qs.length ≤ 100000) (cv : Cov M Rs) (hg : BlkG X scope x xp j) (hc : X.calm = true := by rfl) (hs : ∀ x, foldedSetIterable iter X.env x = pure x := by intro _; rfl) :
    XE M Γ Rs X (.ListComp elt [⟨.Name x xp, iter, [], 0⟩] scope pos) (LcP K Qs R) := YE.wp (pe_lc (own := [(x, j)]) hc hN pi_wp ok hg (fun s H C cl fp => pts_nil) blk_ok hs) (ye_lcAll j hi cv hz R r0 ht)
/-- y = [..] -/
theorem xs_asgT {i : Nat} {st : Stmt} {t : TE} {α : Type} {A : α → Prop} {P : α → Pd} (h : PS X st (tAsg t (gName i))) (y : YE M Γ Rs t (PEx A P)) (k : ∀ a, A a → XS M (Γ.set i (some (P a))) Rs X Z0 Z Hl D rest) : XS M Γ Rs X Z0 Z Hl D (st :: rest) :=
  xs_cons h fun σ H0 H l s b r => y σ H0 H l s.le r _ fun v H1 G1 s1 k1 ⟨a, ha, hv⟩ => k a ha _ H1 G1 ((l.ex s1.ex).set hv) (s.trans s1) (b.trans s1.ex) k1
theorem xs_lcIf (i j : Nat) {x y : Str} {elt iter c : Expr} {scope : Scope} {pos spos xp py : Pos} {Qs : List Pd} (hi : XI M Γ Rs X (.Name x xp) iter Qs) (R : Nat → List PyData → Prop) (r0 : R 0 []) (ht : LcIf M Γ Rs X K scope j elt c Qs R)
    (k : ∀ ds, R Qs.length ds ∧ ds.length ≤ Qs.length → XS M (Γ.set i (some (PD K (.list ds)))) Rs X Z0 Z Hl D rest) (hN : X.N.Nodup) (ok : BlkOk X.N X.env.scope scope [(x, j)]) (hz : Qs.length ≤ 100000) (cv : Cov M Rs) (hg : BlkG X scope x xp j)
    (hsw : swapsWith (.ListComp elt [⟨.Name x xp, iter, [c], 0⟩] scope pos) (some (.Name y py)) spos.line X.env = pure true) (hy : X.N[i]? = some y := by rfl) (hyl : X.env.scope.names.lookup y = some .local := by rfl) (hc : X.calm = true := by rfl) (hs : ∀ x, foldedSetIterable iter X.env x = pure x := by intro _; rfl) :
    XS M Γ Rs X Z0 Z Hl D (.Assign [.Name y py] (.ListComp elt [⟨.Name x xp, iter, [c], 0⟩] scope pos) spos :: rest) :=
  xs_asgT (ps_setLc (own := [(x, j)]) hc hN hy hyl hsw pi_wp ok hg (fun s H C cl fp => pts_one (blk_okT s H C cl fp)) blk_ok hs) (ye_lcIf j hi cv hz R r0 ht) k
theorem xs_lc (i j : Nat) {x y : Str} {elt iter : Expr} {scope : Scope} {pos spos xp py : Pos} {Qs : List Pd} (hi : XI M Γ Rs X (.Name x xp) iter Qs) (R : Nat → List PyData → Prop) (r0 : R 0 []) (ht : LcAll M Γ Rs X K scope j elt Qs R)
    (k : ∀ ds, R Qs.length ds ∧ ds.length ≤ Qs.length → XS M (Γ.set i (some (PD K (.list ds)))) Rs X Z0 Z Hl D rest) (hN : X.N.Nodup) (ok : BlkOk X.N X.env.scope scope [(x, j)]) (hz : Qs.length ≤ 100000) (cv : Cov M Rs) (hg : BlkG X scope x xp j)
    (hsw : swapsWith (.ListComp elt [⟨.Name x xp, iter, [], 0⟩] scope pos) (some (.Name y py)) spos.line X.env = pure true) (hy : X.N[i]? = some y := by rfl) (hyl : X.env.scope.names.lookup y = some .local := by rfl) (hc : X.calm = true := by rfl) (hs : ∀ x, foldedSetIterable iter X.env x = pure x := by intro _; rfl) :
    XS M Γ Rs X Z0 Z Hl D (.Assign [.Name y py] (.ListComp elt [⟨.Name x xp, iter, [], 0⟩] scope pos) spos :: rest) :=
  xs_asgT (ps_setLc (own := [(x, j)]) hc hN hy hyl hsw pi_wp ok hg (fun s H C cl fp => pts_nil) blk_ok hs) (ye_lcAll j hi cv hz R r0 ht) k
end
end Lh
/-! sum of a tuple of ints; enumerate of a tuple; len of an own object. -/
namespace LhS
open L2 PyProof.Rows PySem PySem.Spec
section
variable {s : Shared} {E : Value → Shared → Prop} {A : Around} {w : World} {prog : Program}
theorem sumT_raw {t : Addr} {kids : List Value} {ns : List Int} {Q : Value → Shared → Prop} (hh : A.handled = none) (ht : s.heap.IsTuple t kids.toArray) (hInts : IntsAre kids ns)
    (h : ∀ h' tk t', (∀ b o, s.heap.get? b = some o → h'.get? b = some o) → Q (.int ns.sum t') { s with heap := h', toks := tk }) : wpAny (model prog w) A (call (.builtin "sum") [.ref t]) Q E s := by
  obtain ⟨xs, e⟩ := hInts.allInts.items
  have hn : numsOf (intItems xs).toList = ns := by rw [← e]; exact hInts.numsOf
  rw [nums_intItems] at hn
  rw [e] at ht
  have hlt : t < s.heap.objs.size := by obtain ⟨_, q, _⟩ := ht; exact Heap.lt_size q
  refine call_sum_walkG (wpAny_pyIter_tuple ht ?_)
  refine ⟨s.heap.objs.size, _, _, _, _, _, numAt xs, rfl, Walks.tuple (A := A.in1) hh _ t (Nat.ne_of_lt hlt) (intItems xs), ⟨⟨_, Heap.get?_push_size _ rfl, rfl, rfl⟩, ht.push _⟩, fun b inFp => ?_, fun _ _ => intItems_at, fun h' tk t' hk => ?_⟩
  · show _ < (s.heap.push _).objs.size
    rw [Heap.size_push]
    have eOr : b = s.heap.objs.size ∨ b = t := by simpa using inFp
    rcases eOr with eOr | eOr
    · rw [eOr]
      exact Nat.lt_succ_self _
    · rw [eOr]
      exact Nat.lt_succ_of_lt hlt
  · have q := h h' tk t' fun b o e => hk b o (fun hm => by
      have eOne : b = s.heap.objs.size := by simpa using hm
      exact absurd (eOne ▸ Heap.lt_size e) (Nat.lt_irrefl _)) (Heap.get?_push_of_some _ e)
    have ez : preSum (numAt xs) (intItems xs).size = ns.sum := by
      rw [preSum_eq, List.take_of_length_le (by simp [intItems]), hn]
    rw [ez]
    exact q
end
section
variable {X : Cx}
def rSumT (K : PySem.W.Frag) : List V → Hp → VK → Prop := fun argv H Q => ∃ (a : Addr) (ns : List Int), argv = [V.ref a] ∧ SqT K H a (ns.map V.int) ∧ Q (.int ns.sum) H
theorem cr_sumT (hc : X.calm = true) : CallR X (.builtin "sum") (rSumT X.K) := by
  intro pins s σ H argv us Q I r h
  obtain ⟨ad, ns, rfl, hs, q⟩ := h
  obtain ⟨kids, vk, hl, _⟩ := I.tuple hs
  obtain ⟨u, rfl, uRel⟩ := vals1 r
  have uRel' : u = Value.ref ad := uRel
  subst uRel'
  exact sumT_raw (I.ok.hd hc) hl (intsAre_of vk) fun h' tk t' hk => ⟨.int _, H, I.kept hk, ⟨_, rfl⟩, q⟩
/-- len of an own object: what kids __len__ promises -/
def rLenO (C : Addr) (sp : Sp) (E : XK) : List V → Hp → VK → Prop := fun argv H Q => ∃ a dx fs, argv = [V.ref a] ∧ H a = some (.ins C dx fs) ∧ sp [.ref a] H (fun v H' => ∃ n : Int, v = .int n ∧ 0 ≤ n ∧ n < 2 ^ 63 ∧ Q (.int n) H') E
theorem cr_lenO {CX : CXT} {k : Nat} {C f : Addr} {fd : FuncData} {ps : List Str} {sp : Sp} {E : XK} (fpH : PySem.W.findIn X.K (.ref C) "__len__" = some (some (.ref f))) (hInts : PySem.W.isFn X.K (.ref f) = true)
    (F : FnOk X.prog X.w X.K X.mg X.base CX k f fd ps sp) (hr : Room (k + 1) X.A) (inFp : Binds X.K fd ps []) (hx : Passes CX X.nox E) : CallR X (.builtin "len") (rLenO C sp E) := by
  intro pins s σ H argv us Q I r h
  obtain ⟨a, dx, fs, rfl, eIns, hsp⟩ := h
  obtain ⟨u, rfl, uRel⟩ := vals1 r
  have uRel' : u = Value.ref a := uRel
  subst uRel'
  obtain ⟨mA, own, _, _, _, _⟩ := ins_get I.hok eIns
  obtain ⟨od, J, _⟩ := own.look
  obtain ⟨m, Ff⟩ := I.fr
  refine PySem.W.len_K Ff I.ok.mod.kin J fpH hInts ?_
  have hl : ([Value.ref a] ++ ([] : List Value)).length = ps.length := by
    rw [← F.len _ _ _ _ hsp]
    rfl
  refine wpAny_call (codeAny_mono (F.run X.A.in1 X.stack s H ⟨[.ref a], []⟩ [.ref a] [.ref a] _ E hr.in1 I.env0.in1 (inFp _ [.ref a] I.kIn hl) (.cons rfl .nil) hsp) fun r s' hSq => ?_)
  cases r with
  | error er => exact False.elim (hx pins σ H s er s' (I.wish _) hSq)
  | ok fl =>
    cases fl with
    | ret u =>
      obtain ⟨v, H', I3, vk, n, ev, h0, h1, q3⟩ := I.after hSq
      subst ev
      obtain ⟨t, rfl⟩ := vk
      exact ⟨⟨h0, h1⟩, ⟨.int n, H', I3.tok _, ⟨_, rfl⟩, q3⟩⟩
    | next => exact False.elim hSq
    | brk => exact False.elim hSq
    | cont => exact False.elim hSq
end
end LhS

/-! ### enumerate of a tuple -/
namespace LhS
open L2 PyProof.Rows PySem PySem.Spec
section
variable {s : Shared} {E : Value → Shared → Prop} {A : Around} {w : World} {prog : Program}
theorem meets_enumT (t : Addr) (items : Array Value) (n : Nat) (dct : Option Addr) (sl : Array (Option Value)) :
    Meets (Builtin.«enumerate.__new__» ⟨[.type "enumerate", .ref t], []⟩) (fun _ R s => s.heap.get? t = some { cls := .type "tuple", dict := dct, data := .seq items n, slots := sl } ∧
      R (.ok (.ret (.ref (s.heap.push { cls := .type "tuple_iterator", data := .fields #[.ref t, .int 0 0] }).objs.size)))
        { s with heap := (s.heap.push { cls := .type "tuple_iterator", data := .fields #[.ref t, .int 0 0] }).push { cls := .type "enumerate", data := .fields #[.none, .bool false, .ref s.heap.objs.size, rawInt 0, .none, .none] } }) :=
  .of_wp fun _ _ _ R s h => by
    obtain ⟨hp, gl, dp, tk, os⟩ := s
    obtain ⟨hl, h⟩ := h
    have hsub := sub_enumerate
    have hT : Heap.IsTuple (Shared.heap ⟨hp, gl, dp, tk, os⟩) t items := ⟨_, hl, rfl, n, rfl⟩
    wp_walk using AutoSeq1.wpAny_loadPart' hl
    refine wpAny_stack_any fun _ => wpAny_pure ?_
    split
    · rename_i kind _ _ _ _ _
      cases (kind == Value.type "enumerate")
      · wp_walk using AutoSeq1.wpAny_loadPart' hl, wpAny_pyIter_tuple hT
        exact ⟨_, rfl, h⟩
      · wp_walk using AutoSeq1.wpAny_loadPart' hl, wpAny_pyIter_tuple hT
        exact ⟨_, rfl, h⟩
    · wp_walk using AutoSeq1.wpAny_loadPart' hl, wpAny_pyIter_tuple hT
      exact ⟨_, rfl, h⟩
theorem call_enumT {t : Addr} {items : Array Value} {Q : Value → Shared → Prop} (hT : s.heap.IsTuple t items)
    (h : ∀ h', IsEnum h' (s.heap.objs.size + 1) s.heap.objs.size 0 .none → h'.IsTupleIter s.heap.objs.size t 0 → (∀ b o, s.heap.get? b = some o → h'.get? b = some o) → Q (.ref (s.heap.objs.size + 1)) { s with heap := h' }) :
    wpAny (model prog w) A (call (.type "enumerate") [.ref t]) Q E s := by
  obtain ⟨⟨c, dct, dt, sl⟩, hl, hc, n, hd⟩ := hT
  have hc' : c = .type "tuple" := hc
  have hd' : dt = .seq items n := hd
  subst hc' hd'
  refine callType_new F.called_enumerate (by decide) (F.typeCall_enumerate_1 _) (F.newCall_enumerate_1 _) (fun obj => F.args_object_init_2 obj _) F.entry_enumerate_new (meets_enumT t items n dct sl) ⟨hl, ?_⟩
  have hz : (s.heap.push { cls := .type "tuple_iterator", data := .fields #[.ref t, .int 0 0] }).objs.size = s.heap.objs.size + 1 := Heap.size_push ..
  show _ ∧ _
  rw [hz]
  have q := Heap.get?_push_size (s.heap.push { cls := .type "tuple_iterator", data := .fields #[.ref t, .int 0 0] }) (o := { cls := .type "enumerate", data := .fields #[.none, .bool false, .ref s.heap.objs.size, rawInt 0, .none, .none] }) rfl
  rw [hz] at q
  exact ⟨⟨_, q, rfl⟩, h _ q ⟨_, Heap.get?_push_of_some _ (Heap.get?_push_size _ rfl), rfl, rfl⟩ fun b o x => Heap.get?_push_of_some _ (Heap.get?_push_of_some _ x)⟩
end
/-- the tuple at a as it stands, each item in a new pair -/
def IteT (K : PySem.W.Frag) (a : Addr) : It :=
  ⟨fun i H => ∃ (xs : List V) (x : V), SqT K H a xs ∧ xs[i]? = some x, fun i H v H' => ∃ T x, v = .ref T ∧ H T = none ∧ H' = upd H T (.tup [.int (i : Nat), x]) ∧ ∀ xs, SqT K H a xs → xs[i]? = some x, fun i H => ∃ xs : List V, SqT K H a xs ∧ xs.length = i⟩
theorem turn_enumT {P : Program} {w : World} {K : PySem.W.Frag} {elts : List Expr} {kk : Nat} {tpos : Pos} (a e it : Addr) (hai : a ≠ it) :
    Turn P w K (.Tuple elts kk tpos) (IteT K a) [e, it] e (fun i h => (∃ was, IsEnum h e it ((i : Nat) : Int) was) ∧ h.IsTupleIter it a i ∧ e ≠ it ∧ e ≠ a) where
  mem := by simp
  obj := fun i h now b inFp => by
    obtain ⟨⟨was, hEn⟩, ⟨o, ho, hc, hd⟩, _⟩ := now
    have eOr : b = e ∨ b = it := by simpa using inFp
    rcases eOr with z | z
    · rw [z]
      exact ⟨_, hEn, fun v q => nomatch q⟩
    · rw [z]
      exact ⟨o, ho, fun v q => by rw [hd] at q; cases q⟩
  keep := fun i h h' now k => by
    obtain ⟨⟨was, hEn⟩, hInts, nEI, nEA⟩ := now
    exact ⟨⟨was, k e (by simp) _ hEn⟩, hInts.at fun o q => k it (by simp) o q, nEI, nEA⟩
  item := by
    intro X hP hw hK hc i pins s σ H E I fpH now hg
    subst hP hw hK
    obtain ⟨⟨was, hEn⟩, hIt, nEI, nEA⟩ := now
    obtain ⟨xs, x, hSq, hx⟩ := hg
    obtain ⟨kids, vk, p, hz⟩ := I.tuple hSq
    obtain ⟨u, hu, uRel⟩ := vk.get hx
    have eIn : e < s.heap.objs.size := Heap.lt_size hEn
    have iIn : it < s.heap.objs.size := by obtain ⟨_, q, _⟩ := hIt; exact Heap.lt_size q
    have hh : X.A.in1.handled = none := I.ok.hd hc
    have hlen : i < kids.toArray.size := by
      have := (List.getElem?_eq_some_iff.mp hu).1
      simpa using this
    refine wpAny_pyNext_enum_itemD (Draws.tuple hh it a hai kids.toArray) hEn ⟨hIt, p⟩ hlen nEI (by simp [nEI, nEA]) fun y h' tk hy ho hs' hT hsz hk => ?_
    have ey : y = u := by
      have q : kids[i]? = some y := by simpa using hy
      rw [hu] at q
      exact Eq.symm (Option.some.inj q)
    subst ey
    refine ⟨_, rfl, wpAny_letOwnedTupleGo_enum (s := { s with heap := h', toks := tk + 1 }) ho fun h'' he' sb => ?_⟩
    have hT2 : h''.get? s.heap.objs.size = some { cls := .type "tuple", data := .seq #[.int i tk, y] } := (sb.2 _ (Nat.ne_of_gt eIn)).trans hT
    have laid : ObjOk X.prog X.w (upd H s.heap.objs.size (.tup [.int (i : Nat), x])) h'' s.heap.objs.size (.tup [.int (i : Nat), x]) :=
      ⟨by show 2 ≤ sizeLine; decide, [.int i tk, y], .cons ⟨_, rfl⟩ (.cons uRel .nil), ⟨_, hT2, rfl, _, rfl⟩⟩
    have I1 : Inv X pins σ (upd H s.heap.objs.size (.tup [.int (i : Nat), x])) { s with heap := h'', toks := tk + 1 } :=
      I.turnedNew (ch := [e, it]) (fun b ob inFp q => (sb.2 b (fun z => inFp (by simp [z]))).trans (hk b ob (fun z => inFp (by simp [z])) (fun z => inFp (by simp [z])) q)) fpH (Nat.le_refl _) laid
    refine ⟨.ref s.heap.objs.size, _, I1, rfl, ⟨_, x, rfl, I.hok.fresh (Nat.le_refl _), rfl, fun ys hy => by rw [I.tuple_inj hy hSq]; exact hx⟩, ⟨⟨y, ?_⟩, hs'.1.at fun o q => (sb.2 it (Ne.symm nEI)).trans q, nEI, nEA⟩, fun b inFp => ?_⟩
    · have eOne : ((i + 1 : Nat) : Int) = (i : Int) + 1 := by omega
      rw [eOne]; exact he'
    · have bIn : b < s.heap.objs.size := by
        have eOr : b = e ∨ b = it := by simpa using inFp
        rcases eOr with z | z
        · rw [z]; exact eIn
        · rw [z]; exact iIn
      rw [upd_ne (Nat.ne_of_lt bIn)]
      exact (fpH b inFp).1
  done := by
    intro X hP hw hK hc i pins s σ H E I fpH now hg
    subst hP hw hK
    obtain ⟨⟨was, hEn⟩, hIt, nEI, nEA⟩ := now
    obtain ⟨xs, hSq, hx⟩ := hg
    obtain ⟨kids, vk, p, hz⟩ := I.tuple hSq
    obtain ⟨f0, f1, f2, f3, f4, f5⟩ := fpH it (by simp)
    have hl := vk.length
    have hh : X.A.in1.handled = none := I.ok.hd hc
    have hn : i = kids.toArray.size := by
      rw [← hx, hl]
      simp
    subst hn
    exact wpAny_pyNext_enum_endD (Draws.tuple hh it a hai kids.toArray) hEn ⟨hIt, p⟩ fun h' eb => ⟨rfl, I.turned (t' := s.toks) (fun b o inFp q => eb b o inFp q) f0 f1 f3 f4 f5⟩
  self := fun A i s Q E now h => by
    obtain ⟨⟨_, hEn⟩, _⟩ := now
    exact wpAny_pyIter_enum hEn h
def iEnumT (K : PySem.W.Frag) (ta : TA) : TI := fun σ H R => ta σ H fun argv H1 => ∃ a xs, argv = [.ref a] ∧ SqT K H1 a xs ∧ R (IteT K a) H1
theorem pi_enumT {X : Cx} {e : Expr} {ta : TA} {p pos tpos : Pos} {elts : List Expr} {kk : Nat} (hg : Gl X "enumerate") (hm : X.mg "enumerate" = none) (ha : PA X [e] ta) (hs : starEach [e] X.env = [(false, eval e X.env)] := by rfl) :
    PI X (.Tuple elts kk tpos) (.Call (.Name "enumerate" p) [e] [] pos) (iEnumT X.K ta) := by
  constructor
  intro pins s σ H R I h
  refine Call_ (ld_blt I hg hm boot_enumerate (PyProof.Rows.callWith_type1 (thn (ha.run pos pins s σ H _ I h) fun us s1 ⟨argv, H1, I1, r1, q1⟩ => ?_) hs rfl))
  obtain ⟨a, xs, ex, hSq, q⟩ := q1
  subst ex
  obtain ⟨u, rfl, uRel⟩ := vals1 r1
  have uRel' : u = Value.ref a := uRel
  subst uRel'
  obtain ⟨kids, vk, p', hz⟩ := I1.tuple hSq
  have hal : a < s1.heap.objs.size := by obtain ⟨_, q, _⟩ := p'; exact Heap.lt_size q
  refine call_enumT (show s1.heap.IsTuple a kids.toArray from p') fun h' hEn hIt hk => wpAny_pyIter_enum hEn ?_
  have Inow : Inv X pins σ H1 { s1 with heap := h' } := I1.kept (t' := s1.toks) hk
  refine ⟨s1.heap.objs.size + 1, [s1.heap.objs.size + 1, s1.heap.objs.size], _, _, H1, rfl, Inow, turn_enumT a (s1.heap.objs.size + 1) s1.heap.objs.size (Nat.ne_of_lt hal), ⟨⟨.none, hEn⟩, hIt, Nat.succ_ne_self _, Nat.ne_of_gt (Nat.lt_succ_of_lt hal)⟩, fun b inFp => ?_, q⟩
  have leB : s1.heap.objs.size ≤ b := by
    have eOr : b = s1.heap.objs.size + 1 ∨ b = s1.heap.objs.size := by simpa using inFp
    rcases eOr with z | z
    · exact z ▸ Nat.le_succ _
    · exact z ▸ Nat.le_refl _
  exact I1.fpOk leB (I1.hok.fresh leB)
end LhS
namespace Lh
open PySem L2
open Evl (Ex ex_l ex_t ex_rd fresh_back)
theorem sl_big {n : Nat} (h : n ≤ 1000000) : n ≤ sizeLine := Nat.le_trans h (by decide)
/-! ### steps by values -/
section
variable {H0 H : Hp} {K : PySem.W.Frag} {x y : V}
theorem yl_I0 {g : Int → Int → V} {i j : Int} {d : PyData} (hd : ∀ H, Dd K H d (g i j)) (hx : Dd K H0 (.int i) x) (hy : Dd K H0 (.int j) y) (e : Ex H0 H) : Yld H0 H (PD K d) (rI0 g x y H) := Yld.val (z := g i j) e (hd H0) fun Q q => ⟨i, j, hx, hy, q⟩
theorem yl_I {C : Int → Int → Prop} {g : Int → Int → V} {i j : Int} {d : PyData} (hc : C i j) (hd : ∀ H, Dd K H d (g i j)) (hx : Dd K H0 (.int i) x) (hy : Dd K H0 (.int j) y) (e : Ex H0 H) : Yld H0 H (PD K d) (rI C g x y H) := Yld.val (z := g i j) e (hd H0) fun Q q => ⟨i, j, hx, hy, hc, q⟩
theorem Yld.pb {f : VK → Prop} {b : Bool} (h : Yld H0 H (PD K (.bool b)) f) : Yld H0 H (PB K (Is b)) f := fun Q q => h Q fun v A G s p => q v A G s ⟨b, rfl, p⟩
theorem dec_int' {i j : Int} : decide (V.int i = V.int j) = decide (i = j) := by
  by_cases h : i = j
  · subst h
    simp
  · rw [decide_eq_false h, decide_eq_false (fun e => h (V.int.inj e))]
theorem dec_str' {i j : Str} : decide (V.str i = V.str j) = decide (i = j) := by
  by_cases h : i = j
  · subst h
    simp
  · rw [decide_eq_false h, decide_eq_false (fun e => h (V.str.inj e))]
theorem dec_bl' {i j : Bool} : decide (V.bl i = V.bl j) = decide (i = j) := by
  by_cases h : i = j
  · subst h
    simp
  · rw [decide_eq_false h, decide_eq_false (fun e => h (V.bl.inj e))]
theorem yl_eqI {i j : Int} (hx : Dd K H0 (.int i) x) (hy : Dd K H0 (.int j) y) (e : Ex H0 H) : Yld H0 H (PD K (.bool (decide (i = j)))) (rEq x y H) := by
  have hx' : x = .int i := hx
  have hy' : y = .int j := hy
  subst hx' hy'
  exact Yld.val (z := .bl (decide (V.int i = V.int j))) e (by rw [dec_int']; rfl) fun Q q => ⟨rfl, q⟩
theorem yl_neI {i j : Int} (hx : Dd K H0 (.int i) x) (hy : Dd K H0 (.int j) y) (e : Ex H0 H) : Yld H0 H (PD K (.bool (!decide (i = j)))) (rNe x y H) := by
  have hx' : x = .int i := hx
  have hy' : y = .int j := hy
  subst hx' hy'
  exact Yld.val (z := .bl (!decide (V.int i = V.int j))) e (by rw [dec_int']; rfl) fun Q q => ⟨rfl, q⟩
theorem yl_eqS {i j : Str} (hx : Dd K H0 (.str i) x) (hy : Dd K H0 (.str j) y) (e : Ex H0 H) : Yld H0 H (PD K (.bool (decide (i = j)))) (rEq x y H) := by
  have hx' : x = .str i := hx
  have hy' : y = .str j := hy
  subst hx' hy'
  exact Yld.val (z := .bl (decide (V.str i = V.str j))) e (by rw [dec_str']; rfl) fun Q q => ⟨rfl, q⟩
theorem yl_neS {i j : Str} (hx : Dd K H0 (.str i) x) (hy : Dd K H0 (.str j) y) (e : Ex H0 H) : Yld H0 H (PD K (.bool (!decide (i = j)))) (rNe x y H) := by
  have hx' : x = .str i := hx
  have hy' : y = .str j := hy
  subst hx' hy'
  exact Yld.val (z := .bl (!decide (V.str i = V.str j))) e (by rw [dec_str']; rfl) fun Q q => ⟨rfl, q⟩
theorem yl_eqB {i j : Bool} (hx : Dd K H0 (.bool i) x) (hy : Dd K H0 (.bool j) y) (e : Ex H0 H) : Yld H0 H (PD K (.bool (decide (i = j)))) (rEq x y H) := by
  have hx' : x = .bl i := hx
  have hy' : y = .bl j := hy
  subst hx' hy'
  exact Yld.val (z := .bl (decide (V.bl i = V.bl j))) e (by rw [dec_bl']; rfl) fun Q q => ⟨rfl, q⟩
theorem yl_neB {i j : Bool} (hx : Dd K H0 (.bool i) x) (hy : Dd K H0 (.bool j) y) (e : Ex H0 H) : Yld H0 H (PD K (.bool (!decide (i = j)))) (rNe x y H) := by
  have hx' : x = .bl i := hx
  have hy' : y = .bl j := hy
  subst hx' hy'
  exact Yld.val (z := .bl (!decide (V.bl i = V.bl j))) e (by rw [dec_bl']; rfl) fun Q q => ⟨rfl, q⟩
theorem yl_eqD {d d' : PyData} (hs : SeqAt.shaped d = true) (hs' : SeqAt.shaped d' = true) (hx : Dd K H0 d x) (hy : Dd K H0 d' y) (e : Ex H0 H) : Yld H0 H (PD K (.bool (PyData.eqv d d'))) (rEqD K x y H) :=
  Yld.val (z := .bl (PyData.eqv d d')) e rfl fun Q q => ⟨d, d', Dd.dp d x (Dd.ex e _ _ hx), Dd.dp d' y (Dd.ex e _ _ hy), hs, hs', q⟩
theorem yl_neD {d d' : PyData} (hs : SeqAt.shaped d = true) (hs' : SeqAt.shaped d' = true) (hx : Dd K H0 d x) (hy : Dd K H0 d' y) (e : Ex H0 H) : Yld H0 H (PD K (.bool (!PyData.eqv d d'))) (rNeD K x y H) :=
  Yld.val (z := .bl (!PyData.eqv d d')) e rfl fun Q q => ⟨d, d', Dd.dp d x (Dd.ex e _ _ hx), Dd.dp d' y (Dd.ex e _ _ hy), hs, hs', q⟩
/-- in a list or a tuple of ints -/
theorem inV_ints (i : Int) : ∀ ns : List Int, inV (.int i) (ns.map V.int) = decide (i ∈ ns)
  | [] => rfl
  | n :: ns => by
    have h := inV_ints i ns
    unfold inV at h ⊢
    rw [List.map_cons, List.any_cons, h]
    show ((n == i) || decide (i ∈ ns)) = decide (i ∈ n :: ns)
    by_cases e : n = i
    · subst e
      simp
    · have e' : ¬ i = n := fun z => e z.symm
      simp [e, e']
theorem flat_ints (ns : List Int) : (ns.map V.int).all flatV = true := by
  rw [List.all_map, List.all_eq_true]
  exact fun _ _ => rfl
theorem yl_inL {i : Int} {ns : List Int} (hx : Dd K H0 (.int i) x) (hy : Dd K H0 (.list (li ns)) y) (e : Ex H0 H) : Yld H0 H (PD K (.bool (decide (i ∈ ns)))) (rIn K false x y H) := by
  obtain ⟨a, xs, ey, h1, h2⟩ := hy
  have hx' : x = .int i := hx
  have e2 := h2.ints
  subst hx' ey e2
  exact Yld.val (z := .bl (inV (.int i) (ns.map V.int))) e (by rw [inV_ints]; rfl) fun Q q => ⟨a, _, rfl, .inl (SqL.of (e _ _ h1)), rfl, flat_ints ns, q⟩
theorem yl_niL {i : Int} {ns : List Int} (hx : Dd K H0 (.int i) x) (hy : Dd K H0 (.list (li ns)) y) (e : Ex H0 H) : Yld H0 H (PD K (.bool (!decide (i ∈ ns)))) (rIn K true x y H) := by
  obtain ⟨a, xs, ey, h1, h2⟩ := hy
  have hx' : x = .int i := hx
  have e2 := h2.ints
  subst hx' ey e2
  exact Yld.val (z := .bl (!inV (.int i) (ns.map V.int))) e (by rw [inV_ints]; rfl) fun Q q => ⟨a, _, rfl, .inl (SqL.of (e _ _ h1)), rfl, flat_ints ns, q⟩
theorem yl_inT {i : Int} {ns : List Int} (hx : Dd K H0 (.int i) x) (hy : Dd K H0 (.tuple (li ns)) y) (e : Ex H0 H) : Yld H0 H (PD K (.bool (decide (i ∈ ns)))) (rIn K false x y H) := by
  obtain ⟨a, xs, ey, h1, h2⟩ := hy
  have hx' : x = .int i := hx
  have e2 := h2.ints
  subst hx' ey e2
  exact Yld.val (z := .bl (inV (.int i) (ns.map V.int))) e (by rw [inV_ints]; rfl) fun Q q => ⟨a, _, rfl, .inr (ex_t e h1), rfl, flat_ints ns, q⟩
theorem yl_niT {i : Int} {ns : List Int} (hx : Dd K H0 (.int i) x) (hy : Dd K H0 (.tuple (li ns)) y) (e : Ex H0 H) : Yld H0 H (PD K (.bool (!decide (i ∈ ns)))) (rIn K true x y H) := by
  obtain ⟨a, xs, ey, h1, h2⟩ := hy
  have hx' : x = .int i := hx
  have e2 := h2.ints
  subst hx' ey e2
  exact Yld.val (z := .bl (!inV (.int i) (ns.map V.int))) e (by rw [inV_ints]; rfl) fun Q q => ⟨a, _, rfl, .inr (ex_t e h1), rfl, flat_ints ns, q⟩
theorem atI_dd {ds : List PyData} {xs : List V} {i : Int} {d : PyData} (h : DdAll K H ds xs) (q : atI ds i = some d) : ∃ v, atI xs i = some v ∧ Dd K H d v := by
  unfold atI at q ⊢
  rw [h.len]
  cases e : ixN ds.length i with
  | none =>
    rw [e] at q
    cases q
  | some j =>
    rw [e] at q
    obtain ⟨v, h1, h2⟩ := h.get (i := j) q
    exact ⟨v, h1, h2⟩
theorem yl_ixL {ds : List PyData} {i : Int} {d : PyData} (q : atI ds i = some d) (hx : Dd K H0 (.list ds) x) (hy : Dd K H0 (.int i) y) (e : Ex H0 H) : Yld H0 H (PD K d) (rIxL K x y H) := by
  obtain ⟨a, xs, ex, h1, h2⟩ := hx
  obtain ⟨v, q1, q2⟩ := atI_dd h2 q
  exact Yld.val (z := v) e q2 fun Q q => ⟨a, xs, i, v, ex, hy, SqL.of (e _ _ h1), q1, q⟩
theorem yl_ixT {ds : List PyData} {i : Int} {d : PyData} (q : atI ds i = some d) (hx : Dd K H0 (.tuple ds) x) (hy : Dd K H0 (.int i) y) (e : Ex H0 H) : Yld H0 H (PD K d) (rIxT K x y H) := by
  obtain ⟨a, xs, ex, h1, h2⟩ := hx
  obtain ⟨v, q1, q2⟩ := atI_dd h2 q
  exact Yld.val (z := v) e q2 fun Q q => ⟨a, xs, i, v, ex, hy, ex_t e h1, q1, q⟩
theorem yl_catL {ds es : List PyData} (hz : ds.length + es.length ≤ 1000000) (hx : Dd K H0 (.list ds) x) (hy : Dd K H0 (.list es) y) (e : Ex H0 H) : Yld H0 H (PD K (.list (ds ++ es))) (rCat x y H) := by
  obtain ⟨a, xs, ex, h1, h2⟩ := hx
  obtain ⟨b, ys, ey, h3, h4⟩ := hy
  exact Yld.newL e (DdAll.app h2 h4) fun Q q => ⟨a, b, xs, ys, ex, ey, e _ _ h1, e _ _ h3, by rw [h2.len, h4.len]; exact sl_big hz, q⟩
theorem dd_rep {ds : List PyData} {xs : List V} (h : DdAll K H ds xs) : ∀ n : Nat, DdAll K H (List.replicate n ds).flatten (List.replicate n xs).flatten
  | 0 => rfl
  | n + 1 => by
    simp only [List.replicate_succ, List.flatten_cons]
    exact DdAll.app h (dd_rep h n)
theorem yl_repL {ds : List PyData} {k : Int} (hk : -(2 ^ 63) ≤ k ∧ k < 2 ^ 63) (hz : ds.length * k.toNat ≤ 1000000) (hx : Dd K H0 (.list ds) x) (hy : Dd K H0 (.int k) y) (e : Ex H0 H) : Yld H0 H (PD K (.list (List.replicate k.toNat ds).flatten)) (rRep x y H) := by
  obtain ⟨a, xs, ex, h1, h2⟩ := hx
  exact Yld.newL e (dd_rep h2 _) fun Q q => ⟨a, k, xs, ex, hy, e _ _ h1, hk.1, hk.2, by rw [h2.len]; exact sl_big hz, q⟩
theorem yl_catT {ds es : List PyData} (hz : ds.length + es.length ≤ 1000000) (hx : Dd K H0 (.tuple ds) x) (hy : Dd K H0 (.tuple es) y) (e : Ex H0 H) : Yld H0 H (PD K (.tuple (ds ++ es))) (rCatA K x y H) := fun Q q => by
  obtain ⟨a, xs, ex, h1, h2⟩ := hx
  obtain ⟨b, ys, ey, h3, h4⟩ := hy
  refine ⟨a, b, xs, ys, ex, ey, ex_t e h1, ex_t e h3, by rw [h2.len, h4.len]; exact sl_big hz, fun z => ?_, fun _ z => ?_, fun _ _ p hp => ?_⟩
  · subst z
    have e1 : ds = [] := List.length_eq_zero_iff.mp (by rw [← h2.len]; rfl)
    subst e1
    exact q _ H0 H (Step.rfl e) ⟨b, ys, rfl, h3, h4⟩
  · subst z
    have e1 : es = [] := List.length_eq_zero_iff.mp (by rw [← h4.len]; rfl)
    subst e1
    rw [List.append_nil] at q
    exact q _ H0 H (Step.rfl e) ⟨a, xs, rfl, h1, h2⟩
  · exact q _ _ _ (Step.new e hp) ⟨p, _, rfl, SqT.of upd_same, DdAll.ex (Ex.new (fresh_back e hp)) _ _ (DdAll.app h2 h4)⟩
end
section
variable {M : Addr → Prop} {Γ Γ' : Ct} {Rs : List Res} {X : Cx} {Z0 Z Hl : Hp} {D : Ends} {K : PySem.W.Frag} {rest : List Stmt} {a b c : Expr} {pos : Pos} {i j k : Int} {s t : Str} {u v : Bool}
theorem xe_add (ha : XE M Γ Rs X a (PD K (.int i))) (hb : XE M Γ Rs X b (PD K (.int j))) : XE M Γ Rs X (.BinOp a .Add b pos) (PD K (.int (i + j))) := xe_bin op_add ha hb fun x y H0 H hx hy e _ => yl_I0 (fun _ => rfl) hx hy e
theorem xe_sub (ha : XE M Γ Rs X a (PD K (.int i))) (hb : XE M Γ Rs X b (PD K (.int j))) : XE M Γ Rs X (.BinOp a .Sub b pos) (PD K (.int (i - j))) := xe_bin op_sub ha hb fun x y H0 H hx hy e _ => yl_I0 (fun _ => rfl) hx hy e
theorem xe_mul (ha : XE M Γ Rs X a (PD K (.int i))) (hb : XE M Γ Rs X b (PD K (.int j))) (h : CMulW i j) : XE M Γ Rs X (.BinOp a .Mult b pos) (PD K (.int (i * j))) := xe_bin op_mulW ha hb fun x y H0 H hx hy e _ => yl_I h (fun _ => rfl) hx hy e
theorem xe_fdiv (ha : XE M Γ Rs X a (PD K (.int i))) (hb : XE M Γ Rs X b (PD K (.int j))) (h : CDivW i j) : XE M Γ Rs X (.BinOp a .FloorDiv b pos) (PD K (.int (i / j))) := xe_bin op_fdivW ha hb fun x y H0 H hx hy e _ => yl_I h (fun _ => rfl) hx hy e
theorem xe_mod (ha : XE M Γ Rs X a (PD K (.int i))) (hb : XE M Γ Rs X b (PD K (.int j))) (h : 0 < j) : XE M Γ Rs X (.BinOp a .Mod b pos) (PD K (.int (i % j))) := xe_bin op_mod ha hb fun x y H0 H hx hy e _ => yl_I h (fun _ => rfl) hx hy e
theorem xe_neg (ha : XE M Γ Rs X a (PD K (.int i))) : XE M Γ Rs X (.UnaryOp .USub a pos) (PD K (.int (-i))) := xe_un un_neg ha fun x H0 H hx e _ => Yld.val (z := .int (-i)) e rfl fun Q q => ⟨i, hx, q⟩
theorem xe_lt (ha : XE M Γ Rs X a (PD K (.int i))) (hb : XE M Γ Rs X b (PD K (.int j))) : XE M Γ Rs X (.Compare a [.Lt] [b] pos) (PD K (.bool (decide (i < j)))) := xe_cmp op_lt ha hb (fun x y H0 H hx hy e _ => yl_I0 (fun _ => rfl) hx hy e) (nomark _)
theorem xe_le (ha : XE M Γ Rs X a (PD K (.int i))) (hb : XE M Γ Rs X b (PD K (.int j))) : XE M Γ Rs X (.Compare a [.LtE] [b] pos) (PD K (.bool (decide (i ≤ j)))) := xe_cmp op_le ha hb (fun x y H0 H hx hy e _ => yl_I0 (fun _ => rfl) hx hy e) (nomark _)
theorem xe_gt (ha : XE M Γ Rs X a (PD K (.int i))) (hb : XE M Γ Rs X b (PD K (.int j))) : XE M Γ Rs X (.Compare a [.Gt] [b] pos) (PD K (.bool (decide (j < i)))) := xe_cmp op_gt ha hb (fun x y H0 H hx hy e _ => yl_I0 (fun _ => rfl) hx hy e) (nomark _)
theorem xe_ge (ha : XE M Γ Rs X a (PD K (.int i))) (hb : XE M Γ Rs X b (PD K (.int j))) : XE M Γ Rs X (.Compare a [.GtE] [b] pos) (PD K (.bool (decide (j ≤ i)))) := xe_cmp op_ge ha hb (fun x y H0 H hx hy e _ => yl_I0 (fun _ => rfl) hx hy e) (nomark _)
theorem xe_eqI (ha : XE M Γ Rs X a (PD K (.int i))) (hb : XE M Γ Rs X b (PD K (.int j))) : XE M Γ Rs X (.Compare a [.Eq] [b] pos) (PD K (.bool (decide (i = j)))) := xe_cmp op_eq ha hb (fun x y H0 H hx hy e _ => yl_eqI hx hy e) (nomark _)
theorem xe_neI (ha : XE M Γ Rs X a (PD K (.int i))) (hb : XE M Γ Rs X b (PD K (.int j))) : XE M Γ Rs X (.Compare a [.NotEq] [b] pos) (PD K (.bool (!decide (i = j)))) := xe_cmp op_ne ha hb (fun x y H0 H hx hy e _ => yl_neI hx hy e) (nomark _)
theorem xe_eqS (ha : XE M Γ Rs X a (PD K (.str s))) (hb : XE M Γ Rs X b (PD K (.str t))) : XE M Γ Rs X (.Compare a [.Eq] [b] pos) (PD K (.bool (decide (s = t)))) := xe_cmp op_eq ha hb (fun x y H0 H hx hy e _ => yl_eqS hx hy e) (nomark _)
theorem xe_neS (ha : XE M Γ Rs X a (PD K (.str s))) (hb : XE M Γ Rs X b (PD K (.str t))) : XE M Γ Rs X (.Compare a [.NotEq] [b] pos) (PD K (.bool (!decide (s = t)))) := xe_cmp op_ne ha hb (fun x y H0 H hx hy e _ => yl_neS hx hy e) (nomark _)
theorem xe_eqB (ha : XE M Γ Rs X a (PD K (.bool u))) (hb : XE M Γ Rs X b (PD K (.bool v))) : XE M Γ Rs X (.Compare a [.Eq] [b] pos) (PD K (.bool (decide (u = v)))) := xe_cmp op_eq ha hb (fun x y H0 H hx hy e _ => yl_eqB hx hy e) (nomark _)
theorem xe_neB (ha : XE M Γ Rs X a (PD K (.bool u))) (hb : XE M Γ Rs X b (PD K (.bool v))) : XE M Γ Rs X (.Compare a [.NotEq] [b] pos) (PD K (.bool (!decide (u = v)))) := xe_cmp op_ne ha hb (fun x y H0 H hx hy e _ => yl_neB hx hy e) (nomark _)
theorem xt_lt (ha : XE M Γ Rs X a (PD K (.int i))) (hb : XE M Γ Rs X b (PD K (.int j))) : XT M Γ Rs X (.Compare a [.Lt] [b] pos) (Is (decide (i < j))) := xt_cmp (K := K) op_lt ha hb (fun x y H0 H hx hy e _ => (yl_I0 (g := fun i j => .bl (decide (i < j))) (d := .bool (decide (i < j))) (fun _ => rfl) hx hy e).pb) (nomark _)
theorem xt_le (ha : XE M Γ Rs X a (PD K (.int i))) (hb : XE M Γ Rs X b (PD K (.int j))) : XT M Γ Rs X (.Compare a [.LtE] [b] pos) (Is (decide (i ≤ j))) := xt_cmp (K := K) op_le ha hb (fun x y H0 H hx hy e _ => (yl_I0 (g := fun i j => .bl (decide (i ≤ j))) (d := .bool (decide (i ≤ j))) (fun _ => rfl) hx hy e).pb) (nomark _)
theorem xt_gt (ha : XE M Γ Rs X a (PD K (.int i))) (hb : XE M Γ Rs X b (PD K (.int j))) : XT M Γ Rs X (.Compare a [.Gt] [b] pos) (Is (decide (j < i))) := xt_cmp (K := K) op_gt ha hb (fun x y H0 H hx hy e _ => (yl_I0 (g := fun i j => .bl (decide (j < i))) (d := .bool (decide (j < i))) (fun _ => rfl) hx hy e).pb) (nomark _)
theorem xt_ge (ha : XE M Γ Rs X a (PD K (.int i))) (hb : XE M Γ Rs X b (PD K (.int j))) : XT M Γ Rs X (.Compare a [.GtE] [b] pos) (Is (decide (j ≤ i))) := xt_cmp (K := K) op_ge ha hb (fun x y H0 H hx hy e _ => (yl_I0 (g := fun i j => .bl (decide (j ≤ i))) (d := .bool (decide (j ≤ i))) (fun _ => rfl) hx hy e).pb) (nomark _)
theorem xt_eqI (ha : XE M Γ Rs X a (PD K (.int i))) (hb : XE M Γ Rs X b (PD K (.int j))) : XT M Γ Rs X (.Compare a [.Eq] [b] pos) (Is (decide (i = j))) := xt_cmp (K := K) op_eq ha hb (fun x y H0 H hx hy e _ => (yl_eqI hx hy e).pb) (nomark _)
theorem xt_neI (ha : XE M Γ Rs X a (PD K (.int i))) (hb : XE M Γ Rs X b (PD K (.int j))) : XT M Γ Rs X (.Compare a [.NotEq] [b] pos) (Is (!decide (i = j))) := xt_cmp (K := K) op_ne ha hb (fun x y H0 H hx hy e _ => (yl_neI hx hy e).pb) (nomark _)
theorem xt_eqS (ha : XE M Γ Rs X a (PD K (.str s))) (hb : XE M Γ Rs X b (PD K (.str t))) : XT M Γ Rs X (.Compare a [.Eq] [b] pos) (Is (decide (s = t))) := xt_cmp (K := K) op_eq ha hb (fun x y H0 H hx hy e _ => (yl_eqS hx hy e).pb) (nomark _)
theorem xt_neS (ha : XE M Γ Rs X a (PD K (.str s))) (hb : XE M Γ Rs X b (PD K (.str t))) : XT M Γ Rs X (.Compare a [.NotEq] [b] pos) (Is (!decide (s = t))) := xt_cmp (K := K) op_ne ha hb (fun x y H0 H hx hy e _ => (yl_neS hx hy e).pb) (nomark _)
theorem xt_eqB (ha : XE M Γ Rs X a (PD K (.bool u))) (hb : XE M Γ Rs X b (PD K (.bool v))) : XT M Γ Rs X (.Compare a [.Eq] [b] pos) (Is (decide (u = v))) := xt_cmp (K := K) op_eq ha hb (fun x y H0 H hx hy e _ => (yl_eqB hx hy e).pb) (nomark _)
theorem xt_neB (ha : XE M Γ Rs X a (PD K (.bool u))) (hb : XE M Γ Rs X b (PD K (.bool v))) : XT M Γ Rs X (.Compare a [.NotEq] [b] pos) (Is (!decide (u = v))) := xt_cmp (K := K) op_ne ha hb (fun x y H0 H hx hy e _ => (yl_neB hx hy e).pb) (nomark _)
theorem room_u {n : Nat} (hr : Room n X.A) : X.A.units + 64 < cLine := by
  have := hr.un
  omega
theorem xe_eqD {d d' : PyData} {n : Nat} (hr : Room n X.A) (ha : XE M Γ Rs X a (PD X.K d)) (hb : XE M Γ Rs X b (PD X.K d')) (hs : SeqAt.shaped d = true) (hs' : SeqAt.shaped d' = true) : XE M Γ Rs X (.Compare a [.Eq] [b] pos) (PD X.K (.bool (PyData.eqv d d'))) := xe_cmp (op_eqD (room_u hr)) ha hb (fun x y H0 H hx hy e _ => yl_eqD hs hs' hx hy e) (nomark _)
theorem xe_neD {d d' : PyData} {n : Nat} (hr : Room n X.A) (ha : XE M Γ Rs X a (PD X.K d)) (hb : XE M Γ Rs X b (PD X.K d')) (hs : SeqAt.shaped d = true) (hs' : SeqAt.shaped d' = true) : XE M Γ Rs X (.Compare a [.NotEq] [b] pos) (PD X.K (.bool (!PyData.eqv d d'))) := xe_cmp (op_neD (room_u hr)) ha hb (fun x y H0 H hx hy e _ => yl_neD hs hs' hx hy e) (nomark _)
theorem xt_eqD {d d' : PyData} {n : Nat} (hr : Room n X.A) (ha : XE M Γ Rs X a (PD X.K d)) (hb : XE M Γ Rs X b (PD X.K d')) (hs : SeqAt.shaped d = true) (hs' : SeqAt.shaped d' = true) : XT M Γ Rs X (.Compare a [.Eq] [b] pos) (Is (PyData.eqv d d')) := xt_cmp (K := X.K) (op_eqD (room_u hr)) ha hb (fun x y H0 H hx hy e _ => (yl_eqD hs hs' hx hy e).pb) (nomark _)
theorem xt_neD {d d' : PyData} {n : Nat} (hr : Room n X.A) (ha : XE M Γ Rs X a (PD X.K d)) (hb : XE M Γ Rs X b (PD X.K d')) (hs : SeqAt.shaped d = true) (hs' : SeqAt.shaped d' = true) : XT M Γ Rs X (.Compare a [.NotEq] [b] pos) (Is (!PyData.eqv d d')) := xt_cmp (K := X.K) (op_neD (room_u hr)) ha hb (fun x y H0 H hx hy e _ => (yl_neD hs hs' hx hy e).pb) (nomark _)
theorem xe_inL {ns : List Int} (ha : XE M Γ Rs X a (PD X.K (.int i))) (hb : XE M Γ Rs X b (PD X.K (.list (li ns)))) (hm : behindInMarks .In b = false := by rfl) : XE M Γ Rs X (.Compare a [.In] [b] pos) (PD X.K (.bool (decide (i ∈ ns)))) := xe_cmp op_in_seq ha hb (fun x y H0 H hx hy e _ => yl_inL hx hy e) hm
theorem xe_inT {ns : List Int} (ha : XE M Γ Rs X a (PD X.K (.int i))) (hb : XE M Γ Rs X b (PD X.K (.tuple (li ns)))) (hm : behindInMarks .In b = false := by rfl) : XE M Γ Rs X (.Compare a [.In] [b] pos) (PD X.K (.bool (decide (i ∈ ns)))) := xe_cmp op_in_seq ha hb (fun x y H0 H hx hy e _ => yl_inT hx hy e) hm
theorem xe_niL {ns : List Int} (ha : XE M Γ Rs X a (PD X.K (.int i))) (hb : XE M Γ Rs X b (PD X.K (.list (li ns)))) (hm : behindInMarks .NotIn b = false := by rfl) : XE M Γ Rs X (.Compare a [.NotIn] [b] pos) (PD X.K (.bool (!decide (i ∈ ns)))) := xe_cmp op_notIn_seq ha hb (fun x y H0 H hx hy e _ => yl_niL hx hy e) hm
theorem xe_niT {ns : List Int} (ha : XE M Γ Rs X a (PD X.K (.int i))) (hb : XE M Γ Rs X b (PD X.K (.tuple (li ns)))) (hm : behindInMarks .NotIn b = false := by rfl) : XE M Γ Rs X (.Compare a [.NotIn] [b] pos) (PD X.K (.bool (!decide (i ∈ ns)))) := xe_cmp op_notIn_seq ha hb (fun x y H0 H hx hy e _ => yl_niT hx hy e) hm
theorem xt_inL {ns : List Int} (ha : XE M Γ Rs X a (PD X.K (.int i))) (hb : XE M Γ Rs X b (PD X.K (.list (li ns)))) (hm : behindInMarks .In b = false := by rfl) : XT M Γ Rs X (.Compare a [.In] [b] pos) (Is (decide (i ∈ ns))) := xt_cmp (K := X.K) op_in_seq ha hb (fun x y H0 H hx hy e _ => (yl_inL hx hy e).pb) hm
theorem xt_inT {ns : List Int} (ha : XE M Γ Rs X a (PD X.K (.int i))) (hb : XE M Γ Rs X b (PD X.K (.tuple (li ns)))) (hm : behindInMarks .In b = false := by rfl) : XT M Γ Rs X (.Compare a [.In] [b] pos) (Is (decide (i ∈ ns))) := xt_cmp (K := X.K) op_in_seq ha hb (fun x y H0 H hx hy e _ => (yl_inT hx hy e).pb) hm
theorem xt_niL {ns : List Int} (ha : XE M Γ Rs X a (PD X.K (.int i))) (hb : XE M Γ Rs X b (PD X.K (.list (li ns)))) (hm : behindInMarks .NotIn b = false := by rfl) : XT M Γ Rs X (.Compare a [.NotIn] [b] pos) (Is (!decide (i ∈ ns))) := xt_cmp (K := X.K) op_notIn_seq ha hb (fun x y H0 H hx hy e _ => (yl_niL hx hy e).pb) hm
theorem xt_niT {ns : List Int} (ha : XE M Γ Rs X a (PD X.K (.int i))) (hb : XE M Γ Rs X b (PD X.K (.tuple (li ns)))) (hm : behindInMarks .NotIn b = false := by rfl) : XT M Γ Rs X (.Compare a [.NotIn] [b] pos) (Is (!decide (i ∈ ns))) := xt_cmp (K := X.K) op_notIn_seq ha hb (fun x y H0 H hx hy e _ => (yl_niT hx hy e).pb) hm
/-! ### items, slices, sums of lists -/
theorem xe_ixL {ds : List PyData} {d : PyData} (ha : XE M Γ Rs X a (PD X.K (.list ds))) (hb : XE M Γ Rs X b (PD X.K (.int i))) (h : atI ds i = some d) (hs : PlainIx b := by exact fun _ _ => rfl) : XE M Γ Rs X (.Subscript a b pos) (PD X.K d) := YE.wp (pe_ix ix_list pe_wp pe_wp hs) (ye_op ha hb fun x y H0 H hx hy e _ => yl_ixL h hx hy e)
theorem xe_ixT {ds : List PyData} {d : PyData} (ha : XE M Γ Rs X a (PD X.K (.tuple ds))) (hb : XE M Γ Rs X b (PD X.K (.int i))) (h : atI ds i = some d) (hs : PlainIx b := by exact fun _ _ => rfl) : XE M Γ Rs X (.Subscript a b pos) (PD X.K d) := YE.wp (pe_ix ix_tup pe_wp pe_wp hs) (ye_op ha hb fun x y H0 H hx hy e _ => yl_ixT h hx hy e)
/-- at a place that is one of many -/
theorem xe_ixLE {ds : List PyData} {A : Int → Prop} {B : PyData → Prop} (ha : XE M Γ Rs X a (PD X.K (.list ds))) (hb : XE M Γ Rs X b (PEx A fun k => PD X.K (.int k))) (h : ∀ k, A k → ∃ d, atI ds k = some d ∧ B d) (hs : PlainIx b := by exact fun _ _ => rfl) : XE M Γ Rs X (.Subscript a b pos) (PEx B fun d => PD X.K d) :=
  YE.wp (pe_ix ix_list pe_wp pe_wp hs) (ye_op ha hb fun x y H0 H hx ⟨k, hk, hy⟩ e _ => by
    obtain ⟨d, h1, h2⟩ := h k hk
    exact fun Q q => yl_ixL h1 hx hy e Q fun v A G s p => q v A G s ⟨d, h2, p⟩)
theorem xe_catL {ds es : List PyData} (ha : XE M Γ Rs X a (PD K (.list ds))) (hb : XE M Γ Rs X b (PD K (.list es))) (hz : ds.length + es.length ≤ 1000000) : XE M Γ Rs X (.BinOp a .Add b pos) (PD K (.list (ds ++ es))) := xe_bin op_cat ha hb fun x y H0 H hx hy e _ => yl_catL hz hx hy e
theorem xe_catT {ds es : List PyData} (ha : XE M Γ Rs X a (PD X.K (.tuple ds))) (hb : XE M Γ Rs X b (PD X.K (.tuple es))) (hz : ds.length + es.length ≤ 1000000) : XE M Γ Rs X (.BinOp a .Add b pos) (PD X.K (.tuple (ds ++ es))) := xe_bin op_catA ha hb fun x y H0 H hx hy e _ => yl_catT hz hx hy e
theorem xe_repL {ds : List PyData} (ha : XE M Γ Rs X a (PD K (.list ds))) (hb : XE M Γ Rs X b (PD K (.int k))) (hk : -(2 ^ 63) ≤ k ∧ k < 2 ^ 63) (hz : ds.length * k.toNat ≤ 1000000) : XE M Γ Rs X (.BinOp a .Mult b pos) (PD K (.list (List.replicate k.toNat ds).flatten)) := xe_bin op_rep ha hb fun x y H0 H hx hy e _ => yl_repL hk hz hx hy e
/-- one argument -/
theorem da1 {P : Pd} {xs : List V} {H : Hp} (h : DAll [P] xs H) : ∃ x, xs = [x] ∧ P.p x H := by
  obtain ⟨x, r, e, h1, h2⟩ := h.inv
  have e2 := h2.nil_inv
  subst e e2
  exact ⟨x, rfl, h1⟩
theorem da2 {P Q : Pd} {xs : List V} {H : Hp} (h : DAll [P, Q] xs H) : ∃ x y, xs = [x, y] ∧ P.p x H ∧ Q.p y H := by
  obtain ⟨x, r, e, h1, h2⟩ := h.inv
  obtain ⟨y, e2, h3⟩ := da1 h2
  subst e e2
  exact ⟨x, y, rfl, h1, h3⟩
theorem da3 {P Q R : Pd} {xs : List V} {H : Hp} (h : DAll [P, Q, R] xs H) : ∃ x y z, xs = [x, y, z] ∧ P.p x H ∧ Q.p y H ∧ R.p z H := by
  obtain ⟨x, r, e, h1, h2⟩ := h.inv
  obtain ⟨y, z, e2, h3, h4⟩ := da2 h2
  subst e e2
  exact ⟨x, y, z, rfl, h1, h3, h4⟩
variable {p : Pos}
theorem xe_lenL {ds : List PyData} (hm : X.mg "len" = none) (h : XE M Γ Rs X a (PD X.K (.list ds))) (hg : Gl X "len" := by rfl) (he : starEach [a] X.env = (false, eval a X.env) :: starEach [] X.env := by rfl) : XE M Γ Rs X (.Call (.Name "len" p) [a] [] pos) (PD X.K (.int (ds.length : Int))) :=
  xe_callB call_len_seq hm PySem.boot_len (xa_1 h he) (fun xs H0 H hx e _ => by
    obtain ⟨x, e1, q, ys, e2, h1, h2⟩ := da1 hx
    subst e1 e2
    exact Yld.val (z := .int (ys.length : Int)) e (by rw [h2.len]; rfl) fun Q k => ⟨q, ys, rfl, .inl (SqL.of (e _ _ h1)), k⟩) hg (by decide) (by decide) he rfl
theorem xe_lenT {ds : List PyData} (hm : X.mg "len" = none) (h : XE M Γ Rs X a (PD X.K (.tuple ds))) (hg : Gl X "len" := by rfl) (he : starEach [a] X.env = (false, eval a X.env) :: starEach [] X.env := by rfl) : XE M Γ Rs X (.Call (.Name "len" p) [a] [] pos) (PD X.K (.int (ds.length : Int))) :=
  xe_callB call_len_seq hm PySem.boot_len (xa_1 h he) (fun xs H0 H hx e _ => by
    obtain ⟨x, e1, q, ys, e2, h1, h2⟩ := da1 hx
    subst e1 e2
    exact Yld.val (z := .int (ys.length : Int)) e (by rw [h2.len]; rfl) fun Q k => ⟨q, ys, rfl, .inr (ex_t e h1), k⟩) hg (by decide) (by decide) he rfl
theorem xe_intI (hm : X.mg "int" = none) (h : XE M Γ Rs X a (PD K (.int i))) (hg : Gl X "int" := by rfl) (he : starEach [a] X.env = (false, eval a X.env) :: starEach [] X.env := by rfl) : XE M Γ Rs X (.Call (.Name "int" p) [a] [] pos) (PD K (.int i)) :=
  xe_callTy call_int1 hm (by decide +kernel) (xa_1 h he) (fun xs H0 H hx e _ => by
    obtain ⟨x, e1, q⟩ := da1 hx
    have q' : x = .int i := q
    subst e1 q'
    exact Yld.val (z := .int i) e rfl fun Q k => .inl ⟨i, rfl, k⟩) hg (by decide) (by decide) he rfl
def b2n (b : Bool) : Int := if b then 1 else 0
theorem xe_intB (hm : X.mg "int" = none) (h : XE M Γ Rs X a (PD K (.bool u))) (hg : Gl X "int" := by rfl) (he : starEach [a] X.env = (false, eval a X.env) :: starEach [] X.env := by rfl) : XE M Γ Rs X (.Call (.Name "int" p) [a] [] pos) (PD K (.int (b2n u))) :=
  xe_callTy call_int1 hm (by decide +kernel) (xa_1 h he) (fun xs H0 H hx e _ => by
    obtain ⟨x, e1, q⟩ := da1 hx
    have q' : x = .bl u := q
    subst e1 q'
    exact Yld.val (z := .int (b2n u)) e rfl fun Q k => .inr ⟨u, rfl, k⟩) hg (by decide) (by decide) he rfl
theorem xe_sumL {ns : List Int} (hm : X.mg "sum" = none) (h : XE M Γ Rs X a (PD X.K (.list (li ns)))) (hc : X.calm = true := by rfl) (hg : Gl X "sum" := by rfl) (he : starEach [a] X.env = (false, eval a X.env) :: starEach [] X.env := by rfl) : XE M Γ Rs X (.Call (.Name "sum" p) [a] [] pos) (PD X.K (.int ns.sum)) :=
  xe_callB (cr_sum hc) hm (by decide +kernel) (xa_1 h he) (fun xs H0 H hx e _ => by
    obtain ⟨x, e1, q, ys, e2, h1, h2⟩ := da1 hx
    have e3 := h2.ints
    subst e1 e2 e3
    exact Yld.val (z := .int ns.sum) e rfl fun Q k => ⟨q, ns, rfl, SqL.of (e _ _ h1), k⟩) hg (by decide) (by decide) he rfl
theorem xe_sumT {ns : List Int} (hm : X.mg "sum" = none) (h : XE M Γ Rs X a (PD X.K (.tuple (li ns)))) (hc : X.calm = true := by rfl) (hg : Gl X "sum" := by rfl) (he : starEach [a] X.env = (false, eval a X.env) :: starEach [] X.env := by rfl) : XE M Γ Rs X (.Call (.Name "sum" p) [a] [] pos) (PD X.K (.int ns.sum)) :=
  xe_callB (LhS.cr_sumT hc) hm (by decide +kernel) (xa_1 h he) (fun xs H0 H hx e _ => by
    obtain ⟨x, e1, q, ys, e2, h1, h2⟩ := da1 hx
    have e3 := h2.ints
    subst e1 e2 e3
    exact Yld.val (z := .int ns.sum) e rfl fun Q k => ⟨q, ns, rfl, ex_t e h1, k⟩) hg (by decide) (by decide) he rfl
theorem xe_min2 (hm : X.mg "min" = none) (h : XE M Γ Rs X a (PD K (.int i))) (h' : XE M Γ Rs X b (PD K (.int j))) (hc : X.calm = true := by rfl) (hg : Gl X "min" := by rfl) (he : starEach [a, b] X.env = (false, eval a X.env) :: starEach [b] X.env := by rfl) (he2 : starEach [b] X.env = (false, eval b X.env) :: starEach [] X.env := by rfl) (hpl : (backTo pos (starEach [b] X.env)).any (·.1) = false := by rfl) :
    XE M Γ Rs X (.Call (.Name "min" p) [a, b] [] pos) (PD K (.int (min i j))) :=
  xe_callB (call_min2 hc) hm (by decide +kernel) (xa_cons h (xa_1 h' he2) he) (fun xs H0 H hx e _ => by
    obtain ⟨x, y, e1, q1, q2⟩ := da2 hx
    have q1' : x = .int i := q1
    have q2' : y = .int j := q2
    subst e1 q1' q2'
    have z : (if j < i then j else i) = min i j := by omega
    exact Yld.val (z := .int (min i j)) e rfl fun Q k => ⟨i, j, rfl, by rw [z]; exact k⟩) hg (by decide) (by decide) he hpl
theorem xe_max2 (hm : X.mg "max" = none) (h : XE M Γ Rs X a (PD K (.int i))) (h' : XE M Γ Rs X b (PD K (.int j))) (hc : X.calm = true := by rfl) (hg : Gl X "max" := by rfl) (he : starEach [a, b] X.env = (false, eval a X.env) :: starEach [b] X.env := by rfl) (he2 : starEach [b] X.env = (false, eval b X.env) :: starEach [] X.env := by rfl) (hpl : (backTo pos (starEach [b] X.env)).any (·.1) = false := by rfl) :
    XE M Γ Rs X (.Call (.Name "max" p) [a, b] [] pos) (PD K (.int (max i j))) :=
  xe_callB (call_max2 hc) hm (by decide +kernel) (xa_cons h (xa_1 h' he2) he) (fun xs H0 H hx e _ => by
    obtain ⟨x, y, e1, q1, q2⟩ := da2 hx
    have q1' : x = .int i := q1
    have q2' : y = .int j := q2
    subst e1 q1' q2'
    have z : (if j > i then j else i) = max i j := by omega
    exact Yld.val (z := .int (max i j)) e rfl fun Q k => ⟨i, j, rfl, by rw [z]; exact k⟩) hg (by decide) (by decide) he hpl
theorem xe_listL {ds : List PyData} (hm : X.mg "list" = none) (h : XE M Γ Rs X a (PD X.K (.list ds))) (hg : Gl X "list" := by rfl) (he : starEach [a] X.env = (false, eval a X.env) :: starEach [] X.env := by rfl) : XE M Γ Rs X (.Call (.Name "list" p) [a] [] pos) (PD X.K (.list ds)) :=
  xe_callTy call_list_of hm (by decide +kernel) (xa_1 h he) (fun xs H0 H hx e _ => by
    obtain ⟨x, e1, q, ys, e2, h1, h2⟩ := da1 hx
    subst e1 e2
    exact Yld.newL e h2 fun Q k => ⟨q, ys, rfl, .inl (SqL.of (e _ _ h1)), k⟩) hg (by decide) (by decide) he rfl
theorem xe_listT {ds : List PyData} (hm : X.mg "list" = none) (h : XE M Γ Rs X a (PD X.K (.tuple ds))) (hg : Gl X "list" := by rfl) (he : starEach [a] X.env = (false, eval a X.env) :: starEach [] X.env := by rfl) : XE M Γ Rs X (.Call (.Name "list" p) [a] [] pos) (PD X.K (.list ds)) :=
  xe_callTy call_list_of hm (by decide +kernel) (xa_1 h he) (fun xs H0 H hx e _ => by
    obtain ⟨x, e1, q, ys, e2, h1, h2⟩ := da1 hx
    subst e1 e2
    exact Yld.newL e h2 fun Q k => ⟨q, ys, rfl, .inr (ex_t e h1), k⟩) hg (by decide) (by decide) he rfl
theorem xe_tupL {ds : List PyData} (hm : X.mg "tuple" = none) (h : XE M Γ Rs X a (PD X.K (.list ds))) (hg : Gl X "tuple" := by rfl) (he : starEach [a] X.env = (false, eval a X.env) :: starEach [] X.env := by rfl) : XE M Γ Rs X (.Call (.Name "tuple" p) [a] [] pos) (PD X.K (.tuple ds)) :=
  xe_callTy call_tuple_of hm (by decide +kernel) (xa_1 h he) (fun xs H0 H hx e _ => by
    obtain ⟨x, e1, q, ys, e2, h1, h2⟩ := da1 hx
    subst e1 e2
    exact Yld.newT e h2 fun Q k => ⟨q, ys, rfl, .inl ⟨SqL.of (e _ _ h1), k⟩⟩) hg (by decide) (by decide) he rfl
theorem xe_tupT {ds : List PyData} (hm : X.mg "tuple" = none) (h : XE M Γ Rs X a (PD X.K (.tuple ds))) (hg : Gl X "tuple" := by rfl) (he : starEach [a] X.env = (false, eval a X.env) :: starEach [] X.env := by rfl) : XE M Γ Rs X (.Call (.Name "tuple" p) [a] [] pos) (PD X.K (.tuple ds)) :=
  xe_callTy call_tupleT hm (by decide +kernel) (xa_1 h he) (fun xs H0 H hx e _ => by
    obtain ⟨x, e1, q, ys, e2, h1, h2⟩ := da1 hx
    subst e1 e2
    exact Yld.val (z := .ref q) e ⟨q, ys, rfl, h1, h2⟩ fun Q k => ⟨q, ys, rfl, ex_t e h1, k⟩) hg (by decide) (by decide) he rfl
theorem xe_allL {bs : List Bool} (hm : X.mg "all" = none) (h : XE M Γ Rs X a (PD X.K (.list (bs.map PyData.bool)))) (hc : X.calm = true := by rfl) (hg : Gl X "all" := by rfl) (he : starEach [a] X.env = (false, eval a X.env) :: starEach [] X.env := by rfl) : XE M Γ Rs X (.Call (.Name "all" p) [a] [] pos) (PD X.K (.bool (bs.all id))) :=
  xe_callB (cr_all hc) hm (by decide +kernel) (xa_1 h he) (fun xs H0 H hx e _ => by
    obtain ⟨x, e1, q, ys, e2, h1, h2⟩ := da1 hx
    have bl : ∀ (bs : List Bool) (ys : List V), DdAll X.K H0 (bs.map PyData.bool) ys → ys = bs.map V.bl := fun bs => by
      induction bs with
      | nil => exact fun ys h => h
      | cons b bs ih =>
        rintro ys ⟨x, r, h1, h2, h3⟩
        have e : x = V.bl b := h2
        subst h1
        rw [e, ih r h3]
        rfl
    have e3 := bl bs ys h2
    subst e1 e2 e3
    exact Yld.val (z := .bl (bs.all id)) e rfl fun Q k => ⟨q, bs, rfl, SqL.of (e _ _ h1), k⟩) hg (by decide) (by decide) he rfl
/-- sorted of a list of ints -/
theorem xe_sortL {ns ms : List Int} (hm : X.mg "sorted" = none) (h : XE M Γ Rs X a (PD X.K (.list (li ns)))) (hz : ns.length < 64) (hs : ∀ ns' : List Int, ns'.Perm ns → ns'.Pairwise (· ≤ ·) → ns' = ms) (hg : Gl X "sorted" := by rfl) (he : starEach [a] X.env = (false, eval a X.env) :: starEach [] X.env := by rfl) :
    XE M Γ Rs X (.Call (.Name "sorted" p) [a] [] pos) (PD X.K (.list (li ms))) :=
  xe_callB cr_sorted hm (by decide +kernel) (xa_1 h he) (fun xs H0 H hx e _ => by
    obtain ⟨x, e1, q, ys, e2, h1, h2⟩ := da1 hx
    have e3 := h2.ints
    subst e1 e2 e3
    exact Yld.newL e (DdAll.of_ints ms) fun Q k => ⟨q, ns, rfl, SqL.of (e _ _ h1), hz, fun ns' p hp hw hn => by rw [hs ns' hp hw]; exact k p hn⟩) hg (by decide) (by decide) he rfl
theorem rgV_eq (n : Int) : rgV 0 n = (rgI 0 n.toNat).map V.int := by
  unfold rgV rgI
  rw [List.map_map, Int.sub_zero]
  rfl
theorem xe_listRg {n : Int} {p2 pos2 : Pos} (hm : X.mg "list" = none) (hm2 : X.mg "range" = none) (h : XE M Γ Rs X a (PD X.K (.int n))) (hn : 0 ≤ n ∧ n ≤ 1000000) (hc : X.calm = true := by rfl) (hg : Gl X "list" := by rfl) (hg2 : Gl X "range" := by rfl) (he : starEach [a] X.env = (false, eval a X.env) :: starEach [] X.env := by rfl)
    (he2 : starEach [.Call (.Name "range" p2) [a] [] pos2] X.env = (false, eval (.Call (.Name "range" p2) [a] [] pos2) X.env) :: starEach [] X.env := by rfl) : XE M Γ Rs X (.Call (.Name "list" p) [.Call (.Name "range" p2) [a] [] pos2] [] pos) (PD X.K (.list (li (rgI 0 n.toNat)))) :=
  YE.wp (pe_listRg hc hg hm (prg_1 hg2 hm2 pe_wp he) he2) fun σ H0 H l e k Q q => h σ H0 H l e k _ fun v H1 G1 s1 k1 hv => ⟨n, hv, RgOk.of_le (by omega) (by omega) (by omega) (by omega), fun d hd => by
    rw [rgV_eq]
    exact q _ (upd H1 d (.lst ((rgI 0 n.toNat).map V.int))) _ (s1.trans (Step.new s1.le hd)) (k1.step0 (Step.new s1.le hd)) ⟨d, _, rfl, upd_same, DdAll.of_ints _⟩⟩
theorem xe_tupRg {n : Int} {p2 pos2 : Pos} (hm : X.mg "tuple" = none) (hm2 : X.mg "range" = none) (h : XE M Γ Rs X a (PD X.K (.int n))) (hn : 0 ≤ n ∧ n ≤ 1000000) (hc : X.calm = true := by rfl) (hg : Gl X "tuple" := by rfl) (hg2 : Gl X "range" := by rfl) (he : starEach [a] X.env = (false, eval a X.env) :: starEach [] X.env := by rfl)
    (he2 : starEach [.Call (.Name "range" p2) [a] [] pos2] X.env = (false, eval (.Call (.Name "range" p2) [a] [] pos2) X.env) :: starEach [] X.env := by rfl) : XE M Γ Rs X (.Call (.Name "tuple" p) [.Call (.Name "range" p2) [a] [] pos2] [] pos) (PD X.K (.tuple (li (rgI 0 n.toNat)))) :=
  YE.wp (pe_tupRg hc hg hm (prg_1 hg2 hm2 pe_wp he) he2) fun σ H0 H l e k Q q => h σ H0 H l e k _ fun v H1 G1 s1 k1 hv => ⟨n, hv, RgOk.of_le (by omega) (by omega) (by omega) (by omega), fun d hd => by
    rw [rgV_eq]
    exact q _ (upd H1 d (.tup ((rgI 0 n.toNat).map V.int))) _ (s1.trans (Step.new s1.le hd)) (k1.step0 (Step.new s1.le hd)) ⟨d, _, rfl, SqT.of upd_same, DdAll.of_ints _⟩⟩
end
end Lh
namespace Lh
open PySem L2
open Evl (Ex ex_l ex_t ex_rd fresh_back)
section
variable {M : Addr → Prop} {Γ Γ' : Ct} {Rs : List Res} {X : Cx} {Z0 Z Hl : Hp} {D : Ends} {K : PySem.W.Frag} {rest : List Stmt} {a b c : Expr} {pos p : Pos} {i j k : Int}
theorem YT.is {t : TT} {B : Bool → Prop} {v : Bool} (h : YT M Γ Rs t B) (e : ∀ b, B b → b = v) : YT M Γ Rs t (Is v) := h.imp e
theorem xt_truT {ds : List PyData} (h : XE M Γ Rs X a (PD X.K (.tuple ds))) (he : ∀ whole, isTrue a X.env whole = (do let v ← whole; standAt a.pos; holding [v] (truthy v)) := by intro _; rfl) : XT M Γ Rs X a (Is (!ds.isEmpty)) := YT.wp (pt_truth pe_wp he) fun σ H0 H l e k Q q =>
  h σ H0 H l e k _ fun v H1 G1 s1 k1 ⟨a, xs, e1, h1, h2⟩ => by
    subst e1
    refine ⟨!xs.isEmpty, .inr (.inl ⟨xs, ex_t s1.le h1, rfl⟩), q _ H1 G1 s1 k1 ?_⟩
    have := h2.len
    cases xs <;> cases ds <;> simp at this ⊢
theorem xt_truL {ds : List PyData} (h : XE M Γ Rs X a (PD X.K (.list ds))) (he : ∀ whole, isTrue a X.env whole = (do let v ← whole; standAt a.pos; holding [v] (truthy v)) := by intro _; rfl) : XT M Γ Rs X a (Is (!ds.isEmpty)) := YT.wp (pt_truth pe_wp he) fun σ H0 H l e k Q q =>
  h σ H0 H l e k _ fun v H1 G1 s1 k1 ⟨a, xs, e1, h1, h2⟩ => by
    subst e1
    refine ⟨!xs.isEmpty, .inl ⟨xs, SqL.of (s1.le _ _ h1), rfl⟩, q _ H1 G1 s1 k1 ?_⟩
    have := h2.len
    cases xs <;> cases ds <;> simp at this ⊢
theorem xt_bool {u : Bool} (h : XE M Γ Rs X a (PD K (.bool u))) (he : ∀ whole, isTrue a X.env whole = (do let v ← whole; standAt a.pos; holding [v] (truthy v)) := by intro _; rfl) : XT M Γ Rs X a (Is u) := xt_val (K := K) h.pb he
theorem xt_lele {v : Int} (ha : XE M Γ Rs X a (PD K (.int i))) (hb : XE M Γ Rs X b (PD K (.int j))) (hc : XE M Γ Rs X c (PD K (.int v))) (hm : lastMarks [.LtE, .LtE] [b, c] = false := by with_unfolding_all rfl) : XT M Γ Rs X (.Compare a [.LtE, .LtE] [b, c] pos) (Is (decide (i ≤ j) && decide (j ≤ v))) :=
  (xt_chain (K := K) op_le op_le ha hb (fun x y H0 H hx hy e _ => (yl_I0 (g := fun i j => .bl (decide (i ≤ j))) (d := .bool (decide (i ≤ j))) (fun _ => rfl) hx hy e).pb) (fun _ => hc) (fun _ x y H0 H hx hy e _ => (yl_I0 (g := fun i j => .bl (decide (i ≤ j))) (d := .bool (decide (j ≤ v))) (fun _ => rfl) hx hy e).pb) hm).imp fun b hb => by
    rcases hb with ⟨h, rfl⟩ | ⟨h, h'⟩
    · show false = _
      rw [← h]
      rfl
    · show b = _
      rw [← h, Bool.true_and]
      exact h'
theorem xt_lelt {v : Int} (ha : XE M Γ Rs X a (PD K (.int i))) (hb : XE M Γ Rs X b (PD K (.int j))) (hc : XE M Γ Rs X c (PD K (.int v))) (hm : lastMarks [.LtE, .Lt] [b, c] = false := by with_unfolding_all rfl) : XT M Γ Rs X (.Compare a [.LtE, .Lt] [b, c] pos) (Is (decide (i ≤ j) && decide (j < v))) :=
  (xt_chain (K := K) op_le op_lt ha hb (fun x y H0 H hx hy e _ => (yl_I0 (g := fun i j => .bl (decide (i ≤ j))) (d := .bool (decide (i ≤ j))) (fun _ => rfl) hx hy e).pb) (fun _ => hc) (fun _ x y H0 H hx hy e _ => (yl_I0 (g := fun i j => .bl (decide (i < j))) (d := .bool (decide (j < v))) (fun _ => rfl) hx hy e).pb) hm).imp fun b hb => by
    rcases hb with ⟨h, rfl⟩ | ⟨h, h'⟩
    · show false = _
      rw [← h]
      rfl
    · show b = _
      rw [← h, Bool.true_and]
      exact h'
theorem xe_lele {v : Int} (ha : XE M Γ Rs X a (PD K (.int i))) (hb : XE M Γ Rs X b (PD K (.int j))) (hc : XE M Γ Rs X c (PD K (.int v))) (hm : lastMarks [.LtE, .LtE] [b, c] = false := by with_unfolding_all rfl) : XE M Γ Rs X (.Compare a [.LtE, .LtE] [b, c] pos) (PD K (.bool (decide (i ≤ j) && decide (j ≤ v)))) :=
  (xe_chain (K := K) op_le op_le ha hb (fun x y H0 H hx hy e _ => (yl_I0 (g := fun i j => .bl (decide (i ≤ j))) (d := .bool (decide (i ≤ j))) (fun _ => rfl) hx hy e).pb) (fun _ => hc) (fun _ x y H0 H hx hy e _ => (yl_I0 (g := fun i j => .bl (decide (i ≤ j))) (d := .bool (decide (j ≤ v))) (fun _ => rfl) hx hy e).pb) hm).imp fun z H ⟨b, hb, hz⟩ => by
    have e : b = (decide (i ≤ j) && decide (j ≤ v)) := by
      rcases hb with ⟨h, rfl⟩ | ⟨h, h'⟩
      · show false = _
        rw [← h]
        rfl
      · show b = _
        rw [← h, Bool.true_and]
        exact h'
    rw [← e]
    exact hz
/-- and, or, not of tests whose answers are told -/
theorem xt_andB {u v : Bool} (h : XT M Γ Rs X a (Is u)) (h' : u = true → XT M Γ Rs X b (Is v)) : XT M Γ Rs X (.BoolOp .And [a, b] pos) (Is (u && v)) := (xt_and h fun z => h' z.symm).imp fun b hb => by
  rcases hb with ⟨h, rfl⟩ | ⟨h, h'⟩
  · show false = _
    rw [← h]
    rfl
  · show b = _
    rw [← h, Bool.true_and]
    exact h'
theorem xt_orB {u v : Bool} (h : XT M Γ Rs X a (Is u)) (h' : u = false → XT M Γ Rs X b (Is v)) : XT M Γ Rs X (.BoolOp .Or [a, b] pos) (Is (u || v)) := (xt_or h fun z => h' z.symm).imp fun b hb => by
  rcases hb with ⟨h, rfl⟩ | ⟨h, h'⟩
  · show true = _
    rw [← h]
    rfl
  · show b = _
    rw [← h, Bool.false_or]
    exact h'
theorem xt_notB {u : Bool} (h : XT M Γ Rs X a (Is u)) : XT M Γ Rs X (.UnaryOp .Not a pos) (Is (!u)) := (xt_not h).imp fun b hb => by
  have e : (!b) = u := hb
  show b = !u
  rw [← e, Bool.not_not]
theorem xe_andB {u v : Bool} (h : XE M Γ Rs X a (PD K (.bool u))) (h' : u = true → XE M Γ Rs X b (PD K (.bool v))) : XE M Γ Rs X (.BoolOp .And [a, b] pos) (PD K (.bool (u && v))) := (xe_and h.pb fun z => (h' z.symm).pb).imp fun z H ⟨b, hb, hz⟩ => by
  have e : b = (u && v) := by
    rcases hb with ⟨h, rfl⟩ | ⟨h, h'⟩
    · show false = _
      rw [← h]
      rfl
    · show b = _
      rw [← h, Bool.true_and]
      exact h'
  rw [← e]
  exact hz
theorem xe_orB {u v : Bool} (h : XE M Γ Rs X a (PD K (.bool u))) (h' : u = false → XE M Γ Rs X b (PD K (.bool v))) : XE M Γ Rs X (.BoolOp .Or [a, b] pos) (PD K (.bool (u || v))) := (xe_or h.pb fun z => (h' z.symm).pb).imp fun z H ⟨b, hb, hz⟩ => by
  have e : b = (u || v) := by
    rcases hb with ⟨h, rfl⟩ | ⟨h, h'⟩
    · show true = _
      rw [← h]
      rfl
    · show b = _
      rw [← h, Bool.false_or]
      exact h'
  rw [← e]
  exact hz
theorem xe_not {u : Bool} (h : XE M Γ Rs X a (PD K (.bool u))) : XE M Γ Rs X (.UnaryOp .Not a pos) (PD K (.bool (!u))) := (xe_notB h.pb).imp fun z H ⟨b, hb, hz⟩ => by
  have e : (!b) = u := hb
  have e2 : b = !u := by rw [← e, Bool.not_not]
  rw [← e2]
  exact hz
/-- an answer that is known -/
theorem YT.eq {t : TT} {u v : Bool} (h : YT M Γ Rs t (Is u)) (e : u = v) : YT M Γ Rs t (Is v) := e ▸ h
theorem wk_enumT {a : Addr} {xs : List V} {ds : List PyData} {H0 : Hp} (h : SqT K H0 a xs) (hd : DdAll K H0 ds xs) : Wk (LhS.IteT K a) ((List.range ds.length).zipWith (fun i d => PT2 K (PD K (.int (i : Nat))) (PD K d)) ds) H0 := fun H0' H e e' i => by
  refine ⟨fun Q q => ?_, fun q => ⟨xs, ex_t (e.trans e') h, by rw [hd.len]; simpa using q⟩⟩
  have hlt : i < ds.length := by
    have := (List.getElem?_eq_some_iff.mp q).1
    simpa using this
  have e1 : PT2 K (PD K (.int (i : Nat))) (PD K ds[i]) = Q := by
    simpa [List.getElem?_zipWith, hlt] using q
  subst e1
  obtain ⟨v, h1, h2⟩ := hd.get (List.getElem?_eq_getElem hlt)
  refine ⟨⟨xs, v, ex_t (e.trans e') h, h1⟩, fun x H' ⟨T, y, y1, y2, y3, y4⟩ => ?_⟩
  have e2 : y = v := Option.some.inj ((y4 xs (ex_t (e.trans e') h)).symm.trans h1)
  subst e2 y1 y3
  exact ⟨upd H0' T (.tup [.int (i : Nat), y]), Step.new e' y2, T, _, _, rfl, SqT.of upd_same, rfl, Dd.ex (e.trans (Ex.new (fresh_back e' y2))) _ _ h2⟩
theorem xi_enumT {e : Expr} {p pos tpos : Pos} {elts : List Expr} {kk : Nat} {ds : List PyData} (hm : X.mg "enumerate" = none) (h : XE M Γ Rs X e (PD X.K (.tuple ds))) (hg : Gl X "enumerate" := by rfl) (hs : starEach [e] X.env = [(false, eval e X.env)] := by rfl) :
    XI M Γ Rs X (.Tuple elts kk tpos) (.Call (.Name "enumerate" p) [e] [] pos) ((List.range ds.length).zipWith (fun i d => PT2 X.K (PD X.K (.int (i : Nat))) (PD X.K d)) ds) := fun σ H0 H l ex k R r => PI.wp (LhS.pi_enumT hg hm pa_wp hs) ((xa_1 h (by exact hs)) σ H0 H l ex k _ fun vs H1 G1 s1 k1 a1 => by
  obtain ⟨v, e1, a, xs, e3, h3, h4⟩ := da1 a1
  subst e1 e3
  exact ⟨a, xs, rfl, ex_t s1.le h3, r _ H1 G1 s1 k1 (wk_enumT h3 h4)⟩)
/-- what an enumerate gives at turn t -/
theorem enum_at {ds : List PyData} {t : Nat} {Q : Pd} (h : ((List.range ds.length).zipWith (fun i d => PT2 K (PD K (.int (i : Nat))) (PD K d)) ds)[t]? = some Q) : ∃ d, ds[t]? = some d ∧ Q = PT2 K (PD K (.int (t : Nat))) (PD K d) := by
  have hlt : t < ds.length := by
    have := (List.getElem?_eq_some_iff.mp h).1
    simpa using this
  refine ⟨ds[t], List.getElem?_eq_getElem hlt, ?_⟩
  have : PT2 K (PD K (.int (t : Nat))) (PD K ds[t]) = Q := by simpa [List.getElem?_zipWith, hlt] using h
  exact this.symm
theorem zip_at {ds es : List PyData} {t : Nat} {Q : Pd} (h : (ds.zipWith (fun d e => PT2 K (PD K d) (PD K e)) es)[t]? = some Q) : ∃ d e, ds[t]? = some d ∧ es[t]? = some e ∧ Q = PT2 K (PD K d) (PD K e) := by
  have hlt : t < ds.length ∧ t < es.length := by
    have := (List.getElem?_eq_some_iff.mp h).1
    rw [List.length_zipWith] at this
    omega
  refine ⟨ds[t]'hlt.1, es[t]'hlt.2, List.getElem?_eq_getElem hlt.1, List.getElem?_eq_getElem hlt.2, ?_⟩
  have : PT2 K (PD K (ds[t]'hlt.1)) (PD K (es[t]'hlt.2)) = Q := by simpa [List.getElem?_zipWith, hlt.1, hlt.2] using h
  exact this.symm
theorem map_at {ds : List PyData} {t : Nat} {Q : Pd} (h : (ds.map (PD K))[t]? = some Q) : ∃ d, ds[t]? = some d ∧ Q = PD K d := by
  rw [List.getElem?_map] at h
  cases e : ds[t]? with
  | none =>
    rw [e] at h
    cases h
  | some d =>
    rw [e] at h
    exact ⟨d, rfl, (Option.some.inj h).symm⟩
theorem li_at {ns : List Int} {t : Nat} {d : PyData} (h : (li ns)[t]? = some d) : ∃ n, ns[t]? = some n ∧ d = .int n := by
  rw [List.getElem?_map] at h
  cases e : ns[t]? with
  | none =>
    rw [e] at h
    cases h
  | some n =>
    rw [e] at h
    exact ⟨n, rfl, (Option.some.inj h).symm⟩
theorem rgI_at {lo : Int} {n t : Nat} {m : Int} (h : (rgI lo n)[t]? = some m) : t < n ∧ m = lo + (t : Int) := by
  have hlt : t < n := by
    have := (List.getElem?_eq_some_iff.mp h).1
    simpa [rgI] using this
  refine ⟨hlt, ?_⟩
  have : lo + (t : Int) = m := by simpa [rgI, hlt] using h
  exact this.symm
theorem rgI_len {lo : Int} {n : Nat} : (rgI lo n).length = n := by simp [rgI]

/-! ### pure comprehensions -/
/-- [f x for x in xs] -/
theorem xe_map (j : Nat) {x : Str} {elt iter : Expr} {scope : Scope} {pos xp : Pos} {ds : List PyData} (f : PyData → PyData) (hi : XI M Γ Rs X (.Name x xp) iter (ds.map (PD X.K))) (ht : ∀ d, d ∈ ds → Blk X scope fun Y => XE M (blkG Γ j (PD X.K d)) Rs Y elt (PD X.K (f d)))
    (hN : X.N.Nodup) (ok : BlkOk X.N X.env.scope scope [(x, j)]) (hz : ds.length ≤ 100000) (cv : Cov M Rs) (hg : BlkG X scope x xp j) (hc : X.calm = true := by rfl) (hs : ∀ x, foldedSetIterable iter X.env x = pure x := by intro _; rfl) :
    XE M Γ Rs X (.ListComp elt [⟨.Name x xp, iter, [], 0⟩] scope pos) (PD X.K (.list (ds.map f))) :=
  (xe_lc (K := X.K) j hi (fun i es => es = (ds.take i).map f) rfl (fun i Q hq => by
    obtain ⟨d, hd, e⟩ := map_at hq
    subst e
    intro s0 H0 C cl fp
    refine YE.imp (ht d (List.mem_of_getElem? hd) s0 H0 C cl fp) fun v H h => ⟨f d, fun es _ he => ?_, h⟩
    dsimp only at he ⊢
    rw [he, List.take_add_one, hd]
    simp) hN ok (by rw [List.length_map]; exact hz) cv hg hc hs).imp fun v H ⟨es, ⟨h1, _⟩, h2⟩ => by
    rw [List.length_map, List.take_length] at h1
    subst h1
    exact h2
/-- [f x for x in xs if t x] -/
theorem xe_filt (j : Nat) {x : Str} {elt iter c : Expr} {scope : Scope} {pos xp : Pos} {ds : List PyData} (f : PyData → PyData) (t : PyData → Bool) (hi : XI M Γ Rs X (.Name x xp) iter (ds.map (PD X.K))) (hc' : ∀ d, d ∈ ds → Blk X scope fun Y => XT M (blkG Γ j (PD X.K d)) Rs Y c (Is (t d)))
    (ht : ∀ d, d ∈ ds → t d = true → Blk X scope fun Y => XE M (blkG Γ j (PD X.K d)) Rs Y elt (PD X.K (f d)))
    (hN : X.N.Nodup) (ok : BlkOk X.N X.env.scope scope [(x, j)]) (hz : ds.length ≤ 100000) (cv : Cov M Rs) (hg : BlkG X scope x xp j) (hc : X.calm = true := by rfl) (hs : ∀ x, foldedSetIterable iter X.env x = pure x := by intro _; rfl) :
    XE M Γ Rs X (.ListComp elt [⟨.Name x xp, iter, [c], 0⟩] scope pos) (PD X.K (.list ((ds.filter t).map f))) :=
  (xe_lcIf (K := X.K) j hi (fun i es => es = ((ds.take i).filter t).map f) rfl (fun i Q hq => by
    obtain ⟨d, hd, e⟩ := map_at hq
    subst e
    have hm := List.mem_of_getElem? hd
    refine ⟨Is (t d), hc' d hm, fun hb s0 H0 C cl fp => ?_, fun hb es he => ?_⟩
    · refine YE.imp (ht d hm hb.symm s0 H0 C cl fp) fun v H h => ⟨f d, fun es _ he => ?_, h⟩
      dsimp only at he ⊢
      rw [he, List.take_add_one, hd]
      simp [← hb]
    · dsimp only at he ⊢
      rw [he, List.take_add_one, hd]
      simp [← hb]) hN ok (by rw [List.length_map]; exact hz) cv hg hc hs).imp fun v H ⟨es, ⟨h1, _⟩, h2⟩ => by
    rw [List.length_map, List.take_length] at h1
    subst h1
    exact h2

/-! ### slices -/
theorem cut_dd {H : Hp} {ds : List PyData} {xs : List V} (h : DdAll K H ds xs) (lo hi : Option Int) : DdAll K H ((ds.drop (HT.sIx ds.length 0 lo)).take (HT.sIx ds.length ds.length hi - HT.sIx ds.length 0 lo)) (cutV xs lo hi) := by
  unfold cutV
  rw [h.len]
  exact (h.drop _).take _
def YO (M : Addr → Prop) (Γ : Ct) (Rs : List Res) (t : TO) (o : Option Int) : Prop := ∀ (σ : L2.St) (H0 H : Hp), Sl Γ σ H0 → Ex H0 H → Rok Rs H0 H → ∀ Q : Option Int → Hp → Prop, (∀ H0' H', Step M H0 H H0' H' → Rok Rs H0' H' → Q o H') → t σ H Q
theorem yo_none : YO M Γ Rs tNoPart none := fun σ H0 H l e k Q q => q H0 H (Step.rfl e) k
theorem yo_some {t : TE} (h : YE M Γ Rs t (PD K (.int i))) : YO M Γ Rs (tPart t) (some i) := fun σ H0 H l e k Q q => h σ H0 H l e k _ fun v H1 G1 s1 k1 hv => ⟨i, hv, q H1 G1 s1 k1⟩
theorem ye_slL {te : TE} {tl th : TO} {ds : List PyData} {lo hi : Option Int} (h : YE M Γ Rs te (PD K (.list ds))) (hl : YO M Γ Rs tl lo) (hh : YO M Γ Rs th hi) : YE M Γ Rs (tSl (rSlL K) te tl th) (PD K (.list ((ds.drop (HT.sIx ds.length 0 lo)).take (HT.sIx ds.length ds.length hi - HT.sIx ds.length 0 lo)))) := fun σ H0 H l e k Q q =>
  h σ H0 H l e k _ fun v H1 G1 s1 k1 ⟨a, xs, e1, h1, h2⟩ => hl σ H1 G1 (l.ex s1.ex) s1.le k1 _ fun H2 G2 s2 k2 => hh σ H2 G2 (l.ex (s1.ex.trans s2.ex)) s2.le k2 _ fun H3 G3 s3 k3 => ⟨a, xs, e1, SqL.of ((s2.trans s3).le _ _ ((s2.trans s3).ex _ _ h1)), fun p hp => by
    have s := (s1.trans s2).trans s3
    exact q _ _ _ (s.trans (Step.new s.le hp)) (k3.step0 (Step.new s.le hp)) ⟨p, _, rfl, upd_same, DdAll.ex ((s2.ex.trans s3.ex).trans (Ex.new (fresh_back s.le hp))) _ _ (cut_dd h2 lo hi)⟩⟩
theorem ye_slT {te : TE} {tl th : TO} {ds : List PyData} {lo hi : Option Int} (h : YE M Γ Rs te (PD K (.tuple ds))) (hl : YO M Γ Rs tl lo) (hh : YO M Γ Rs th hi) : YE M Γ Rs (tSl (rSlA K) te tl th) (PD K (.tuple ((ds.drop (HT.sIx ds.length 0 lo)).take (HT.sIx ds.length ds.length hi - HT.sIx ds.length 0 lo)))) := fun σ H0 H l e k Q q =>
  h σ H0 H l e k _ fun v H1 G1 s1 k1 ⟨a, xs, e1, h1, h2⟩ => hl σ H1 G1 (l.ex s1.ex) s1.le k1 _ fun H2 G2 s2 k2 => hh σ H2 G2 (l.ex (s1.ex.trans s2.ex)) s2.le k2 _ fun H3 G3 s3 k3 => by
    have s := (s1.trans s2).trans s3
    have h3 : SqT K H3 a xs := ex_t (s2.ex.trans s3.ex) h1
    have len := h2.len
    refine ⟨a, xs, e1, ex_t s.le h3, fun ⟨z1, z2⟩ => ?_, fun _ p hp => ?_⟩
    · refine q _ H3 G3 s k3 ⟨a, xs, rfl, h3, ?_⟩
      rw [len] at z1 z2
      rw [z1, z2, List.drop_zero, Nat.sub_zero, List.take_length]
      exact DdAll.ex (s2.ex.trans s3.ex) _ _ h2
    · exact q _ _ _ (s.trans (Step.new s.le hp)) (k3.step0 (Step.new s.le hp)) ⟨p, _, rfl, SqT.of upd_same, DdAll.ex ((s2.ex.trans s3.ex).trans (Ex.new (fresh_back s.le hp))) _ _ (cut_dd h2 lo hi)⟩
/-- xs[a:b], t[a:b] with 0 <= a <= b; t[a:], t[:b] -/
theorem sIx_int {n : Nat} {d : Nat} {i : Int} (h : 0 ≤ i) : HT.sIx n d (some i) = min i.toNat n := by
  unfold HT.sIx
  have e : ¬ i < 0 := by omega
  simp only [e, if_false]
theorem cut_eq {α : Type} (ds : List α) {x y : Int} (hx : 0 ≤ x) (hy : 0 ≤ y) : (ds.drop (HT.sIx ds.length 0 (some x))).take (HT.sIx ds.length ds.length (some y) - HT.sIx ds.length 0 (some x)) = (ds.drop x.toNat).take (y.toNat - x.toNat) := by
  rw [sIx_int hx, sIx_int hy]
  by_cases h : x.toNat ≤ ds.length
  · rw [Nat.min_eq_left h]
    by_cases h2 : y.toNat ≤ ds.length
    · rw [Nat.min_eq_left h2]
    · rw [Nat.min_eq_right (by omega), List.take_of_length_le (by simp), List.take_of_length_le (by simp; omega)]
  · rw [show min x.toNat ds.length = ds.length from Nat.min_eq_right (by omega), List.drop_length, List.drop_of_length_le (show ds.length ≤ x.toNat by omega)]
    simp
theorem cut_eq1 {α : Type} (ds : List α) {x : Int} (hx : 0 ≤ x) : (ds.drop (HT.sIx ds.length 0 (some x))).take (HT.sIx ds.length ds.length none - HT.sIx ds.length 0 (some x)) = ds.drop x.toNat := by
  rw [sIx_int hx, HT.sIx_none]
  by_cases h : x.toNat ≤ ds.length
  · rw [List.take_of_length_le (by simp), Nat.min_eq_left h]
  · rw [Nat.min_eq_right (by omega), List.drop_length, List.drop_of_length_le (by omega)]
    simp
theorem cut_eq2 {α : Type} (ds : List α) {y : Int} (hy : 0 ≤ y) : (ds.drop (HT.sIx ds.length 0 none)).take (HT.sIx ds.length ds.length (some y) - HT.sIx ds.length 0 none) = ds.take y.toNat := by
  rw [sIx_int hy, HT.sIx_none, List.drop_zero, Nat.sub_zero]
  by_cases h2 : y.toNat ≤ ds.length
  · rw [Nat.min_eq_left h2]
  · rw [Nat.min_eq_right (by omega), List.take_length, List.take_of_length_le (by omega)]
variable {p2 : Pos}
theorem xe_slT2 {ds : List PyData} (h : XE M Γ Rs X a (PD X.K (.tuple ds))) (hl : XE M Γ Rs X b (PD X.K (.int i))) (hh : XE M Γ Rs X c (PD X.K (.int j))) (h0 : 0 ≤ i) (h1 : 0 ≤ j) : XE M Γ Rs X (.Subscript a (.Slice (some b) (some c) none p2) pos) (PD X.K (.tuple ((ds.drop i.toNat).take (j.toNat - i.toNat)))) :=
  (YE.wp (pe_slice sl_tupA pe_wp (po_some pe_wp) (po_some pe_wp)) (ye_slT h (yo_some hl) (yo_some hh))).to (by rw [cut_eq ds h0 h1])
theorem xe_slL2 {ds : List PyData} (h : XE M Γ Rs X a (PD X.K (.list ds))) (hl : XE M Γ Rs X b (PD X.K (.int i))) (hh : XE M Γ Rs X c (PD X.K (.int j))) (h0 : 0 ≤ i) (h1 : 0 ≤ j) : XE M Γ Rs X (.Subscript a (.Slice (some b) (some c) none p2) pos) (PD X.K (.list ((ds.drop i.toNat).take (j.toNat - i.toNat)))) :=
  (YE.wp (pe_slice sl_list pe_wp (po_some pe_wp) (po_some pe_wp)) (ye_slL h (yo_some hl) (yo_some hh))).to (by rw [cut_eq ds h0 h1])
theorem xe_slTa {ds : List PyData} (h : XE M Γ Rs X a (PD X.K (.tuple ds))) (hl : XE M Γ Rs X b (PD X.K (.int i))) (h0 : 0 ≤ i) : XE M Γ Rs X (.Subscript a (.Slice (some b) none none p2) pos) (PD X.K (.tuple (ds.drop i.toNat))) :=
  (YE.wp (pe_slice sl_tupA pe_wp (po_some pe_wp) po_none) (ye_slT h (yo_some hl) yo_none)).to (by rw [cut_eq1 ds h0])
theorem xe_slLa {ds : List PyData} (h : XE M Γ Rs X a (PD X.K (.list ds))) (hl : XE M Γ Rs X b (PD X.K (.int i))) (h0 : 0 ≤ i) : XE M Γ Rs X (.Subscript a (.Slice (some b) none none p2) pos) (PD X.K (.list (ds.drop i.toNat))) :=
  (YE.wp (pe_slice sl_list pe_wp (po_some pe_wp) po_none) (ye_slL h (yo_some hl) yo_none)).to (by rw [cut_eq1 ds h0])
theorem xe_slTb {ds : List PyData} (h : XE M Γ Rs X a (PD X.K (.tuple ds))) (hl : XE M Γ Rs X b (PD X.K (.int i))) (h0 : 0 ≤ i) : XE M Γ Rs X (.Subscript a (.Slice none (some b) none p2) pos) (PD X.K (.tuple (ds.take i.toNat))) :=
  (YE.wp (pe_slice sl_tupA pe_wp po_none (po_some pe_wp)) (ye_slT h yo_none (yo_some hl))).to (by rw [cut_eq2 ds h0])
theorem xe_slLb {ds : List PyData} (h : XE M Γ Rs X a (PD X.K (.list ds))) (hl : XE M Γ Rs X b (PD X.K (.int i))) (h0 : 0 ≤ i) : XE M Γ Rs X (.Subscript a (.Slice none (some b) none p2) pos) (PD X.K (.list (ds.take i.toNat))) :=
  (YE.wp (pe_slice sl_list pe_wp po_none (po_some pe_wp)) (ye_slL h yo_none (yo_some hl))).to (by rw [cut_eq2 ds h0])
theorem xe_revL {ds : List PyData} {kq : Nat} {q1 q2 q3 : Pos} (h : XE M Γ Rs X a (PD X.K (.list ds))) : XE M Γ Rs X (.Subscript a (.Slice none none (some (.UnaryOp .USub (.Constant (.int 1) kq q1) q2)) q3) pos) (PD X.K (.list ds.reverse)) := YE.wp (pe_revL pe_wp) fun σ H0 H l e k Q q =>
  h σ H0 H l e k _ fun v H1 G1 s1 k1 ⟨a, xs, e1, h1, h2⟩ => ⟨a, xs, e1, SqL.of (s1.le _ _ h1), fun p hp => q _ _ _ (s1.trans (Step.new s1.le hp)) (k1.step0 (Step.new s1.le hp)) ⟨p, _, rfl, upd_same, DdAll.ex (Ex.new (fresh_back s1.le hp)) _ _ h2.rev⟩⟩

/-! ### lists at hand -/
/-- a list that was made here is a thing like any other from now on -/
theorem xs_frz (i : Nat) {q : Addr} {ds : List PyData} (hi : Γ[i]? = some (some (PV (.ref q)))) (h : XS M (Γ.set i (some (PD X.K (.list ds)))) Rs X Z0 Z Hl D rest) : XS M Γ (Res.lst Z q (ds.map (PD X.K)) :: Rs) X Z0 Z Hl D rest := fun σ H0 H l s b k => by
  obtain ⟨hz, h0, xs, hq, hd⟩ := k.2 _ List.mem_cons_self
  obtain ⟨v, h1, h2⟩ := l.2 i _ hi
  have e2 : v = .ref q := h2
  subst e2
  have nd := k.1
  rw [List.flatMap_cons, List.nodup_append] at nd
  have ne : ∀ r ∈ Rs, ∀ a ∈ r.ad, a ≠ q := fun r hr a ha e => nd.2.2 q (by simp [Res.lst]) a (List.mem_flatMap.mpr ⟨r, hr, ha⟩) e.symm
  have k2 : Rok Rs (upd H0 q (.lst xs)) H := Rok.updA ⟨nd.2.1, fun r hr => k.2 r (List.mem_cons_of_mem _ hr)⟩ h0 ne
  have x1 : Ex H0 (upd H0 q (.lst xs)) := Ex.new h0
  have l2 : Sl (Γ.set i (some (PD X.K (.list ds)))) (σ.set i (some (.ref q))) (upd H0 q (.lst xs)) := (l.ex x1).set ⟨q, xs, rfl, upd_same, DdAll.ex x1 _ _ hd.dd⟩
  have e3 : σ.set i (some (.ref q)) = σ := by
    have hlt := (List.getElem?_eq_some_iff.mp h1).1
    have := (List.getElem?_eq_some_iff.mp h1).2
    rw [← this]
    exact List.set_getElem_self hlt
  rw [e3] at l2
  refine h σ _ H l2 ⟨s.un, s.th, s.ex.trans x1, fun a o ha => ?_, fun a o ha => ?_⟩ (b.trans x1) k2
  · by_cases e : a = q
    · subst e
      rw [upd_same] at ha
      rw [hq]
      exact ha
    · rw [upd_ne e] at ha
      exact s.le a o ha
  · by_cases e : a = q
    · subst e
      exact .inr hz
    · rw [upd_ne e] at ha
      exact s.nw a o ha
/-- x = [..], a list that will grow -/
theorem xs_newL (i : Nat) {x : Str} {es : List Expr} {ds : List PyData} {pos pos' q : Pos} (h : XA M Γ Rs X es (ds.map (PD X.K))) (hz : ds.length ≤ 1000) (k : ∀ q, XS M (Γ.set i (some (PV (.ref q)))) (Res.lst Z q (ds.map (PD X.K)) :: Rs) X Z0 Z Hl D rest) (cv : Cov M Rs) (hN : X.N.Nodup)
    (hi : X.N[i]? = some x := by rfl) (hx : Loc X.env.scope x := by first | exact Or.inl rfl | exact Or.inr rfl) (hs : swapsWith (.List es q) (some (.Name x pos')) pos.line X.env = pure false := by rfl) (hf : X.fn x = true ∨ X.env.scope.names.lookup x = some .local := by first | exact .inl rfl | exact .inr rfl) :
    XS M Γ Rs X Z0 Z Hl D (.Assign [.Name x pos'] (.List es q) pos :: rest) :=
  xs_cons (ps_set hN hi hx (pe_lst pa_wp) hs hf) fun σ H0 H l s b r => h σ H0 H l s.le r _ fun vs H1 G1 s1 k1 a1 => ⟨by have := a1.1; rw [List.length_map] at this; rw [this]; exact Nat.le_trans hz (by decide), fun p hp => by
    have t := s.trans s1
    have ne : ∀ r ∈ Rs, ∀ a ∈ r.ad, a ≠ p := fun r hr a ha e => by
      obtain ⟨⟨o, h1⟩, _⟩ := r.tr (k1.2 r hr) a ha
      rw [e, hp] at h1
      cases h1
    have hZ : Z p = none := by
      cases e : Z p with
      | none => rfl
      | some o =>
        obtain ⟨o', h'⟩ := t.th p o e
        rw [hp] at h'
        cases h'
    refine k p _ H1 _ ((l.ex s1.ex).set (P := PV (.ref p)) rfl) ⟨fun a o hm ha => ?_, fun a o ha => ?_, t.ex, fun a o ha => ?_, t.nw⟩ (b.trans s1.ex) ⟨?_, fun r hr => ?_⟩
    · rw [upd_ne (ne_of_none ha hZ)]
      exact t.un a o hm ha
    · obtain ⟨o', h'⟩ := t.th a o ha
      exact ⟨o', by rw [upd_ne (ne_of_none h' hp)]; exact h'⟩
    · rw [upd_ne (ne_of_none (t.le a o ha) hp)]
      exact t.le a o ha
    · rw [List.flatMap_cons, List.nodup_append]
      refine ⟨by simp [Res.lst], k1.1, fun a ha c hc e => ?_⟩
      have e1 : a = p := by simpa [Res.lst] using ha
      obtain ⟨r, hr, hc⟩ := List.mem_flatMap.mp hc
      exact ne r hr c hc (e ▸ e1)
    · obtain e | hr := List.mem_cons.mp hr
      · subst e
        exact ⟨hZ, fresh_back s1.le hp, vs, upd_same, a1⟩
      · exact (k1.wr ne).2 r hr⟩
/-- x.append(e) -/
theorem xs_app {q : Addr} {o e : Expr} {Ps : List Pd} {P : Pd} {pos cpos apos : Pos} (ho : XE M Γ (Res.lst Z q Ps :: Rs) X o (PV (.ref q))) (he : XE M Γ (Res.lst Z q Ps :: Rs) X e P) (hz : Ps.length < 1000000) (k : XS M Γ (Res.lst Z q (Ps ++ [P]) :: Rs) X Z0 Z Hl D rest) 
    (hpe : PE X (.Call (.Attribute o "append" apos) [e] [] cpos) (tBM X.K "list" rAppend (wpE X o) (tCons (wpE X e) tNil))) (hs : swapsWith (.Call (.Attribute o "append" apos) [e] [] cpos) none pos.line X.env = pure false := by rfl) : XS M Γ (Res.lst Z q Ps :: Rs) X Z0 Z Hl D (.Expr (.Call (.Attribute o "append" apos) [e] [] cpos) pos :: rest) :=
  xs_cons (ps_expr hpe hs) fun σ H0 H l s b r => ho σ H0 H l s.le r _ fun v H1 G1 s1 k1 hv => by
    have hv' : v = .ref q := hv
    subst hv'
    obtain ⟨_, _, xs1, hq1, _⟩ := k1.2 _ List.mem_cons_self
    refine ⟨.inl ⟨rfl, xs1, SqL.of hq1⟩, ?_⟩
    refine he σ H1 G1 (l.ex s1.ex) s1.le k1 _ fun y H2 G2 s2 k2 hy => ?_
    obtain ⟨hz0, h0, xs, hq, hd⟩ := k2.2 _ List.mem_cons_self
    refine ⟨q, xs, y, rfl, rfl, hq, by rw [hd.1]; exact Nat.lt_of_lt_of_le hz (by decide), ?_⟩
    have t := (s.trans s1).trans s2
    have nd := k2.1
    rw [List.flatMap_cons, List.nodup_append] at nd
    have ne : ∀ r ∈ Rs, ∀ a ∈ r.ad, a ≠ q := fun r hr a ha e => nd.2.2 q (by simp [Res.lst]) a (List.mem_flatMap.mpr ⟨r, hr, ha⟩) e.symm
    have kr : Rok Rs H2 G2 := ⟨nd.2.1, fun r hr => k2.2 r (List.mem_cons_of_mem _ hr)⟩
    refine k _ H2 _ (l.ex (s1.ex.trans s2.ex)) ⟨fun a o hm ha => ?_, fun a o ha => ?_, t.ex, fun a o ha => ?_, t.nw⟩ (b.trans (s1.ex.trans s2.ex)) ⟨k2.1, fun r hr => ?_⟩
    · rw [upd_ne (ne_of_none ha hz0)]
      exact t.un a o hm ha
    · obtain ⟨o', h'⟩ := t.th a o ha
      exact ⟨o', by rw [upd_ne (ne_of_none ha hz0)]; exact h'⟩
    · have na : a ≠ q := fun e => by
        rw [e, h0] at ha
        cases ha
      rw [upd_ne na]
      exact t.le a o ha
    · obtain e | hr := List.mem_cons.mp hr
      · subst e
        exact ⟨hz0, h0, _, upd_same, hd.app (DAll.cons hy DAll.nil)⟩
      · exact (kr.wr ne).2 r hr
end
end Lh
/-! Own classes: objects by their fields, properties, methods, making. -/
namespace Lh
open PySem L2
open Evl (Ex ex_l ex_t ex_rd fresh_back)
/-- the fields fs of vs -/
def Flds (fs : List (Str × Pd)) (vs : List (Str × V)) (H : Hp) : Prop := ∀ f : Str, (∀ P, fs.lookup f = some P → ∃ u, vs.lookup f = some u ∧ P.p u H) ∧ (fs.lookup f = none → vs.lookup f = none)
theorem Flds.ex {fs : List (Str × Pd)} {vs : List (Str × V)} {H H' : Hp} (e : Ex H H') (h : Flds fs vs H) : Flds fs vs H' := fun f => ⟨fun P hP => by
  obtain ⟨u, h1, h2⟩ := (h f).1 P hP
  exact ⟨u, h1, P.m e h2⟩, (h f).2⟩
theorem Flds.put {fs : List (Str × Pd)} {vs : List (Str × V)} {H : Hp} {f : Str} {P : Pd} {v : V} (h : Flds fs vs H) (hv : P.p v H) : Flds ((f, P) :: fs) (putF f v vs) H := fun g => by
  rw [lookup_putF, List.lookup_cons]
  by_cases e : g = f
  · subst e
    simp only [if_true, beq_self_eq_true]
    exact ⟨fun Q hQ => by
      have e2 : P = Q := Option.some.inj hQ
      subst e2
      exact ⟨v, rfl, hv⟩, fun q => by cases q⟩
  · have eb : (g == f) = false := by simpa using e
    rw [eb, if_neg e]
    exact h g
theorem putF_length (f : Str) (v : V) : ∀ vs : List (Str × V), (putF f v vs).length ≤ vs.length + 1
  | [] => Nat.le_refl _
  | (g, x) :: r => by
    unfold putF
    split
    · simp
    · simp only [List.length_cons]
      have := putF_length f v r
      omega
/-- an object of the class at C with these fields -/
def PObj (C : Addr) (fs : List (Str × Pd)) : Pd := ⟨fun v H => ∃ a dx vs, v = .ref a ∧ H a = some (.ins C dx vs) ∧ Flds fs vs H, fun e ⟨a, dx, vs, h1, h2, h3⟩ => ⟨a, dx, vs, h1, e _ _ h2, h3.ex e⟩⟩
/-- .. that is being made -/
def Res.ob (C x dx : Addr) (fs : List (Str × Pd)) : Res where
  ad := [x]
  p := fun H0 H => H0 x = none ∧ ∃ vs, H x = some (.ins C dx vs) ∧ Flds fs vs H0 ∧ vs.length ≤ fs.length
  st := fun {H0 H H0' H'} e n q ⟨h1, vs, h2, h3, h4⟩ => ⟨n x (by simp), vs, by rw [q x (by simp)]; exact h2, h3.ex e, h4⟩
  tr := fun {H0 H} ⟨h1, vs, h2, h3, h4⟩ a ha => by
    have e : a = x := by simpa using ha
    subst e
    exact ⟨⟨_, h2⟩, h1⟩
abbrev MX (x : Addr) : Addr → Prop := fun a => a = x
/-- the promise of an __init__ -/
def SpI {α : Type} (C : Addr) (pre : α → List Pd) (fs : α → List (Str × Pd)) : Sp := fun vs H Q _ => ∃ (y : α) (x dx : Addr) (H0 : Hp) (ws : List V), vs = .ref x :: ws ∧ Ex H0 H ∧ Rok [Res.ob C x dx []] H0 H ∧ DAll (pre y) ws H0 ∧
  ∀ H0' H', Step (MX x) H0 H H0' H' → Rok [Res.ob C x dx (fs y)] H0' H' → Q .non H'
section
variable {M : Addr → Prop} {Γ Γ' : Ct} {Rs : List Res} {X : Cx} {Z0 Z Hl : Hp} {D : Ends} {K : PySem.W.Frag} {rest : List Stmt} {a b c o e : Expr} {es : List Expr} {pos p : Pos} {C : Addr} {fs : List (Str × Pd)}
theorem xe_fld {f : Str} {P : Pd} (h : XE M Γ Rs X o (PObj C fs)) (hl : fs.lookup f = some P) (hc : Cls X.K C) (hn : NoAttr X.K C f) (hb : attributeBase o f X.env (eval o X.env) = eval o X.env := by rfl) : XE M Γ Rs X (.Attribute o f pos) P :=
  YE.wp (pe_fld pe_wp hb) fun σ H0 H l ex k Q q => h σ H0 H l ex k _ fun v H1 G1 s1 k1 ⟨a, dx, vs, h1, h2, h3⟩ => by
    obtain ⟨u, hu, hp⟩ := (h3 f).1 P hl
    exact ⟨a, C, dx, vs, u, h1, s1.le _ _ h2, hc, hn, hu, q u H1 G1 s1 k1 hp⟩
/-- a property of an object -/
theorem xe_prop {P' : Program} {w' : World} {K' : PySem.W.Frag} {mg' : Str → Option Value} {base' : Heap} {α : Type} {pre : α → List Pd} {post : α → Pd} {f : Str} {pa g : Addr} {fd : FuncData} {ps : List Str} {n : Nat} (F : FnOk P' w' K' mg' base' CX0 n g fd ps (SpP pre post)) (y : α) (h : XE M Γ Rs X o (PObj C fs)) (hy : pre y = [PObj C fs]) (hc : Cls K' C) (hp : PropOf K' C f pa g) (hr : Room (n + 1) X.A)
    (hb : Binds K' fd ps []) (hab : attributeBase o f X.env (eval o X.env) = eval o X.env := by rfl) (eP : X.prog = P' := by rfl) (ew : X.w = w' := by rfl) (eK : X.K = K' := by rfl) (em : X.mg = mg' := by rfl) (eb : X.base = base' := by rfl) : XE M Γ Rs X (.Attribute o f pos) (post y) := by
  subst eP ew eK em eb
  exact YE.wp (pe_prop pe_wp hc hp F hr hb (dvs := []) .nil pass0 hab) fun σ H0 H l ex k Q q => h σ H0 H l ex k _ fun v H1 G1 s1 k1 hv => by
    obtain ⟨a, dx, vs, h1, h2, h3⟩ := id hv
    refine ⟨a, dx, vs, h1, s1.le _ _ h2, y, H1, s1.le, Rok.nil, ?_, fun v H2 G2 s2 _ p2 => q v H2 G2 (s1.trans (s2.imp fun _ z => z.elim)) (k1.step0 s2) p2⟩
    rw [hy, ← h1]
    exact DAll.cons hv DAll.nil
/-- a method of an object -/
theorem xe_meth {P' : Program} {w' : World} {K' : PySem.W.Frag} {mg' : Str → Option Value} {base' : Heap} {α : Type} {pre : α → List Pd} {post : α → Pd} {m : Str} {g : Addr} {fd : FuncData} {ps : List Str} {n : Nat} {apos : Pos} {pl : Sem Bool} {Ps : List Pd} (F : FnOk P' w' K' mg' base' CX0 n g fd ps (SpP pre post)) (y : α) (h : XE M Γ Rs X o (PObj C fs)) (ha : XA M Γ Rs X (e :: es) Ps) (hy : pre y = PObj C fs :: Ps) (hnf : fs.lookup m = none) (hc : Cls K' C) (hm : Meth K' C m g) (hr : Room n X.A) (hb : Binds K' fd ps [])
    (hst : starEach (e :: es) X.env = (false, eval e X.env) :: starEach es X.env := by rfl)
    (hpl : (backTo pos (starEach es X.env)).any (·.1) = false := by rfl)
    (ht :
      eval (.Call (.Attribute o m apos) (e :: es) [] pos) X.env = (do
      let obj ← eval o X.env
      standAt apos.atName
      let (meth, self0) ← holding [obj] (getMethod obj m pl)
      callWith pos meth self0 (backTo pos (starEach (e :: es) X.env)) (backToKw pos (keywordEach [] X.env))) := by rfl) (eP : X.prog = P' := by rfl) (ew : X.w = w' := by rfl) (eK : X.K = K' := by rfl) (em : X.mg = mg' := by rfl) (eb : X.base = base' := by rfl) : XE M Γ Rs X (.Call (.Attribute o m apos) (e :: es) [] pos) (post y) := by
  subst eP ew eK em eb
  exact YE.wp (pe_meth (pl := pl) pe_wp hc hm F hr hb (dvs := []) .nil pass0 pa_wp hst hpl ht) fun σ H0 H l ex k Q q => h σ H0 H l ex k _ fun v H1 G1 s1 k1 hv => by
    obtain ⟨a, dx, vs, h1, h2, h3⟩ := id hv
    refine ⟨a, dx, vs, h1, s1.le _ _ h2, (h3 m).2 hnf, ?_⟩
    refine ha σ H1 G1 (l.ex s1.ex) s1.le k1 _ fun ws H2 G2 s2 k2 hw => ?_
    refine ⟨y, H2, s2.le, Rok.nil, ?_, fun v H3 G3 s3 _ p3 => q v H3 G3 ((s1.trans s2).trans (s3.imp fun _ z => z.elim)) (k2.step0 s3) p3⟩
    rw [hy, List.append_nil]
    exact DAll.cons ((PObj C fs).m s2.ex hv) hw
/-- .. without arguments -/
theorem xe_meth0 {P' : Program} {w' : World} {K' : PySem.W.Frag} {mg' : Str → Option Value} {base' : Heap} {α : Type} {pre : α → List Pd} {post : α → Pd} {m : Str} {g : Addr} {fd : FuncData} {ps : List Str} {n : Nat} {apos : Pos} {pl : Sem Bool} (F : FnOk P' w' K' mg' base' CX0 n g fd ps (SpP pre post)) (y : α) (h : XE M Γ Rs X o (PObj C fs)) (hy : pre y = [PObj C fs]) (hnf : fs.lookup m = none) (hc : Cls K' C) (hm : Meth K' C m g) (hr : Room n X.A) (hb : Binds K' fd ps [])
    (ht :
      eval (.Call (.Attribute o m apos) [] [] pos) X.env = (do
      let obj ← eval o X.env
      standAt apos.atName
      let (meth, self0) ← holding [obj] (getMethod obj m pl)
      callWith pos meth self0 (backTo pos (starEach [] X.env)) (backToKw pos (keywordEach [] X.env))) := by rfl) (eP : X.prog = P' := by rfl) (ew : X.w = w' := by rfl) (eK : X.K = K' := by rfl) (em : X.mg = mg' := by rfl) (eb : X.base = base' := by rfl) : XE M Γ Rs X (.Call (.Attribute o m apos) [] [] pos) (post y) := by
  subst eP ew eK em eb
  exact YE.wp (pe_meth0 (pl := pl) pe_wp hc hm F hr hb (dvs := []) .nil pass0 ht) fun σ H0 H l ex k Q q => h σ H0 H l ex k _ fun v H1 G1 s1 k1 hv => by
    obtain ⟨a, dx, vs, h1, h2, h3⟩ := id hv
    refine ⟨a, dx, vs, h1, s1.le _ _ h2, (h3 m).2 hnf, y, H1, s1.le, Rok.nil, ?_, fun v H3 G3 s3 _ p3 => q v H3 G3 (s1.trans (s3.imp fun _ z => z.elim)) (k1.step0 s3) p3⟩
    rw [hy]
    exact DAll.cons hv DAll.nil
/-- len of an object -/
theorem xe_lenO {P' : Program} {w' : World} {K' : PySem.W.Frag} {mg' : Str → Option Value} {base' : Heap} {α : Type} {pre : α → List Pd} {post : α → Pd} {g : Addr} {fd : FuncData} {ps : List Str} {n : Nat} {z : Int} (F : FnOk P' w' K' mg' base' CX0 n g fd ps (SpP pre post)) (y : α) (hm : X.mg "len" = none) (h : XE M Γ Rs X a (PObj C fs)) (hy : pre y = [PObj C fs]) (hz : post y = PD X.K (.int z)) (h0 : 0 ≤ z ∧ z < 2 ^ 63) (hf : PySem.W.findIn K' (.ref C) "__len__" = some (some (.ref g))) (hi : PySem.W.isFn K' (.ref g) = true) (hr : Room (n + 1) X.A) (hb : Binds K' fd ps []) (hg : Gl X "len" := by rfl) (he : starEach [a] X.env = (false, eval a X.env) :: starEach [] X.env := by rfl) (eP : X.prog = P' := by rfl) (ew : X.w = w' := by rfl) (eK : X.K = K' := by rfl) (em : X.mg = mg' := by rfl) (eb : X.base = base' := by rfl) : XE M Γ Rs X (.Call (.Name "len" p) [a] [] pos) (PD X.K (.int z)) := by
  subst eP ew eK em eb
  exact xe_callB (LhS.cr_lenO (C := C) (E := E0) hf hi F hr hb pass0) hm PySem.boot_len (xa_1 h he) (fun xs H0 H hx ex _ => by
    obtain ⟨v, e1, hv⟩ := da1 hx
    obtain ⟨a, dx, vs, h1, h2, h3⟩ := id hv
    subst e1
    exact fun Q q => ⟨a, dx, vs, by rw [h1], ex _ _ h2, y, H0, ex, Rok.nil, by rw [hy, ← h1]; exact DAll.cons hv DAll.nil, fun v H2 G2 s2 _ p2 => by
      rw [hz] at p2
      have p3 : v = .int z := p2
      exact ⟨z, p3, h0.1, h0.2, q _ H2 G2 (s2.imp fun _ z => z) rfl⟩⟩) hg (by decide) (by decide) he rfl
/-- self.f = e -/
theorem xs_fld {f : Str} {P : Pd} {x dx : Addr} {pos' : Pos} (ho : XE M Γ (Res.ob C x dx fs :: Rs) X o (PV (.ref x))) (hv : XE M Γ (Res.ob C x dx fs :: Rs) X e P) (hc : Cls X.K C) (hn : NoAttr X.K C f) (hz : fs.length < 100) (hM : M x) (hZ : ∀ H0 H, Step M Z0 Z H0 H → Rok (Res.ob C x dx fs :: Rs) H0 H → ∃ u, Z x = some u)
    (k : XS M Γ (Res.ob C x dx ((f, P) :: fs) :: Rs) X Z0 Z Hl D rest) (hs : swapsWith e (some (.Attribute o f pos')) pos.line X.env = pure false := by rfl) : XS M Γ (Res.ob C x dx fs :: Rs) X Z0 Z Hl D (.Assign [.Attribute o f pos'] e pos :: rest) :=
  xs_cons (ps_fld pe_wp pe_wp hs) fun σ H0 H l s b r => hv σ H0 H l s.le r _ fun y H1 G1 s1 k1 hy => ho σ H1 G1 (l.ex s1.ex) s1.le k1 _ fun v H2 G2 s2 k2 hv2 => by
    have hv' : v = .ref x := hv2
    subst hv'
    obtain ⟨h0, vs, hq, hd, hlen⟩ := k2.2 _ List.mem_cons_self
    have t := (s.trans s1).trans s2
    obtain ⟨uz, hZx⟩ := hZ H2 G2 t k2
    have nd := k2.1
    rw [List.flatMap_cons, List.nodup_append] at nd
    have ne : ∀ r ∈ Rs, ∀ a ∈ r.ad, a ≠ x := fun r hr a ha e => nd.2.2 x (by simp [Res.ob]) a (List.mem_flatMap.mpr ⟨r, hr, ha⟩) e.symm
    have kr : Rok Rs H2 G2 := ⟨nd.2.1, fun r hr => k2.2 r (List.mem_cons_of_mem _ hr)⟩
    refine ⟨x, C, dx, vs, rfl, hq, hc, hn, by omega, ?_⟩
    refine k _ H2 _ (l.ex (s1.ex.trans s2.ex)) ⟨fun a u hm ha => ?_, fun a u ha => ?_, t.ex, fun a u ha => ?_, t.nw⟩ (b.trans (s1.ex.trans s2.ex)) ⟨k2.1, fun r hr => ?_⟩
    · have na : a ≠ x := fun e => hm (e ▸ hM)
      rw [upd_ne na]
      exact t.un a u hm ha
    · by_cases e : a = x
      · subst e
        exact ⟨_, upd_same⟩
      · obtain ⟨o', h'⟩ := t.th a u ha
        exact ⟨o', by rw [upd_ne e]; exact h'⟩
    · have na : a ≠ x := fun e => by
        rw [e, h0] at ha
        cases ha
      rw [upd_ne na]
      exact t.le a u ha
    · obtain e | hr := List.mem_cons.mp hr
      · subst e
        exact ⟨h0, _, upd_same, hd.put (P.m s2.ex hy), Nat.le_trans (putF_length _ _ _) (by simp; omega)⟩
      · exact (kr.wr ne).2 r hr
/-- C(e, ..) -/
theorem xe_make {P' : Program} {w' : World} {K' : PySem.W.Frag} {mg' : Str → Option Value} {base' : Heap} {α : Type} {pre : α → List Pd} {fs : α → List (Str × Pd)} {x : Str} {f : Addr} {fd : FuncData} {ps : List Str} {n : Nat} {Ps : List Pd} {T : Pd} (MK : Mk K' C f) (F : FnOk P' w' K' mg' base' CX0 n f fd ps (SpI C pre fs)) (hr : Room (n + 1) X.A) (hm : mg' x = some (.ref C)) (hb : Binds K' fd ps [])
    (ha : XA M Γ Rs X (e :: es) Ps) (hx : ∀ vs H, DAll Ps vs H → ∃ y, DAll (pre y) vs H ∧ ∀ v H, (PObj C (fs y)).p v H → T.p v H) (cv : Cov M Rs) (hg : Gl X x := by rfl) (hdb : (x == ("__debug__" : Str)) = false := by decide)
    (he : starEach (e :: es) X.env = (false, eval e X.env) :: starEach es X.env := by rfl)
    (hpl : (backTo pos (starEach es X.env)).any (·.1) = false := by rfl) (eP : X.prog = P' := by rfl) (ew : X.w = w' := by rfl) (eK : X.K = K' := by rfl) (em : X.mg = mg' := by rfl) (eb : X.base = base' := by rfl) : XE M Γ Rs X (.Call (.Name x p) (e :: es) [] pos) T := by
  subst eP ew eK em eb
  exact YE.wp (pe_make MK F hr hg hm hb (dvs := []) .nil pass0 pa_wp hdb he hpl) fun σ H0 H l ex k Q q => ha σ H0 H l ex k _ fun vs H1 G1 s1 k1 a1 o dx ho hd hne => by
    obtain ⟨y, h1, h2⟩ := hx vs H1 a1
    have old : ∀ {a : Addr} {u : HO}, G1 a = some u → a ≠ o ∧ a ≠ dx := fun {a u} h => ⟨ne_of_none h ho, ne_of_none h hd⟩
    have ks : ∀ {a : Addr} {u : HO}, G1 a = some u → upd (upd G1 dx (.own o)) o (.ins C dx []) a = some u := fun {a u} h => by
      rw [upd_ne (old h).1, upd_ne (old h).2]
      exact h
    refine ⟨y, o, dx, H1, vs, by rw [List.append_nil], fun a u h => ks (s1.le a u h), ⟨by simp [Res.ob], fun r hr => ?_⟩, h1, fun H2 G2 s2 k2 => ⟨rfl, ?_⟩⟩
    · have e1 : r = Res.ob C o dx [] := by simpa using hr
      subst e1
      exact ⟨fresh_back s1.le ho, [], upd_same, fun f => ⟨fun P z => (by cases z), fun _ => rfl⟩, Nat.le_refl _⟩
    · obtain ⟨h0, ws, hq, hf, _⟩ := k2.2 _ List.mem_cons_self
      have ne : ∀ r ∈ Rs, ∀ a ∈ r.ad, a ≠ o := fun r hr a ha e => by
        obtain ⟨⟨u, h⟩, _⟩ := r.tr (k1.2 r hr) a ha
        exact (old h).1 e
      have nd : ∀ r ∈ Rs, ∀ a ∈ r.ad, a ≠ dx := fun r hr a ha e => by
        obtain ⟨⟨u, h⟩, _⟩ := r.tr (k1.2 r hr) a ha
        exact (old h).2 e
      have k1' : Rok Rs H1 (upd (upd G1 dx (.own o)) o (.ins C dx [])) := (k1.wr nd).wr ne
      have k2' : Rok Rs H2 G2 := k1'.step s2 fun r hr a ha hm => ne r hr a ha hm
      have nMo : ¬ M o := fun z => by
        obtain ⟨u, h⟩ := cv H1 G1 k1 o z
        rw [ho] at h
        cases h
      refine q _ (upd H2 o (.ins C dx ws)) G2 (s1.trans ⟨fun a u _ h => s2.un a u (fun z => (old h).1 z) (ks h), fun a u h => s2.th a u (ks h), s2.ex.trans (Ex.new h0), fun a u h => ?_, fun a u h => ?_⟩) (k2'.updA h0 ne) (h2 _ _ ⟨o, dx, ws, rfl, upd_same, hf.ex (Ex.new h0)⟩)
      · by_cases e : a = o
        · subst e
          rw [upd_same] at h
          rw [hq]
          exact h
        · rw [upd_ne e] at h
          exact s2.le a u h
      · by_cases e : a = o
        · subst e
          exact .inr ho
        · rw [upd_ne e] at h
          rcases s2.nw a u h with z | z
          · exact .inl z
          · refine .inr ?_
            cases e2 : G1 a with
            | none => rfl
            | some w =>
              rw [ks e2] at z
              cases z
end
section
variable {K : PySem.W.Frag} {mg : Str → Option Value} {base : Heap} {P : Program} {w : World}
/-- an __init__ by its body -/
theorem fn_I {α : Type} {C : Addr} {pre : α → List Pd} {fs : α → List (Str × Pd)} {x qual : Str} {st : Stmt} {f : Addr} {fd : FuncData} {N ps : List Str} {k : Nat} (F : Fun K x qual st f fd) (S : FnScope N ps (defScope st)) (len : ∀ y, (pre y).length + 1 = ps.length)
    (hb : ∀ (y : α) (o dx : Addr) (Z0 Z : Hp) (Q : VK) (X : Cx) (qX : ∃ (cdv : Value) (A : Around) (outer : List Env) (s : Shared) (E : XK), X = (cxOf CX0 P w K mg base N qual (defScope st) f cdv A outer s Z E).nox ∧ Room k X.A), (∃ u, Z o = some u) → (∀ H0' H', Step (MX o) Z0 Z H0' H' → Rok [Res.ob C o dx (fs y)] H0' H' → Q .non H') →
      XS (MX o) (ctOf N (PV (.ref o) :: pre y)) [Res.ob C o dx []] X Z0 Z Z0 { nx := fun _ H' => Q .non H', rt := Q } (defBody st)) : FnOk P w K mg base CX0 (k + 1) f fd ps (SpI C pre fs) := by
  refine F.ok S (fun vs H Q E h => ?_) (fun cdv A outer s H vs Q E hr h => ?_)
  · obtain ⟨y, o, dx, H0, ws, rfl, _, _, h, _⟩ := h
    rw [List.length_cons, h.1, len]
  · obtain ⟨y, o, dx, H0, ws, rfl, e, r, h, q⟩ := h
    refine ⟨_, pss_wp, ?_⟩
    obtain ⟨_, vs', hq, _⟩ := r.2 _ List.mem_cons_self
    exact hb y o dx H0 H Q _ ⟨cdv, A, outer, s, E, rfl, hr⟩ ⟨_, hq⟩ q _ H0 H (sl_start (DAll.cons (P := PV (.ref o)) rfl h)) (Step.rfl e) (Ex.refl _) r
end
end Lh
namespace Lh
open PySem L2
open Evl (Ex ex_l ex_t ex_rd fresh_back)
def onI (h : Int → PyData) : PyData → PyData
  | .int n => h n
  | _ => .none
def onB (t : Int → Bool) : PyData → Bool
  | .int n => t n
  | _ => false
theorem map_onI (h : Int → PyData) (ns : List Int) : (li ns).map (onI h) = ns.map h := by
  unfold li
  rw [List.map_map]
  rfl
theorem filt_onI (h : Int → PyData) (t : Int → Bool) (ns : List Int) : ((li ns).filter (onB t)).map (onI h) = (ns.filter t).map h := by
  induction ns with
  | nil => rfl
  | cons n ns ih =>
    have e1 : li (n :: ns) = .int n :: li ns := rfl
    have e2 : onB t (.int n) = t n := rfl
    rw [e1, List.filter_cons, List.filter_cons, e2]
    by_cases e : t n = true
    · rw [if_pos e, if_pos e, List.map_cons, List.map_cons, ih]
      rfl
    · rw [if_neg e, if_neg e, ih]
section
variable {M : Addr → Prop} {Γ Γ' : Ct} {Rs : List Res} {X : Cx} {K : PySem.W.Frag}
theorem xe_mapI (j : Nat) {x : Str} {elt iter : Expr} {scope : Scope} {pos xp : Pos} {ns : List Int} (h : Int → PyData) (hi : XI M Γ Rs X (.Name x xp) iter ((li ns).map (PD X.K))) (ht : ∀ n, n ∈ ns → Blk X scope fun Y => XE M (blkG Γ j (PD X.K (.int n))) Rs Y elt (PD X.K (h n)))
    (hN : X.N.Nodup) (ok : BlkOk X.N X.env.scope scope [(x, j)]) (hz : ns.length ≤ 100000) (cv : Cov M Rs) (hg : BlkG X scope x xp j) (hc : X.calm = true := by rfl) (hs : ∀ x, foldedSetIterable iter X.env x = pure x := by intro _; rfl) :
    XE M Γ Rs X (.ListComp elt [⟨.Name x xp, iter, [], 0⟩] scope pos) (PD X.K (.list (ns.map h))) := by
  have q := xe_map j (onI h) hi (fun d hd => by
    obtain ⟨n, hn, rfl⟩ := List.mem_map.mp hd
    exact ht n hn) hN ok (by simpa [li] using hz) cv hg hc hs (pos := pos)
  rw [map_onI] at q
  exact q
theorem xe_filtI (j : Nat) {x : Str} {elt iter c : Expr} {scope : Scope} {pos xp : Pos} {ns : List Int} (h : Int → PyData) (t : Int → Bool) (hi : XI M Γ Rs X (.Name x xp) iter ((li ns).map (PD X.K))) (hc' : ∀ n, n ∈ ns → Blk X scope fun Y => XT M (blkG Γ j (PD X.K (.int n))) Rs Y c (Is (t n)))
    (ht : ∀ n, n ∈ ns → t n = true → Blk X scope fun Y => XE M (blkG Γ j (PD X.K (.int n))) Rs Y elt (PD X.K (h n)))
    (hN : X.N.Nodup) (ok : BlkOk X.N X.env.scope scope [(x, j)]) (hz : ns.length ≤ 100000) (cv : Cov M Rs) (hg : BlkG X scope x xp j) (hc : X.calm = true := by rfl) (hs : ∀ x, foldedSetIterable iter X.env x = pure x := by intro _; rfl) :
    XE M Γ Rs X (.ListComp elt [⟨.Name x xp, iter, [c], 0⟩] scope pos) (PD X.K (.list ((ns.filter t).map h))) := by
  have q := xe_filt j (onI h) (onB t) hi (fun d hd => by
    obtain ⟨n, hn, rfl⟩ := List.mem_map.mp hd
    exact hc' n hn) (fun d hd => by
    obtain ⟨n, hn, rfl⟩ := List.mem_map.mp hd
    exact ht n hn) hN ok (by simpa [li] using hz) cv hg hc hs (pos := pos)
  rw [filt_onI] at q
  exact q
end
end Lh
namespace K33
open PySem L2 Lh
/-! ### the text by places -/
def top (i : Nat) : Stmt := PySem.Challenge.pw_liftheard_k33_whole_slack.main.body.getD i (.Pass ⟨0, 0, 0, 0⟩)
abbrev s_check_gaps : Stmt := top 10
abbrev s_check_bells : Stmt := top 11
abbrev s_check_floors : Stmt := top 12
abbrev s_is_row_of : Stmt := top 16
abbrev s_check_log : Stmt := top 17
abbrev s_check_hearing : Stmt := top 18
abbrev s_next_floors : Stmt := top 19
abbrev s_links_of : Stmt := top 21
abbrev s_numbers_ahead : Stmt := top 22
abbrev s_numbers_behind : Stmt := top 23
abbrev s_numbers_through : Stmt := top 24
abbrev s_floors_at : Stmt := top 27
abbrev s_next_floors_by : Stmt := top 28
abbrev s_floors_left : Stmt := top 29
abbrev s_floors_by : Stmt := top 30
abbrev s_least_slack : Stmt := top 31
abbrev s__law_mix : Stmt := top 33
abbrev s__law_next : Stmt := top 34
abbrev s__law_alike : Stmt := top 35
abbrev s__law_house : Stmt := top 36
abbrev s__law_far : Stmt := top 37
abbrev s__law_next_floors : Stmt := top 38
abbrev s__law_row : Stmt := top 39
abbrev s__law_log : Stmt := top 40
abbrev s__law_start : Stmt := top 41
abbrev s__law_by : Stmt := top 42
abbrev s_law : Stmt := top 43
abbrev s_House_init : Stmt := inClass (top 13) 0
abbrev s_House_gaps : Stmt := inClass (top 13) 1
abbrev s_House_bells : Stmt := inClass (top 13) 2
abbrev s_House_floors : Stmt := inClass (top 13) 3
abbrev s_House_len : Stmt := inClass (top 13) 4
abbrev s_House_eq : Stmt := inClass (top 13) 5
abbrev s_House_seconds : Stmt := inClass (top 13) 6
abbrev n_check_gaps : List Str := ["gaps", "index", "gap"]
theorem sc_check_gaps : FnScope n_check_gaps ["gaps"] (defScope s_check_gaps) := ⟨rfl, rfl, rfl, by decide +kernel, rfl, by decide +kernel, by decide +kernel⟩
abbrev n_check_bells : List Str := ["bells", "floors", "index", "bell"]
theorem sc_check_bells : FnScope n_check_bells ["bells", "floors"] (defScope s_check_bells) := ⟨rfl, rfl, rfl, by decide +kernel, rfl, by decide +kernel, by decide +kernel⟩
abbrev n_check_floors : List Str := ["house", "floors", "floor"]
theorem sc_check_floors : FnScope n_check_floors ["house", "floors"] (defScope s_check_floors) := ⟨rfl, rfl, rfl, by decide +kernel, rfl, by decide +kernel, by decide +kernel⟩
abbrev n_is_row_of : List Str := ["house", "row", "floor"]
theorem sc_is_row_of : FnScope n_is_row_of ["house", "row"] (defScope s_is_row_of) := ⟨rfl, rfl, rfl, by decide +kernel, rfl, by decide +kernel, by decide +kernel⟩
abbrev n_check_log : List Str := ["house", "log", "index", "row"]
theorem sc_check_log : FnScope n_check_log ["house", "log"] (defScope s_check_log) := ⟨rfl, rfl, rfl, by decide +kernel, rfl, by decide +kernel, by decide +kernel⟩
abbrev n_check_hearing : List Str := ["house", "start", "log"]
theorem sc_check_hearing : FnScope n_check_hearing ["house", "start", "log"] (defScope s_check_hearing) := ⟨rfl, rfl, rfl, by decide +kernel, rfl, by decide +kernel, by decide +kernel⟩
abbrev n_next_floors : List Str := ["house", "row", "floor", "kind", "other"]
theorem sc_next_floors : FnScope n_next_floors ["house", "row", "floor"] (defScope s_next_floors) := ⟨rfl, rfl, rfl, by decide +kernel, rfl, by decide +kernel, by decide +kernel⟩
abbrev n_links_of : List Str := ["house", "log", "floor", "row"]
theorem sc_links_of : FnScope n_links_of ["house", "log"] (defScope s_links_of) := ⟨rfl, rfl, rfl, by decide +kernel, rfl, by decide +kernel, by decide +kernel⟩
abbrev n_numbers_ahead : List Str := ["house", "links", "numbers", "ends_of_floors", "behind", "end", "ends"]
theorem sc_numbers_ahead : FnScope n_numbers_ahead ["house", "links"] (defScope s_numbers_ahead) := ⟨rfl, rfl, rfl, by decide +kernel, rfl, by decide +kernel, by decide +kernel⟩
abbrev n_numbers_behind : List Str := ["house", "start", "links", "numbers", "floor", "ends_of_floors", "behind", "number", "ends", "end"]
theorem sc_numbers_behind : FnScope n_numbers_behind ["house", "start", "links"] (defScope s_numbers_behind) := ⟨rfl, rfl, rfl, by decide +kernel, rfl, by decide +kernel, by decide +kernel⟩
abbrev n_numbers_through : List Str := ["house", "start", "links", "numbers", "behind", "ahead", "one", "other"]
theorem sc_numbers_through : FnScope n_numbers_through ["house", "start", "links"] (defScope s_numbers_through) := ⟨rfl, rfl, rfl, by decide +kernel, rfl, by decide +kernel, by decide +kernel⟩
abbrev n_floors_at : List Str := ["house", "start", "log", "moment", "numbers", "floor"]
theorem sc_floors_at : FnScope n_floors_at ["house", "start", "log", "moment"] (defScope s_floors_at) := ⟨rfl, rfl, rfl, by decide +kernel, rfl, by decide +kernel, by decide +kernel⟩
abbrev n_next_floors_by : List Str := ["house", "row", "floor", "slack", "others", "other"]
theorem sc_next_floors_by : FnScope n_next_floors_by ["house", "row", "floor", "slack"] (defScope s_next_floors_by) := ⟨rfl, rfl, rfl, by decide +kernel, rfl, by decide +kernel, by decide +kernel⟩
abbrev n_floors_left : List Str := ["house", "start", "log", "slack", "floors", "row", "floor", "other"]
theorem sc_floors_left : FnScope n_floors_left ["house", "start", "log", "slack"] (defScope s_floors_left) := ⟨rfl, rfl, rfl, by decide +kernel, rfl, by decide +kernel, by decide +kernel⟩
abbrev n_floors_by : List Str := ["house", "start", "log", "slack"]
theorem sc_floors_by : FnScope n_floors_by ["house", "start", "log", "slack"] (defScope s_floors_by) := ⟨rfl, rfl, rfl, by decide +kernel, rfl, by decide +kernel, by decide +kernel⟩
abbrev n_least_slack : List Str := ["house", "start", "log", "slack"]
theorem sc_least_slack : FnScope n_least_slack ["house", "start", "log"] (defScope s_least_slack) := ⟨rfl, rfl, rfl, by decide +kernel, rfl, by decide +kernel, by decide +kernel⟩
abbrev n__law_mix : List Str := ["_law_script", "_law_seed", "_law_state", "_law_cell"]
theorem sc__law_mix : FnScope n__law_mix ["_law_script", "_law_seed"] (defScope s__law_mix) := ⟨rfl, rfl, rfl, by decide +kernel, rfl, by decide +kernel, by decide +kernel⟩
abbrev n__law_next : List Str := ["_law_h", "_law_limit", "_law_cell"]
theorem sc__law_next : FnScope n__law_next ["_law_h", "_law_limit"] (defScope s__law_next) := ⟨rfl, rfl, rfl, by decide +kernel, rfl, by decide +kernel, by decide +kernel⟩
abbrev n__law_alike : List Str := ["_law_found", "_law_due", "_law_k"]
theorem sc__law_alike : FnScope n__law_alike ["_law_found", "_law_due"] (defScope s__law_alike) := ⟨rfl, rfl, rfl, by decide +kernel, rfl, by decide +kernel, by decide +kernel⟩
abbrev n__law_house : List Str := ["_law_h", "_law_most", "_law_gaps", "_law_k", "_law_floor"]
theorem sc__law_house : FnScope n__law_house ["_law_h", "_law_most"] (defScope s__law_house) := ⟨rfl, rfl, rfl, by decide +kernel, rfl, by decide +kernel, by decide +kernel⟩
abbrev n__law_far : List Str := ["_law_gaps", "_law_one", "_law_other"]
theorem sc__law_far : FnScope n__law_far ["_law_gaps", "_law_one", "_law_other"] (defScope s__law_far) := ⟨rfl, rfl, rfl, by decide +kernel, rfl, by decide +kernel, by decide +kernel⟩
abbrev n__law_next_floors : List Str := ["_law_drawn", "_law_floor", "_law_row_here", "_law_floors", "_law_other"]
theorem sc__law_next_floors : FnScope n__law_next_floors ["_law_drawn", "_law_floor", "_law_row_here"] (defScope s__law_next_floors) := ⟨rfl, rfl, rfl, by decide +kernel, rfl, by decide +kernel, by decide +kernel⟩
abbrev n__law_row : List Str := ["_law_h", "_law_drawn", "_law_floor", "_law_many", "_law_kind", "_law_other", "_law_one", "_law_seconds", "_law_some"]
theorem sc__law_row : FnScope n__law_row ["_law_h", "_law_drawn", "_law_floor"] (defScope s__law_row) := ⟨rfl, rfl, rfl, by decide +kernel, rfl, by decide +kernel, by decide +kernel⟩
abbrev n__law_log : List Str := ["_law_h", "_law_drawn", "_law_start_here", "_law_many", "_law_floor", "_law_found", "_law_k", "_law_row_here", "_law_later"]
theorem sc__law_log : FnScope n__law_log ["_law_h", "_law_drawn", "_law_start_here", "_law_many"] (defScope s__law_log) := ⟨rfl, rfl, rfl, by decide +kernel, rfl, by decide +kernel, by decide +kernel⟩
abbrev n__law_start : List Str := ["_law_h", "_law_drawn", "_law_many", "_law_found", "_law_floor"]
theorem sc__law_start : FnScope n__law_start ["_law_h", "_law_drawn"] (defScope s__law_start) := ⟨rfl, rfl, rfl, by decide +kernel, rfl, by decide +kernel, by decide +kernel⟩
abbrev n__law_by : List Str := ["_law_drawn", "_law_start_here", "_law_log_here", "_law_slack", "_law_floors", "_law_row_here", "_law_later", "_law_floor", "_law_some", "_law_other"]
theorem sc__law_by : FnScope n__law_by ["_law_drawn", "_law_start_here", "_law_log_here", "_law_slack"] (defScope s__law_by) := ⟨rfl, rfl, rfl, by decide +kernel, rfl, by decide +kernel, by decide +kernel⟩
abbrev n_law : List Str := ["_law_script", "_law_h", "_law_turn", "_law_drawn", "_law_start_here", "_law_house_here", "_law_log_here", "_law_row_here", "_law_wrong", "_law_rows", "_law_slack", "_law_least"]
theorem sc_law : FnScope n_law ["_law_script"] (defScope s_law) := ⟨rfl, rfl, rfl, by decide +kernel, rfl, by decide +kernel, by decide +kernel⟩
abbrev n_House_init : List Str := ["self", "gaps", "bells", "floors"]
theorem sc_House_init : FnScope n_House_init ["self", "gaps", "bells"] (defScope s_House_init) := ⟨rfl, rfl, rfl, by decide +kernel, rfl, by decide +kernel, by decide +kernel⟩
abbrev n_House_gaps : List Str := ["self"]
theorem sc_House_gaps : FnScope n_House_gaps ["self"] (defScope s_House_gaps) := ⟨rfl, rfl, rfl, by decide +kernel, rfl, by decide +kernel, by decide +kernel⟩
abbrev n_House_bells : List Str := ["self"]
theorem sc_House_bells : FnScope n_House_bells ["self"] (defScope s_House_bells) := ⟨rfl, rfl, rfl, by decide +kernel, rfl, by decide +kernel, by decide +kernel⟩
abbrev n_House_floors : List Str := ["self"]
theorem sc_House_floors : FnScope n_House_floors ["self"] (defScope s_House_floors) := ⟨rfl, rfl, rfl, by decide +kernel, rfl, by decide +kernel, by decide +kernel⟩
abbrev n_House_len : List Str := ["self"]
theorem sc_House_len : FnScope n_House_len ["self"] (defScope s_House_len) := ⟨rfl, rfl, rfl, by decide +kernel, rfl, by decide +kernel, by decide +kernel⟩
abbrev n_House_eq : List Str := ["self", "other"]
theorem sc_House_eq : FnScope n_House_eq ["self", "other"] (defScope s_House_eq) := ⟨rfl, rfl, rfl, by decide +kernel, rfl, by decide +kernel, by decide +kernel⟩
abbrev n_House_seconds : List Str := ["self", "one", "other"]
theorem sc_House_seconds : FnScope n_House_seconds ["self", "one", "other"] (defScope s_House_seconds) := ⟨rfl, rfl, rfl, by decide +kernel, rfl, by decide +kernel, by decide +kernel⟩
/-- what the top has written -/
structure Txt (K : PySem.W.Frag) (mg : Str → Option Value) where
  C_House : Addr
  f_check_gaps : Addr
  d_check_gaps : FuncData
  f_check_bells : Addr
  d_check_bells : FuncData
  f_check_floors : Addr
  d_check_floors : FuncData
  f_is_row_of : Addr
  d_is_row_of : FuncData
  f_check_log : Addr
  d_check_log : FuncData
  f_check_hearing : Addr
  d_check_hearing : FuncData
  f_next_floors : Addr
  d_next_floors : FuncData
  f_links_of : Addr
  d_links_of : FuncData
  f_numbers_ahead : Addr
  d_numbers_ahead : FuncData
  f_numbers_behind : Addr
  d_numbers_behind : FuncData
  f_numbers_through : Addr
  d_numbers_through : FuncData
  f_floors_at : Addr
  d_floors_at : FuncData
  f_next_floors_by : Addr
  d_next_floors_by : FuncData
  f_floors_left : Addr
  d_floors_left : FuncData
  f_floors_by : Addr
  d_floors_by : FuncData
  f_least_slack : Addr
  d_least_slack : FuncData
  f__law_mix : Addr
  d__law_mix : FuncData
  f__law_next : Addr
  d__law_next : FuncData
  f__law_alike : Addr
  d__law_alike : FuncData
  f__law_house : Addr
  d__law_house : FuncData
  f__law_far : Addr
  d__law_far : FuncData
  f__law_next_floors : Addr
  d__law_next_floors : FuncData
  f__law_row : Addr
  d__law_row : FuncData
  f__law_log : Addr
  d__law_log : FuncData
  f__law_start : Addr
  d__law_start : FuncData
  f__law_by : Addr
  d__law_by : FuncData
  f_law : Addr
  d_law : FuncData
  f_House_init : Addr
  d_House_init : FuncData
  f_House_gaps : Addr
  d_House_gaps : FuncData
  f_House_bells : Addr
  d_House_bells : FuncData
  f_House_floors : Addr
  d_House_floors : FuncData
  f_House_len : Addr
  d_House_len : FuncData
  f_House_eq : Addr
  d_House_eq : FuncData
  f_House_seconds : Addr
  d_House_seconds : FuncData
  p_House_gaps : Addr
  p_House_bells : Addr
  p_House_floors : Addr
  F_check_gaps : Fun K "check_gaps" "check_gaps" s_check_gaps f_check_gaps d_check_gaps
  b_check_gaps : Binds K d_check_gaps ["gaps"] []
  g_check_gaps : mg "check_gaps" = some (.ref f_check_gaps)
  F_check_bells : Fun K "check_bells" "check_bells" s_check_bells f_check_bells d_check_bells
  b_check_bells : Binds K d_check_bells ["bells", "floors"] []
  g_check_bells : mg "check_bells" = some (.ref f_check_bells)
  F_check_floors : Fun K "check_floors" "check_floors" s_check_floors f_check_floors d_check_floors
  b_check_floors : Binds K d_check_floors ["house", "floors"] []
  g_check_floors : mg "check_floors" = some (.ref f_check_floors)
  F_is_row_of : Fun K "is_row_of" "is_row_of" s_is_row_of f_is_row_of d_is_row_of
  b_is_row_of : Binds K d_is_row_of ["house", "row"] []
  g_is_row_of : mg "is_row_of" = some (.ref f_is_row_of)
  F_check_log : Fun K "check_log" "check_log" s_check_log f_check_log d_check_log
  b_check_log : Binds K d_check_log ["house", "log"] []
  g_check_log : mg "check_log" = some (.ref f_check_log)
  F_check_hearing : Fun K "check_hearing" "check_hearing" s_check_hearing f_check_hearing d_check_hearing
  b_check_hearing : Binds K d_check_hearing ["house", "start", "log"] []
  g_check_hearing : mg "check_hearing" = some (.ref f_check_hearing)
  F_next_floors : Fun K "next_floors" "next_floors" s_next_floors f_next_floors d_next_floors
  b_next_floors : Binds K d_next_floors ["house", "row", "floor"] []
  g_next_floors : mg "next_floors" = some (.ref f_next_floors)
  F_links_of : Fun K "links_of" "links_of" s_links_of f_links_of d_links_of
  b_links_of : Binds K d_links_of ["house", "log"] []
  g_links_of : mg "links_of" = some (.ref f_links_of)
  F_numbers_ahead : Fun K "numbers_ahead" "numbers_ahead" s_numbers_ahead f_numbers_ahead d_numbers_ahead
  b_numbers_ahead : Binds K d_numbers_ahead ["house", "links"] []
  g_numbers_ahead : mg "numbers_ahead" = some (.ref f_numbers_ahead)
  F_numbers_behind : Fun K "numbers_behind" "numbers_behind" s_numbers_behind f_numbers_behind d_numbers_behind
  b_numbers_behind : Binds K d_numbers_behind ["house", "start", "links"] []
  g_numbers_behind : mg "numbers_behind" = some (.ref f_numbers_behind)
  F_numbers_through : Fun K "numbers_through" "numbers_through" s_numbers_through f_numbers_through d_numbers_through
  b_numbers_through : Binds K d_numbers_through ["house", "start", "links"] []
  g_numbers_through : mg "numbers_through" = some (.ref f_numbers_through)
  F_floors_at : Fun K "floors_at" "floors_at" s_floors_at f_floors_at d_floors_at
  b_floors_at : Binds K d_floors_at ["house", "start", "log", "moment"] []
  g_floors_at : mg "floors_at" = some (.ref f_floors_at)
  F_next_floors_by : Fun K "next_floors_by" "next_floors_by" s_next_floors_by f_next_floors_by d_next_floors_by
  b_next_floors_by : Binds K d_next_floors_by ["house", "row", "floor", "slack"] []
  g_next_floors_by : mg "next_floors_by" = some (.ref f_next_floors_by)
  F_floors_left : Fun K "floors_left" "floors_left" s_floors_left f_floors_left d_floors_left
  b_floors_left : Binds K d_floors_left ["house", "start", "log", "slack"] []
  g_floors_left : mg "floors_left" = some (.ref f_floors_left)
  F_floors_by : Fun K "floors_by" "floors_by" s_floors_by f_floors_by d_floors_by
  b_floors_by : Binds K d_floors_by ["house", "start", "log", "slack"] []
  g_floors_by : mg "floors_by" = some (.ref f_floors_by)
  F_least_slack : Fun K "least_slack" "least_slack" s_least_slack f_least_slack d_least_slack
  b_least_slack : Binds K d_least_slack ["house", "start", "log"] []
  g_least_slack : mg "least_slack" = some (.ref f_least_slack)
  F__law_mix : Fun K "_law_mix" "_law_mix" s__law_mix f__law_mix d__law_mix
  b__law_mix : Binds K d__law_mix ["_law_script", "_law_seed"] []
  g__law_mix : mg "_law_mix" = some (.ref f__law_mix)
  F__law_next : Fun K "_law_next" "_law_next" s__law_next f__law_next d__law_next
  b__law_next : Binds K d__law_next ["_law_h", "_law_limit"] []
  g__law_next : mg "_law_next" = some (.ref f__law_next)
  F__law_alike : Fun K "_law_alike" "_law_alike" s__law_alike f__law_alike d__law_alike
  b__law_alike : Binds K d__law_alike ["_law_found", "_law_due"] []
  g__law_alike : mg "_law_alike" = some (.ref f__law_alike)
  F__law_house : Fun K "_law_house" "_law_house" s__law_house f__law_house d__law_house
  b__law_house : Binds K d__law_house ["_law_h", "_law_most"] []
  g__law_house : mg "_law_house" = some (.ref f__law_house)
  F__law_far : Fun K "_law_far" "_law_far" s__law_far f__law_far d__law_far
  b__law_far : Binds K d__law_far ["_law_gaps", "_law_one", "_law_other"] []
  g__law_far : mg "_law_far" = some (.ref f__law_far)
  F__law_next_floors : Fun K "_law_next_floors" "_law_next_floors" s__law_next_floors f__law_next_floors d__law_next_floors
  b__law_next_floors : Binds K d__law_next_floors ["_law_drawn", "_law_floor", "_law_row_here"] []
  g__law_next_floors : mg "_law_next_floors" = some (.ref f__law_next_floors)
  F__law_row : Fun K "_law_row" "_law_row" s__law_row f__law_row d__law_row
  b__law_row : Binds K d__law_row ["_law_h", "_law_drawn", "_law_floor"] []
  g__law_row : mg "_law_row" = some (.ref f__law_row)
  F__law_log : Fun K "_law_log" "_law_log" s__law_log f__law_log d__law_log
  b__law_log : Binds K d__law_log ["_law_h", "_law_drawn", "_law_start_here", "_law_many"] []
  g__law_log : mg "_law_log" = some (.ref f__law_log)
  F__law_start : Fun K "_law_start" "_law_start" s__law_start f__law_start d__law_start
  b__law_start : Binds K d__law_start ["_law_h", "_law_drawn"] []
  g__law_start : mg "_law_start" = some (.ref f__law_start)
  F__law_by : Fun K "_law_by" "_law_by" s__law_by f__law_by d__law_by
  b__law_by : Binds K d__law_by ["_law_drawn", "_law_start_here", "_law_log_here", "_law_slack"] []
  g__law_by : mg "_law_by" = some (.ref f__law_by)
  F_law : Fun K "law" "law" s_law f_law d_law
  b_law : Binds K d_law ["_law_script"] []
  g_law : mg "law" = some (.ref f_law)
  F_House_init : Fun K "__init__" "House.__init__" s_House_init f_House_init d_House_init
  b_House_init : Binds K d_House_init ["self", "gaps", "bells"] []
  F_House_gaps : Fun K "gaps" "House.gaps" s_House_gaps f_House_gaps d_House_gaps
  b_House_gaps : Binds K d_House_gaps ["self"] []
  m_House_gaps : PropOf K C_House "gaps" p_House_gaps f_House_gaps
  F_House_bells : Fun K "bells" "House.bells" s_House_bells f_House_bells d_House_bells
  b_House_bells : Binds K d_House_bells ["self"] []
  m_House_bells : PropOf K C_House "bells" p_House_bells f_House_bells
  F_House_floors : Fun K "floors" "House.floors" s_House_floors f_House_floors d_House_floors
  b_House_floors : Binds K d_House_floors ["self"] []
  m_House_floors : PropOf K C_House "floors" p_House_floors f_House_floors
  F_House_len : Fun K "__len__" "House.__len__" s_House_len f_House_len d_House_len
  b_House_len : Binds K d_House_len ["self"] []
  m_House_len : Meth K C_House "__len__" f_House_len
  F_House_eq : Fun K "__eq__" "House.__eq__" s_House_eq f_House_eq d_House_eq
  b_House_eq : Binds K d_House_eq ["self", "other"] []
  m_House_eq : Meth K C_House "__eq__" f_House_eq
  F_House_seconds : Fun K "seconds" "House.seconds" s_House_seconds f_House_seconds d_House_seconds
  b_House_seconds : Binds K d_House_seconds ["self", "one", "other"] []
  m_House_seconds : Meth K C_House "seconds" f_House_seconds
  g_House : mg "House" = some (.ref C_House)
  c_House : Cls K C_House
  k_House : Mk K C_House f_House_init
  a_House_gaps : NoAttr K C_House "_gaps"
  a_House_bells : NoAttr K C_House "_bells"
  a_House_floors : NoAttr K C_House "_floors"
  z_len : mg "len" = none
  z_range : mg "range" = none
  z_enumerate : mg "enumerate" = none
  z_zip : mg "zip" = none
  z_min : mg "min" = none
  z_max : mg "max" = none
  z_sum : mg "sum" = none
  z_abs : mg "abs" = none
  z_sorted : mg "sorted" = none
  z_reversed : mg "reversed" = none
  z_int : mg "int" = none
  z_str : mg "str" = none
  z_bool : mg "bool" = none
  z_list : mg "list" = none
  z_tuple : mg "tuple" = none
  z_dict : mg "dict" = none
  z_set : mg "set" = none
  z_isinstance : mg "isinstance" = none
  z_all : mg "all" = none
  v_MOST_GAPS : ∃ t, mg "MOST_GAPS" = some (.int 9 t)
  v_LONGEST_GAP : ∃ t, mg "LONGEST_GAP" = some (.int 9 t)
  v_LONGEST_GO : ∃ t, mg "LONGEST_GO" = some (.int 81 t)
  v_MOST_SLACK : ∃ t, mg "MOST_SLACK" = some (.int 9 t)
end K33
namespace K33
open PySem L2 Lh
structure GapsOk (g : List Int) : Prop where
  one : 1 ≤ g.length
  nine : g.length ≤ 9
  each : ∀ x ∈ g, 1 ≤ x ∧ x ≤ 9
abbrev spCheckGaps (K : PySem.W.Frag) : Sp := SpP (α := { g : List Int // GapsOk g }) (fun g => [PD K (.tuple (li g.1))]) (fun _ => PD K .none)
section
variable {K : PySem.W.Frag} {mg : Str → Option Value} {base : Heap} {P : Program} {w : World}
theorem ok_check_gaps (T : Txt K mg) : FnOk P w K mg base CX0 1 T.f_check_gaps T.d_check_gaps ["gaps"] (spCheckGaps K) := by
  refine fn_F T.F_check_gaps sc_check_gaps (fun _ => rfl) fun ⟨g, hg⟩ Z0 Z Q X qX hQ => ?_
  obtain ⟨cdv, A, outer, s, E, rfl, hr⟩ := qX
  obtain ⟨t1, v1⟩ := T.v_MOST_GAPS
  obtain ⟨t2, v2⟩ := T.v_LONGEST_GAP
  refine xs_skip ((xt_notB (xt_truT (xe_var 0))).eq ?_) ?_
  · have h := hg.one
    cases g with
    | nil => simp at h
    | cons x r => rfl
  · refine xs_forP 1 2 (xi_enumT T.z_enumerate (xe_var 0)) (fun _ Γ1 Rs1 => Rs1 = [] ∧ ∃ a b, Γ1 = [some (PD K (.tuple (li g))), a, b]) ⟨rfl, none, none, rfl⟩ ?_ ?_ sc_check_gaps.nd
    · rintro t Qt Γ1 Rs1 hq ⟨rfl, a, b, rfl⟩
      obtain ⟨d, hd, rfl⟩ := enum_at hq
      obtain ⟨n, hn, rfl⟩ := li_at hd
      refine ⟨_, _, rfl, fun Hs => ?_⟩
      have h1 := hg.each n (List.mem_of_getElem? hn)
      have h2 : t < g.length := (List.getElem?_eq_some_iff.mp hn).1
      have h3 := hg.nine
      refine xs_skip ((xt_orB (xt_eqI (xe_var 1) (xe_gint v1)) fun _ => xt_notB (xt_lele (K := K) xe_int (xe_var 2) (xe_gint v2))).eq ?_) ?_
      rotate_left
      · exact xs_turn (fun σ H h => h) ⟨rfl, _, _, rfl⟩
      have : ¬ ((t : Int) = 9) := by omega
      simp [this, h1.1, h1.2]
    · rintro Γ1 Rs1 ⟨rfl, a, b, rfl⟩
      exact xs_nil fun σ H0 H l s b k => hQ _ _ _ s k rfl
end
end K33
namespace K33
open PySem L2 Lh
theorem mem_rgI {x : Int} {n : Nat} : x ∈ rgI 0 n ↔ 0 ≤ x ∧ x < n := by
  unfold rgI
  rw [List.mem_map]
  constructor
  · rintro ⟨i, hi, rfl⟩
    rw [List.mem_range] at hi
    omega
  · rintro ⟨h0, h1⟩
    exact ⟨x.toNat, List.mem_range.mpr (by omega), by omega⟩
/-- ascending floors among fl -/
structure BellsOk (b fl : List Int) : Prop where
  among : ∀ x ∈ b, x ∈ fl
  up : ∀ (t : Nat) (m n : Int), b[t]? = some m → b[t + 1]? = some n → m < n
structure HouseOk (g b : List Int) : Prop where
  gaps : GapsOk g
  bells : BellsOk b (rgI 0 (g.length + 1))
abbrev spCheckBells (K : PySem.W.Frag) : Sp := SpP (α := { p : List Int × List Int // BellsOk p.1 p.2 }) (fun p => [PD K (.tuple (li p.1.1)), PD K (.tuple (li p.1.2))]) (fun _ => PD K .none)
abbrev flds (K : PySem.W.Frag) (g b : List Int) : List (Str × Pd) := [("_floors", PD K (.tuple (li (rgI 0 (g.length + 1))))), ("_bells", PD K (.tuple (li b))), ("_gaps", PD K (.tuple (li g)))]
abbrev PHo (K : PySem.W.Frag) (C : Addr) (g b : List Int) : Pd := PObj C (flds K g b)
theorem atI_prev {ns : List Int} {t : Nat} (h : t < ns.length) : atI (li ns) (((t + 1 : Nat) : Int) - 1) = some (.int ns[t]) := by
  have e : (((t + 1 : Nat) : Int) - 1) = (t : Int) := by omega
  rw [e]
  exact atI_nat (by simp [li, h])
section
variable {K : PySem.W.Frag} {mg : Str → Option Value} {base : Heap} {P : Program} {w : World}
theorem ok_check_bells (T : Txt K mg) : FnOk P w K mg base CX0 1 T.f_check_bells T.d_check_bells ["bells", "floors"] (spCheckBells K) := by
  refine fn_F T.F_check_bells sc_check_bells (fun _ => rfl) fun ⟨⟨bs, fl⟩, hb⟩ Z0 Z Q X qX hQ => ?_
  obtain ⟨cdv, A, outer, s, E, rfl, hr⟩ := qX
  refine xs_forP 2 3 (xi_enumT T.z_enumerate (xe_var 0)) (fun _ Γ1 Rs1 => Rs1 = [] ∧ ∃ a b, Γ1 = [some (PD K (.tuple (li bs))), some (PD K (.tuple (li fl))), a, b]) ⟨rfl, none, none, rfl⟩ ?_ ?_ sc_check_bells.nd
  · rintro t Qt Γ1 Rs1 hq ⟨rfl, a, b, rfl⟩
    obtain ⟨d, hd, rfl⟩ := enum_at hq
    obtain ⟨n, hn, rfl⟩ := li_at hd
    refine ⟨_, _, rfl, fun Hs => ?_⟩
    have h1 := hb.among n (List.mem_of_getElem? hn)
    have hlt : t < bs.length := (List.getElem?_eq_some_iff.mp hn).1
    refine xs_skip (YT.eq (xt_orB (xt_niT (xe_var 3) (xe_var 1)) fun _ => (?_ : XT _ _ _ _ _ (Is false))) (by simp [h1])) (xs_turn (fun σ H h => h) ⟨rfl, _, _, rfl⟩)
    cases t with
    | zero => exact YT.eq (xt_andB (v := false) (xt_gt (K := K) (xe_var 2) xe_int) (fun z => by simp at z)) (by simp)
    | succ t' =>
      have hp : t' < bs.length := by omega
      have h2 := hb.up t' bs[t'] n (List.getElem?_eq_getElem hp) hn
      exact YT.eq (xt_andB (xt_gt (K := K) (xe_var 2) xe_int) (fun _ => xt_le (K := K) (xe_var 3) (xe_ixT (xe_var 0) (xe_sub (xe_var 2) xe_int) (atI_prev hp)))) (by
        have : ¬ n ≤ bs[t'] := by omega
        simp [this])
  · rintro Γ1 Rs1 ⟨rfl, a, b, rfl⟩
    exact xs_nil fun σ H0 H l s b k => hQ _ _ _ s k rfl
abbrev spFld (K : PySem.W.Frag) (C : Addr) (r : List Int × List Int → Pd) : Sp := SpP (α := List Int × List Int) (fun y => [PHo K C y.1 y.2]) r
theorem ok_House_floors (T : Txt K mg) : FnOk P w K mg base CX0 1 T.f_House_floors T.d_House_floors ["self"] (spFld K T.C_House fun y => PD K (.tuple (li (rgI 0 (y.1.length + 1))))) := by
  refine fn_F T.F_House_floors sc_House_floors (fun _ => rfl) fun ⟨g, b⟩ Z0 Z Q X qX hQ => ?_
  obtain ⟨cdv, A, outer, s, E, rfl, hr⟩ := qX
  exact xs_ret (xe_fld (xe_var 0) rfl T.c_House T.a_House_floors) fun v H0 H s k hv => hQ v H0 H s k hv
theorem ok_House_gaps (T : Txt K mg) : FnOk P w K mg base CX0 1 T.f_House_gaps T.d_House_gaps ["self"] (spFld K T.C_House fun y => PD K (.tuple (li y.1))) := by
  refine fn_F T.F_House_gaps sc_House_gaps (fun _ => rfl) fun ⟨g, b⟩ Z0 Z Q X qX hQ => ?_
  obtain ⟨cdv, A, outer, s, E, rfl, hr⟩ := qX
  exact xs_ret (xe_fld (xe_var 0) rfl T.c_House T.a_House_gaps) fun v H0 H s k hv => hQ v H0 H s k hv
theorem ok_House_bells (T : Txt K mg) : FnOk P w K mg base CX0 1 T.f_House_bells T.d_House_bells ["self"] (spFld K T.C_House fun y => PD K (.tuple (li y.2))) := by
  refine fn_F T.F_House_bells sc_House_bells (fun _ => rfl) fun ⟨g, b⟩ Z0 Z Q X qX hQ => ?_
  obtain ⟨cdv, A, outer, s, E, rfl, hr⟩ := qX
  exact xs_ret (xe_fld (xe_var 0) rfl T.c_House T.a_House_bells) fun v H0 H s k hv => hQ v H0 H s k hv
theorem ok_House_len (T : Txt K mg) : FnOk P w K mg base CX0 1 T.f_House_len T.d_House_len ["self"] (spFld K T.C_House fun y => PD K (.int ((y.1.length : Int) + 1))) := by
  refine fn_F T.F_House_len sc_House_len (fun _ => rfl) fun ⟨g, b⟩ Z0 Z Q X qX hQ => ?_
  obtain ⟨cdv, A, outer, s, E, rfl, hr⟩ := qX
  refine xs_ret (YE.to (xe_lenT T.z_len (xe_fld (xe_var 0) rfl T.c_House T.a_House_floors)) ?_) fun v H0 H s k hv => hQ v H0 H s k hv
  simp [li, rgI_len]
  rfl
/-- a house of this class -/
abbrev spCheckFloors (K : PySem.W.Frag) (C : Addr) : Sp := SpP (α := { p : (List Int × List Int) × List Int // ∀ x ∈ p.2, 0 ≤ x ∧ x ≤ p.1.1.length }) (fun p => [PHo K C p.1.1.1 p.1.1.2, PD K (.tuple (li p.1.2))]) (fun _ => PD K .none)
theorem ok_check_floors (T : Txt K mg) : FnOk P w K mg base CX0 3 T.f_check_floors T.d_check_floors ["house", "floors"] (spCheckFloors K T.C_House) := by
  refine fn_F T.F_check_floors sc_check_floors (fun _ => rfl) fun ⟨⟨⟨g, b⟩, fl⟩, hf⟩ Z0 Z Q X qX hQ => ?_
  obtain ⟨cdv, A, outer, s, E, rfl, hr⟩ := qX
  refine xs_forN 2 (xi_tup (xe_var 1)) (fun _ Γ1 Rs1 => Rs1 = [] ∧ ∃ a, Γ1 = [some (PHo K T.C_House g b), some (PD K (.tuple (li fl))), a]) ⟨rfl, none, rfl⟩ ?_ ?_ sc_check_floors.nd
  · rintro t Qt Γ1 Rs1 hq ⟨rfl, a, rfl⟩ Hs
    obtain ⟨d, hd, rfl⟩ := map_at hq
    obtain ⟨n, hn, rfl⟩ := li_at hd
    have h1 : 0 ≤ n ∧ n ≤ g.length := hf n (List.mem_of_getElem? hn)
    refine xs_skip (YT.eq (xt_niT (xe_var 2) (xe_prop (ok_House_floors T) (g, b) (xe_var 0) rfl T.c_House T.m_House_floors hr T.b_House_floors)) ?_) (xs_turn (fun σ H h => h) ⟨rfl, _, rfl⟩)
    have : n ∈ rgI 0 (g.length + 1) := mem_rgI.mpr (by omega)
    simp [this]
  · rintro Γ1 Rs1 ⟨rfl, a, rfl⟩
    exact xs_nil fun σ H0 H l s b k => hQ _ _ _ s k rfl
/-- the seconds between two floors -/
def far (g : List Int) (i j : Int) : Int := ((g.drop (min i j).toNat).take ((max i j).toNat - (min i j).toNat)).sum
abbrev spSeconds (K : PySem.W.Frag) (C : Addr) : Sp := SpP (α := { p : (List Int × List Int) × Int × Int // (0 ≤ p.2.1 ∧ p.2.1 ≤ p.1.1.length) ∧ 0 ≤ p.2.2 ∧ p.2.2 ≤ p.1.1.length }) (fun p => [PHo K C p.1.1.1 p.1.1.2, PD K (.int p.1.2.1), PD K (.int p.1.2.2)]) (fun p => PD K (.int (far p.1.1.1 p.1.2.1 p.1.2.2)))
theorem li_cut (g : List Int) (i j : Nat) : ((li g).drop i).take j = li ((g.drop i).take j) := by
  simp [li, List.map_drop, List.map_take]
theorem ok_House_seconds (T : Txt K mg) : FnOk P w K mg base CX0 4 T.f_House_seconds T.d_House_seconds ["self", "one", "other"] (spSeconds K T.C_House) := by
  refine fn_F T.F_House_seconds sc_House_seconds (fun _ => rfl) fun ⟨⟨⟨g, b⟩, i, j⟩, hi, hj⟩ Z0 Z Q X qX hQ => ?_
  obtain ⟨cdv, A, outer, s, E, rfl, hr⟩ := qX
  have hi' : 0 ≤ i ∧ i ≤ g.length := hi
  have hj' : 0 ≤ j ∧ j ≤ g.length := hj
  have h0 : 0 ≤ min i j := by omega
  have h1 : 0 ≤ max i j := by omega
  refine xs_expr (xe_callD (ok_check_floors T) ⟨((g, b), [i, j]), ?_⟩ hr T.g_check_floors T.F_check_floors.kp T.b_check_floors (xa_cons (xe_var 0) (xa_1 (xe_tup (ds := [.int i, .int j]) (xa_cons (xe_var 1) (xa_1 (xe_var 2))) (by simp))))) ?_
  · intro x hx
    have e : x = i ∨ x = j := by simpa using hx
    rcases e with rfl | rfl
    · exact hi
    · exact hj
  · refine xs_ret (xe_sumT T.z_sum (YE.to (xe_slT2 (xe_fld (xe_var 0) rfl T.c_House T.a_House_gaps) (xe_min2 T.z_min (xe_var 1) (xe_var 2)) (xe_max2 T.z_max (xe_var 1) (xe_var 2)) h0 h1) (by rw [li_cut]))) fun v H0 H s k hv => hQ v H0 H s k hv
abbrev spHouse (K : PySem.W.Frag) (C : Addr) : Sp := SpI C (α := { p : List Int × List Int // HouseOk p.1 p.2 }) (fun p => [PD K (.tuple (li p.1.1)), PD K (.tuple (li p.1.2))]) (fun p => flds K p.1.1 p.1.2)
theorem ok_House_init (T : Txt K mg) : FnOk P w K mg base CX0 2 T.f_House_init T.d_House_init ["self", "gaps", "bells"] (spHouse K T.C_House) := by
  refine fn_I T.F_House_init sc_House_init (fun _ => rfl) fun ⟨⟨g, bs⟩, hh⟩ o dx Z0 Z Q X qX hZ hQ => ?_
  obtain ⟨cdv, A, outer, s, E, rfl, hr⟩ := qX
  have h9 : g.length ≤ 9 := hh.gaps.nine
  refine xs_asg 3 (YE.to (P' := PD K (.tuple (li (rgI 0 (g.length + 1))))) (xe_tupRg T.z_tuple T.z_range (xe_add (xe_lenT T.z_len (xe_var 1)) xe_int) (by simp [li]; omega)) (by
    have e : ((li g).length : Int) + 1 = ((g.length + 1 : Nat) : Int) := by simp [li]
    rw [e]
    rfl)) ?_ sc_House_init.nd
  refine xs_expr (xe_callD (ok_check_gaps T) ⟨g, hh.gaps⟩ (hr.mono (by decide)) T.g_check_gaps T.F_check_gaps.kp T.b_check_gaps (xa_1 (xe_var 1))) ?_
  refine xs_expr (xe_callD (ok_check_bells T) ⟨(bs, rgI 0 (g.length + 1)), hh.bells⟩ (hr.mono (by decide)) T.g_check_bells T.F_check_bells.kp T.b_check_bells (xa_cons (xe_var 2) (xa_1 (xe_var 3)))) ?_
  refine xs_fld (xe_var 0) (xe_tupT T.z_tuple (xe_var 1)) T.c_House T.a_House_gaps (by simp) rfl (fun _ _ _ _ => hZ) ?_
  refine xs_fld (xe_var 0) (xe_tupT T.z_tuple (xe_var 2)) T.c_House T.a_House_bells (by simp) rfl (fun _ _ _ _ => hZ) ?_
  refine xs_fld (xe_var 0) (xe_var 3) T.c_House T.a_House_floors (by simp) rfl (fun _ _ _ _ => hZ) ?_
  exact xs_nil fun σ H0 H l s b k => hQ _ _ s k
end
end K33
namespace K33
open PySem L2 Lh
inductive Row where
  | go (s : Int) | bell (r : Bool) | door | look (l : List Int) | gap
def Row.ds : Row → List PyData
  | .go s => [.str "go", .int s]
  | .bell r => [.str "bell", .bool r]
  | .door => [.str "door"]
  | .look l => [.str "look", .tuple (li l)]
  | .gap => [.str "gap"]
def Row.kind : Row → Str
  | .go _ => "go"
  | .bell _ => "bell"
  | .door => "door"
  | .look _ => "look"
  | .gap => "gap"
def Row.Ok (g : List Int) : Row → Prop
  | .go s => 1 ≤ s ∧ s ≤ 81
  | .look l => (∀ x ∈ l, 0 ≤ x ∧ x ≤ g.length) ∧ l.length ≤ 1000
  | _ => True
theorem Row.k0 (r : Row) : atI r.ds 0 = some (.str r.kind) := by cases r <;> rfl
theorem Row.is_go {r : Row} (h : r.kind = "go") : ∃ s, r = .go s := by
  cases r with
  | go s => exact ⟨s, rfl⟩
  | bell _ => exact absurd h (show ¬ (("bell" : Str) = "go") by decide +kernel)
  | door  => exact absurd h (show ¬ (("door" : Str) = "go") by decide +kernel)
  | look _ => exact absurd h (show ¬ (("look" : Str) = "go") by decide +kernel)
  | gap  => exact absurd h (show ¬ (("gap" : Str) = "go") by decide +kernel)
theorem Row.is_look {r : Row} (h : r.kind = "look") : ∃ l, r = .look l := by
  cases r with
  | go _ => exact absurd h (show ¬ (("go" : Str) = "look") by decide +kernel)
  | bell _ => exact absurd h (show ¬ (("bell" : Str) = "look") by decide +kernel)
  | door  => exact absurd h (show ¬ (("door" : Str) = "look") by decide +kernel)
  | look l => exact ⟨l, rfl⟩
  | gap  => exact absurd h (show ¬ (("gap" : Str) = "look") by decide +kernel)
theorem Row.is_bell {r : Row} (h : r.kind = "bell") : ∃ b, r = .bell b := by
  cases r with
  | go _ => exact absurd h (show ¬ (("go" : Str) = "bell") by decide +kernel)
  | bell b => exact ⟨b, rfl⟩
  | door  => exact absurd h (show ¬ (("door" : Str) = "bell") by decide +kernel)
  | look _ => exact absurd h (show ¬ (("look" : Str) = "bell") by decide +kernel)
  | gap  => exact absurd h (show ¬ (("gap" : Str) = "bell") by decide +kernel)
theorem Row.is_gap {r : Row} (h : r.kind = "gap") : r = .gap := by
  cases r with
  | go _ => exact absurd h (show ¬ (("go" : Str) = "gap") by decide +kernel)
  | bell _ => exact absurd h (show ¬ (("bell" : Str) = "gap") by decide +kernel)
  | door  => exact absurd h (show ¬ (("door" : Str) = "gap") by decide +kernel)
  | look _ => exact absurd h (show ¬ (("look" : Str) = "gap") by decide +kernel)
  | gap  => exact rfl
/-- the floors to which a row leads -/
def nextF (g b : List Int) : Row → Int → List Int
  | .go s, f => (rgI 0 (g.length + 1)).filter fun o => decide (far g f o = s)
  | .gap, _ => rgI 0 (g.length + 1)
  | .bell r, f => if decide (f ∈ b) = r then [f] else []
  | .look l, f => if f ∈ l then [f] else []
  | .door, f => [f]
theorem fl_in {g : List Int} {n : Int} (h : n ∈ rgI 0 (g.length + 1)) : 0 ≤ n ∧ n ≤ g.length := by
  have := mem_rgI.mp h
  omega
abbrev spIsRow (K : PySem.W.Frag) (C : Addr) : Sp := SpP (α := { p : (List Int × List Int) × Row // p.2.Ok p.1.1 ∧ p.1.1.length ≤ 9 }) (fun p => [PHo K C p.1.1.1 p.1.1.2, PD K (.tuple p.1.2.ds)]) (fun _ => PD K (.bool true))
section
variable {K : PySem.W.Frag} {mg : Str → Option Value} {base : Heap} {P : Program} {w : World}
theorem ok_is_row_of (T : Txt K mg) : FnOk P w K mg base CX0 3 T.f_is_row_of T.d_is_row_of ["house", "row"] (spIsRow K T.C_House) := by
  refine fn_F T.F_is_row_of sc_is_row_of (fun _ => rfl) fun ⟨⟨⟨g, b⟩, r⟩, hr0, hg9⟩ Z0 Z Q X qX hQ => ?_
  obtain ⟨cdv, A, outer, s, E, rfl, hr⟩ := qX
  obtain ⟨t1, v1⟩ := T.v_LONGEST_GO
  have hok : r.Ok g := hr0
  refine xs_if (xt_eqS (K := K) (xe_ixT (xe_var 1) xe_int r.k0) xe_str) (fun hb => ?_) fun _ => xs_then ?_
  · obtain ⟨s, rfl⟩ := Row.is_go (of_decide_eq_true hb.symm)
    refine xs_ret (YE.dat (xe_lele (K := K) xe_int (xe_ixT (xe_var 1) xe_int rfl) (xe_gint v1)) ?_) fun v H0 H s k hv => hQ v H0 H s k hv
    have h : 1 ≤ s ∧ s ≤ 81 := hok
    simp [h.1, h.2]
  refine xs_if (xt_eqS (K := K) (xe_ixT (xe_var 1) xe_int r.k0) xe_str) (fun hb => ?_) fun _ => xs_then ?_
  · obtain ⟨l, rfl⟩ := Row.is_look (of_decide_eq_true hb.symm)
    have h : (∀ x ∈ l, 0 ≤ x ∧ x ≤ g.length) ∧ l.length ≤ 1000 := hok
    refine xs_ret (YE.dat (xe_allL (bs := l.map fun n => decide (n ∈ rgI 0 (g.length + 1))) T.z_all (YE.dat (xe_mapI 2 (fun n => .bool (decide (n ∈ rgI 0 (g.length + 1)))) (xi_tup (xe_ixT (xe_var 1) xe_int rfl)) (fun n hn s0 H0 C cl fp => xe_inT (xe_var 2) (xe_prop (ok_House_floors T) (g, b) (xe_var 0) rfl T.c_House T.m_House_floors (hr.mono (by decide)) T.b_House_floors))
      sc_is_row_of.nd (blkOk_by (own := [("floor", 2)]) (N := n_is_row_of) (sc := defScope s_is_row_of) (by decide +kernel)) (by omega) cov0 (fun _ _ _ _ _ => pg_name (i := 2) sc_is_row_of.nd rfl (Or.inl rfl))) ?_)) ?_) fun v H0 H s k hv => hQ v H0 H s k hv
    · rw [List.map_map]
      rfl
    · have e : (l.map fun n => decide (n ∈ rgI 0 (g.length + 1))).all id = true := by
        rw [List.all_map, List.all_eq_true]
        intro x hx
        have := h.1 x hx
        exact decide_eq_true (mem_rgI.mpr (by omega))
      rw [e]
  exact xs_ret (xe_bl (K := K)) fun v H0 H s k hv => hQ v H0 H s k hv
abbrev logD (rows : List Row) : PyData := .list (rows.map fun r => .tuple r.ds)
abbrev spCheckLog (K : PySem.W.Frag) (C : Addr) : Sp := SpP (α := { p : (List Int × List Int) × List Row // (∀ r ∈ p.2, r.Ok p.1.1) ∧ p.1.1.length ≤ 9 }) (fun p => [PHo K C p.1.1.1 p.1.1.2, PD K (logD p.1.2)]) (fun _ => PD K .none)
theorem row_at {rows : List Row} {t : Nat} {d : PyData} (h : (rows.map fun r => PyData.tuple r.ds)[t]? = some d) : ∃ r, rows[t]? = some r ∧ d = .tuple r.ds := by
  rw [List.getElem?_map] at h
  cases e : rows[t]? with
  | none =>
    rw [e] at h
    cases h
  | some n =>
    rw [e] at h
    exact ⟨n, rfl, (Option.some.inj h).symm⟩
theorem ok_check_log (T : Txt K mg) : FnOk P w K mg base CX0 4 T.f_check_log T.d_check_log ["house", "log"] (spCheckLog K T.C_House) := by
  refine fn_F T.F_check_log sc_check_log (fun _ => rfl) fun ⟨⟨⟨g, b⟩, rows⟩, hok, h9⟩ Z0 Z Q X qX hQ => ?_
  obtain ⟨cdv, A, outer, s, E, rfl, hr⟩ := qX
  refine xs_forP 2 3 (xi_enum T.z_enumerate (xe_var 1)) (fun _ Γ1 Rs1 => Rs1 = [] ∧ ∃ x y, Γ1 = [some (PHo K T.C_House g b), some (PD K (logD rows)), x, y]) ⟨rfl, none, none, rfl⟩ ?_ ?_ sc_check_log.nd
  · rintro t Qt Γ1 Rs1 hq ⟨rfl, x, y, rfl⟩
    obtain ⟨d, hd, rfl⟩ := enum_at hq
    obtain ⟨r, hn, rfl⟩ := row_at hd
    refine ⟨_, _, rfl, fun Hs => ?_⟩
    refine xs_skip (YT.eq (xt_notB (xt_bool (xe_callD (ok_is_row_of T) ⟨((g, b), r), hok r (List.mem_of_getElem? hn), h9⟩ hr T.g_is_row_of T.F_is_row_of.kp T.b_is_row_of (xa_cons (xe_var 0) (xa_1 (xe_var 3)))))) rfl) (xs_turn (fun σ H h => h) ⟨rfl, _, _, rfl⟩)
  · rintro Γ1 Rs1 ⟨rfl, x, y, rfl⟩
    exact xs_nil fun σ H0 H l s b k => hQ _ _ _ s k rfl
abbrev spCheckHearing (K : PySem.W.Frag) (C : Addr) : Sp := SpP (α := { p : (List Int × List Int) × List Int × List Row // (∀ r ∈ p.2.2, r.Ok p.1.1) ∧ p.1.1.length ≤ 9 ∧ ∀ x ∈ p.2.1, 0 ≤ x ∧ x ≤ p.1.1.length }) (fun p => [PHo K C p.1.1.1 p.1.1.2, PD K (.tuple (li p.1.2.1)), PD K (logD p.1.2.2)]) (fun _ => PD K .none)
theorem ok_check_hearing (T : Txt K mg) : FnOk P w K mg base CX0 5 T.f_check_hearing T.d_check_hearing ["house", "start", "log"] (spCheckHearing K T.C_House) := by
  refine fn_F T.F_check_hearing sc_check_hearing (fun _ => rfl) fun ⟨⟨⟨g, b⟩, st, rows⟩, hok, h9, hst⟩ Z0 Z Q X qX hQ => ?_
  obtain ⟨cdv, A, outer, s, E, rfl, hr⟩ := qX
  refine xs_expr (xe_callD (ok_check_floors T) ⟨((g, b), st), hst⟩ (hr.mono (by decide)) T.g_check_floors T.F_check_floors.kp T.b_check_floors (xa_cons (xe_var 0) (xa_1 (xe_var 1)))) ?_
  refine xs_expr (xe_callD (ok_check_log T) ⟨((g, b), rows), hok, h9⟩ hr T.g_check_log T.F_check_log.kp T.b_check_log (xa_cons (xe_var 0) (xa_1 (xe_var 2)))) ?_
  exact xs_nil fun σ H0 H l s b k => hQ _ _ _ s k rfl
abbrev spNext (K : PySem.W.Frag) (C : Addr) : Sp := SpP (α := { p : (List Int × List Int) × Row × Int // (0 ≤ p.2.2 ∧ p.2.2 ≤ p.1.1.length) ∧ p.1.1.length ≤ 9 }) (fun p => [PHo K C p.1.1.1 p.1.1.2, PD K (.tuple p.1.2.1.ds), PD K (.int p.1.2.2)]) (fun p => PD K (.list (li (nextF p.1.1.1 p.1.1.2 p.1.2.1 p.1.2.2))))
theorem ok_next_floors (T : Txt K mg) : FnOk P w K mg base CX0 5 T.f_next_floors T.d_next_floors ["house", "row", "floor"] (spNext K T.C_House) := by
  refine fn_F T.F_next_floors sc_next_floors (fun _ => rfl) fun ⟨⟨⟨g, b⟩, r, f⟩, hf, h9⟩ Z0 Z Q X qX hQ => ?_
  obtain ⟨cdv, A, outer, s, E, rfl, hr⟩ := qX
  have hf' : 0 ≤ f ∧ f ≤ g.length := hf
  have h9' : g.length ≤ 9 := h9
  refine xs_asg 3 (xe_ixT (xe_var 1) xe_int r.k0) ?_ sc_next_floors.nd
  refine xs_if (xt_eqS (K := K) (xe_var 3) xe_str) (fun hb => ?_) fun hA => xs_then ?_
  · obtain ⟨s, rfl⟩ := Row.is_go (of_decide_eq_true hb.symm)
    refine xs_ret (xe_filtI 4 (fun n => .int n) (fun o => decide (far g f o = s)) (xi_tup (xe_prop (ok_House_floors T) (g, b) (xe_var 0) rfl T.c_House T.m_House_floors (hr.mono (by decide)) T.b_House_floors))
      (fun n hn s0 H0 C cl fp => by
        refine xt_eqI (K := K) (i := far g f n) (j := s) ?_ ?_
        · exact xe_meth (ok_House_seconds T) ⟨((g, b), f, n), hf', fl_in hn⟩ (xe_var 0) (xa_cons (xe_var 2) (xa_1 (xe_var 4))) rfl rfl T.c_House T.m_House_seconds hr T.b_House_seconds
        · exact xe_ixT (xe_var 1) xe_int rfl)
      (fun n hn _ s0 H0 C cl fp => xe_var 4) sc_next_floors.nd (blkOk_by (own := [("other", 4)]) (N := n_next_floors) (sc := defScope s_next_floors) (by decide +kernel)) (by simp only [rgI_len]; omega) cov0 (fun _ _ _ _ _ => pg_name (i := 4) sc_next_floors.nd rfl (Or.inl rfl))) fun v H0 H s k hv => hQ v H0 H s k hv
  refine xs_if (xt_eqS (K := K) (xe_var 3) xe_str) (fun hb => ?_) fun hB => xs_then ?_
  · obtain rfl := Row.is_gap (of_decide_eq_true hb.symm)
    exact xs_ret (xe_listT T.z_list (xe_prop (ok_House_floors T) (g, b) (xe_var 0) rfl T.c_House T.m_House_floors (hr.mono (by decide)) T.b_House_floors)) fun v H0 H s k hv => hQ v H0 H s k hv
  refine xs_if (B := Is (match r with | .bell u => !decide (decide (f ∈ b) = u) | _ => false)) ?_ (fun hb => ?_) fun hb1 => xs_then ?_
  · refine YT.eq (xt_andB (v := (match r with | .bell u => !decide (decide (f ∈ b) = u) | _ => false)) (xt_eqS (K := K) (xe_var 3) xe_str) fun hb => ?_) ?_
    · obtain ⟨u, rfl⟩ := Row.is_bell (of_decide_eq_true hb)
      exact xt_neB (K := K) (xe_inT (xe_var 2) (xe_prop (ok_House_bells T) (g, b) (xe_var 0) rfl T.c_House T.m_House_bells (hr.mono (by decide)) T.b_House_bells)) (xe_ixT (xe_var 1) xe_int rfl)
    · cases r <;> simp [Row.kind]
  · cases r with
    | bell u =>
      have e : (!decide (decide (f ∈ b) = u)) = true := hb.symm
      refine xs_ret (YE.dat (xe_lst (ds := []) xa_nil (by simp)) ?_) fun v H0 H s k hv => hQ v H0 H s k hv
      have e2 : ¬ (decide (f ∈ b) = u) := by simpa using e
      show PyData.list [] = .list (li (if decide (f ∈ b) = u then [f] else []))
      rw [if_neg e2]
      rfl
    | go _ => exact Bool.noConfusion (show true = false from hb)
    | look _ => exact Bool.noConfusion (show true = false from hb)
    | door => exact Bool.noConfusion (show true = false from hb)
    | gap => exact Bool.noConfusion (show true = false from hb)
  refine xs_if (B := Is (match r with | .look l => !decide (f ∈ l) | _ => false)) ?_ (fun hb => ?_) fun hb2 => xs_then ?_
  · refine YT.eq (xt_andB (v := (match r with | .look l => !decide (f ∈ l) | _ => false)) (xt_eqS (K := K) (xe_var 3) xe_str) fun hb => ?_) ?_
    · obtain ⟨l, rfl⟩ := Row.is_look (of_decide_eq_true hb)
      exact xt_niT (xe_var 2) (xe_ixT (xe_var 1) xe_int rfl)
    · cases r <;> simp [Row.kind]
  · cases r with
    | look l =>
      have e : (!decide (f ∈ l)) = true := hb.symm
      refine xs_ret (YE.dat (xe_lst (ds := []) xa_nil (by simp)) ?_) fun v H0 H s k hv => hQ v H0 H s k hv
      have e2 : ¬ f ∈ l := by simpa using e
      show PyData.list [] = .list (li (if f ∈ l then [f] else []))
      rw [if_neg e2]
      rfl
    | go _ => exact Bool.noConfusion (show true = false from hb)
    | bell _ => exact Bool.noConfusion (show true = false from hb)
    | door => exact Bool.noConfusion (show true = false from hb)
    | gap => exact Bool.noConfusion (show true = false from hb)
  refine xs_ret (YE.dat (xe_lst (ds := [.int f]) (xa_1 (xe_var 2)) (by simp)) ?_) fun v H0 H s k hv => hQ v H0 H s k hv
  show PyData.list (li [f]) = .list (li (nextF g b r f))
  cases r with
  | go _ => exact absurd hA (by
      show ¬ (false = decide (("go" : Str) = "go"))
      decide +kernel)
  | gap => exact absurd hB (by
      show ¬ (false = decide (("gap" : Str) = "gap"))
      decide +kernel)
  | door => rfl
  | bell u =>
    have e : false = (!decide (decide (f ∈ b) = u)) := hb1
    have e2 : decide (f ∈ b) = u := by simpa using e
    show _ = PyData.list (li (if decide (f ∈ b) = u then [f] else []))
    rw [if_pos e2]
  | look l =>
    have e : false = (!decide (f ∈ l)) := hb2
    have e2 : f ∈ l := by simpa using e
    show _ = PyData.list (li (if f ∈ l then [f] else []))
    rw [if_pos e2]
end
end K33
namespace Lh
open PySem L2
open Evl (Ex ex_l ex_t ex_rd fresh_back)
section
variable {M : Addr → Prop} {Γ Γ' : Ct} {Rs : List Res} {X : Cx} {Z0 Z Hl : Hp} {D : Ends} {K : PySem.W.Frag} {rest : List Stmt} {a b c o e : Expr} {pos p : Pos} {i j k : Int}
theorem enc_at {τ : Type} {enc : τ → PyData} {xs : List τ} {t : Nat} {d : PyData} (h : (xs.map enc)[t]? = some d) : ∃ x, xs[t]? = some x ∧ d = enc x := by
  rw [List.getElem?_map] at h
  cases e : xs[t]? with
  | none =>
    rw [e] at h
    cases h
  | some n =>
    rw [e] at h
    exact ⟨n, rfl, (Option.some.inj h).symm⟩
theorem xe_mapG {τ : Type} (enc : τ → PyData) (xs : List τ) (j : Nat) {x : Str} {elt iter : Expr} {scope : Scope} {pos xp : Pos} (f : τ → PyData) (hi : XI M Γ Rs X (.Name x xp) iter ((xs.map enc).map (PD X.K))) (ht : ∀ d, d ∈ xs → Blk X scope fun Y => XE M (blkG Γ j (PD X.K (enc d))) Rs Y elt (PD X.K (f d)))
    (hN : X.N.Nodup) (ok : BlkOk X.N X.env.scope scope [(x, j)]) (hz : xs.length ≤ 100000) (cv : Cov M Rs) (hg : BlkG X scope x xp j) (hc : X.calm = true := by rfl) (hs : ∀ x, foldedSetIterable iter X.env x = pure x := by intro _; rfl) :
    XE M Γ Rs X (.ListComp elt [⟨.Name x xp, iter, [], 0⟩] scope pos) (PD X.K (.list (xs.map f))) :=
  (xe_lc (K := X.K) j hi (fun i es => es = (xs.take i).map f) rfl (fun i Q hq => by
    obtain ⟨d', hd', e⟩ := map_at hq
    obtain ⟨d, hd, e2⟩ := enc_at hd'
    subst e e2
    intro s0 H0 C cl fp
    refine YE.imp (ht d (List.mem_of_getElem? hd) s0 H0 C cl fp) fun v H h => ⟨f d, fun es _ he => ?_, h⟩
    dsimp only at he ⊢
    rw [he, List.take_add_one, hd]
    simp) hN ok (by rw [List.length_map, List.length_map]; exact hz) cv hg hc hs).imp fun v H ⟨es, ⟨h1, _⟩, h2⟩ => by
    rw [List.length_map, List.length_map, List.take_length] at h1
    subst h1
    exact h2
theorem xe_filtG {τ : Type} (enc : τ → PyData) (xs : List τ) (j : Nat) {x : Str} {elt iter c : Expr} {scope : Scope} {pos xp : Pos} (f : τ → PyData) (t : τ → Bool) (hi : XI M Γ Rs X (.Name x xp) iter ((xs.map enc).map (PD X.K))) (hc' : ∀ d, d ∈ xs → Blk X scope fun Y => XT M (blkG Γ j (PD X.K (enc d))) Rs Y c (Is (t d)))
    (ht : ∀ d, d ∈ xs → t d = true → Blk X scope fun Y => XE M (blkG Γ j (PD X.K (enc d))) Rs Y elt (PD X.K (f d)))
    (hN : X.N.Nodup) (ok : BlkOk X.N X.env.scope scope [(x, j)]) (hz : xs.length ≤ 100000) (cv : Cov M Rs) (hg : BlkG X scope x xp j) (hc : X.calm = true := by rfl) (hs : ∀ x, foldedSetIterable iter X.env x = pure x := by intro _; rfl) :
    XE M Γ Rs X (.ListComp elt [⟨.Name x xp, iter, [c], 0⟩] scope pos) (PD X.K (.list ((xs.filter t).map f))) :=
  (xe_lcIf (K := X.K) j hi (fun i es => es = ((xs.take i).filter t).map f) rfl (fun i Q hq => by
    obtain ⟨d', hd', e⟩ := map_at hq
    obtain ⟨d, hd, e2⟩ := enc_at hd'
    subst e e2
    have hm := List.mem_of_getElem? hd
    refine ⟨Is (t d), hc' d hm, fun hb s0 H0 C cl fp => ?_, fun hb es he => ?_⟩
    · refine YE.imp (ht d hm hb.symm s0 H0 C cl fp) fun v H h => ⟨f d, fun es _ he => ?_, h⟩
      dsimp only at he ⊢
      rw [he, List.take_add_one, hd]
      simp [← hb]
    · dsimp only at he ⊢
      rw [he, List.take_add_one, hd]
      simp [← hb]) hN ok (by rw [List.length_map, List.length_map]; exact hz) cv hg hc hs).imp fun v H ⟨es, ⟨h1, _⟩, h2⟩ => by
    rw [List.length_map, List.length_map, List.take_length] at h1
    subst h1
    exact h2
/-- y = [f x for x in xs], a statement -/
theorem xs_mapG {τ : Type} (enc : τ → PyData) (xs : List τ) (i j : Nat) {x y : Str} {elt iter : Expr} {scope : Scope} {pos spos xp py : Pos} (f : τ → PyData) (hi : XI M Γ Rs X (.Name x xp) iter ((xs.map enc).map (PD X.K))) (ht : ∀ d, d ∈ xs → Blk X scope fun Y => XE M (blkG Γ j (PD X.K (enc d))) Rs Y elt (PD X.K (f d)))
    (k : XS M (Γ.set i (some (PD X.K (.list (xs.map f))))) Rs X Z0 Z Hl D rest) (hN : X.N.Nodup) (ok : BlkOk X.N X.env.scope scope [(x, j)]) (hz : xs.length ≤ 100000) (cv : Cov M Rs) (hg : BlkG X scope x xp j)
    (hsw : swapsWith (.ListComp elt [⟨.Name x xp, iter, [], 0⟩] scope pos) (some (.Name y py)) spos.line X.env = pure true) (hy : X.N[i]? = some y := by rfl) (hyl : X.env.scope.names.lookup y = some .local := by rfl) (hc : X.calm = true := by rfl) (hs : ∀ x, foldedSetIterable iter X.env x = pure x := by intro _; rfl) :
    XS M Γ Rs X Z0 Z Hl D (.Assign [.Name y py] (.ListComp elt [⟨.Name x xp, iter, [], 0⟩] scope pos) spos :: rest) :=
  xs_lc (K := X.K) i j hi (fun i es => es = (xs.take i).map f) rfl (fun i Q hq => by
    obtain ⟨d', hd', e⟩ := map_at hq
    obtain ⟨d, hd, e2⟩ := enc_at hd'
    subst e e2
    intro s0 H0 C cl fp
    refine YE.imp (ht d (List.mem_of_getElem? hd) s0 H0 C cl fp) fun v H h => ⟨f d, fun es _ he => ?_, h⟩
    dsimp only at he ⊢
    rw [he, List.take_add_one, hd]
    simp) (fun ds ⟨h1, _⟩ => by
    rw [List.length_map, List.length_map, List.take_length] at h1
    subst h1
    exact k) hN ok (by rw [List.length_map, List.length_map]; exact hz) cv hg hsw hy hyl hc hs
theorem xs_filtG {τ : Type} (enc : τ → PyData) (xs : List τ) (i j : Nat) {x y : Str} {elt iter c : Expr} {scope : Scope} {pos spos xp py : Pos} (f : τ → PyData) (t : τ → Bool) (hi : XI M Γ Rs X (.Name x xp) iter ((xs.map enc).map (PD X.K))) (hc' : ∀ d, d ∈ xs → Blk X scope fun Y => XT M (blkG Γ j (PD X.K (enc d))) Rs Y c (Is (t d)))
    (ht : ∀ d, d ∈ xs → t d = true → Blk X scope fun Y => XE M (blkG Γ j (PD X.K (enc d))) Rs Y elt (PD X.K (f d))) (k : XS M (Γ.set i (some (PD X.K (.list ((xs.filter t).map f))))) Rs X Z0 Z Hl D rest) (hN : X.N.Nodup) (ok : BlkOk X.N X.env.scope scope [(x, j)]) (hz : xs.length ≤ 100000) (cv : Cov M Rs) (hg : BlkG X scope x xp j)
    (hsw : swapsWith (.ListComp elt [⟨.Name x xp, iter, [c], 0⟩] scope pos) (some (.Name y py)) spos.line X.env = pure true) (hy : X.N[i]? = some y := by rfl) (hyl : X.env.scope.names.lookup y = some .local := by rfl) (hc : X.calm = true := by rfl) (hs : ∀ x, foldedSetIterable iter X.env x = pure x := by intro _; rfl) :
    XS M Γ Rs X Z0 Z Hl D (.Assign [.Name y py] (.ListComp elt [⟨.Name x xp, iter, [c], 0⟩] scope pos) spos :: rest) :=
  xs_lcIf (K := X.K) i j hi (fun i es => es = ((xs.take i).filter t).map f) rfl (fun i Q hq => by
    obtain ⟨d', hd', e⟩ := map_at hq
    obtain ⟨d, hd, e2⟩ := enc_at hd'
    subst e e2
    have hm := List.mem_of_getElem? hd
    refine ⟨Is (t d), hc' d hm, fun hb s0 H0 C cl fp => ?_, fun hb es he => ?_⟩
    · refine YE.imp (ht d hm hb.symm s0 H0 C cl fp) fun v H h => ⟨f d, fun es _ he => ?_, h⟩
      dsimp only at he ⊢
      rw [he, List.take_add_one, hd]
      simp [← hb]
    · dsimp only at he ⊢
      rw [he, List.take_add_one, hd]
      simp [← hb]) (fun ds ⟨h1, _⟩ => by
    rw [List.length_map, List.length_map, List.take_length] at h1
    subst h1
    exact k) hN ok (by rw [List.length_map, List.length_map]; exact hz) cv hg hsw hy hyl hc hs

/-! ### a list at hand is read -/
theorem xe_ixM {q : Addr} {Ps : List Pd} {P : Pd} (ha : XE M Γ (Res.lst Z q Ps :: Rs) X a (PV (.ref q))) (hb : XE M Γ (Res.lst Z q Ps :: Rs) X b (PD X.K (.int i))) (h : atI Ps i = some P) (hs : PlainIx b := by exact fun _ _ => rfl) : XE M Γ (Res.lst Z q Ps :: Rs) X (.Subscript a b pos) P :=
  YE.wp (pe_ix ix_list pe_wp pe_wp hs) (ye_op ha hb fun x y H0 H hx hy e r => by
    obtain ⟨_, _, xs, hq, hd⟩ := r.2 _ List.mem_cons_self
    unfold atI at h
    cases e1 : ixN Ps.length i with
    | none =>
      rw [e1] at h
      cases h
    | some t =>
      rw [e1] at h
      obtain ⟨v, h1, h2⟩ := hd.2 t P h
      refine Yld.val (z := v) e h2 fun Q k => ⟨q, xs, i, v, hx, hy, SqL.of hq, ?_, k⟩
      unfold atI
      rw [hd.1, e1]
      exact h1)
theorem xe_lenM {q : Addr} {Ps : List Pd} (hm : X.mg "len" = none) (ha : XE M Γ (Res.lst Z q Ps :: Rs) X a (PV (.ref q))) (hg : Gl X "len" := by rfl) (he : starEach [a] X.env = (false, eval a X.env) :: starEach [] X.env := by rfl) : XE M Γ (Res.lst Z q Ps :: Rs) X (.Call (.Name "len" p) [a] [] pos) (PD X.K (.int (Ps.length : Int))) :=
  xe_callB call_len_seq hm PySem.boot_len (xa_1 ha he) (fun xs H0 H hx e r => by
    obtain ⟨x, e1, h1⟩ := da1 hx
    obtain ⟨_, _, ys, hq, hd⟩ := r.2 _ List.mem_cons_self
    have h1' : x = .ref q := h1
    subst e1 h1'
    exact Yld.val (z := .int (ys.length : Int)) e (by rw [hd.1]; rfl) fun Q k => ⟨q, ys, rfl, .inl (SqL.of hq), k⟩) hg (by decide) (by decide) he rfl
/-- a list or a tuple -/
def PSeq (K : PySem.W.Frag) (ds : List PyData) : Pd := ⟨fun v H => Dd K H (.list ds) v ∨ Dd K H (.tuple ds) v, fun e h => h.imp (Dd.ex e _ _) (Dd.ex e _ _)⟩
theorem xe_ixS {ds : List PyData} {d : PyData} (ha : XE M Γ Rs X a (PSeq X.K ds)) (hb : XE M Γ Rs X b (PD X.K (.int i))) (h : atI ds i = some d) (hs : PlainIx b := by exact fun _ _ => rfl) : XE M Γ Rs X (.Subscript a b pos) (PD X.K d) :=
  YE.wp (pe_ix ix_seq pe_wp pe_wp hs) (ye_op ha hb fun x y H0 H hx hy e _ => by
    rcases hx with hx | hx
    · exact fun Q q => .inl (yl_ixL h hx hy e Q q)
    · exact fun Q q => .inr (.inl (yl_ixT h hx hy e Q q)))

/-! ### more statements -/
/-- x, y = e -/
theorem xs_unp (i j : Nat) {x y : Str} {e : Expr} {P Q : Pd} {px py pt : Pos} {kt : Nat} {pos : Pos} (he : XE M Γ Rs X e (PT2 X.K P Q)) (h : XS M ((Γ.set i (some P)).set j (some Q)) Rs X Z0 Z Hl D rest) (hN : X.N.Nodup) (hc : X.calm = true := by rfl) (hx : X.N[i]? = some x := by rfl) (hy : X.N[j]? = some y := by rfl)
    (hl : Loc X.env.scope x := by first | exact Or.inl rfl | exact Or.inr rfl) (hl2 : Loc X.env.scope y := by first | exact Or.inl rfl | exact Or.inr rfl)
    (hf : X.fn x = true ∨ X.env.scope.names.lookup x = some .local := by first | exact .inl rfl | exact .inr rfl) (hf2 : X.fn y = true ∨ X.env.scope.names.lookup y = some .local := by first | exact .inl rfl | exact .inr rfl)
    (hs : swapsWithSole [.Tuple [.Name x px, .Name y py] kt pt] e pos.line X.env = pure false := by rfl) (hw : swappedStores [.Tuple [.Name x px, .Name y py] kt pt] e X.env = pure none := by rfl)
    (h1 : (assignEach [.Tuple [.Name x px, .Name y py] kt pt] X.env).map (·.2) = [assign (.Tuple [.Name x px, .Name y py] kt pt) X.env] := by rfl) : XS M Γ Rs X Z0 Z Hl D (.Assign [.Tuple [.Name x px, .Name y py] kt pt] e pos :: rest) :=
  xs_cons (ps_asg pe_wp (pg_tup hc (pgs_cons (pg_name hN hx hl hf) (pgs_cons (pg_name hN hy hl2 hf2) pgs_nil))) hs hw h1) fun σ H0 H l s b r => he σ H0 H l s.le r _ fun v H1 G1 s1 k1 hv =>
    gv_pair v σ H1 G1 (l.ex s1.ex) s1.le hv _ fun σ' l' => h σ' H1 G1 l' (s.trans s1) (b.trans s1.ex) k1
theorem pt2_of {d1 d2 : PyData} {v : V} {H : Hp} (h : (PD K (.tuple [d1, d2])).p v H) : (PT2 K (PD K d1) (PD K d2)).p v H := by
  obtain ⟨a, xs, e, h1, x, r, e1, h2, y, r', e2, h3, e3⟩ := h
  have e3' : r' = [] := e3
  subst e1 e2 e3'
  exact ⟨a, x, y, e, h1, h2, h3⟩
theorem xe_pt2 {d1 d2 : PyData} (h : XE M Γ Rs X a (PD X.K (.tuple [d1, d2]))) : XE M Γ Rs X a (PT2 X.K (PD X.K d1) (PD X.K d2)) := h.imp fun v H p => pt2_of p
/-- x += e, x -= e, ints -/
theorem xs_augI (n : Nat) {x : Str} {e : Expr} {op : Operator} {f : Int → Int → Int} {pos pos' : Pos} (ho : PIp X op (rI0 fun i j => .int (f i j))) (hx : Γ[n]? = some (some (PD X.K (.int i)))) (he : XE M Γ Rs X e (PD X.K (.int j))) (h : XS M (Γ.set n (some (PD X.K (.int (f i j))))) Rs X Z0 Z Hl D rest) (hN : X.N.Nodup)
    (hi : X.N[n]? = some x := by rfl) (hl : Loc X.env.scope x := by first | exact Or.inl rfl | exact Or.inr rfl) (hf : X.fn x = true ∨ X.env.scope.names.lookup x = some .local := by first | exact .inl rfl | exact .inr rfl) : XS M Γ Rs X Z0 Z Hl D (.AugAssign (.Name x pos') op e pos :: rest) :=
  xs_cons (ps_aug hN hi hl pe_wp ho hf) fun σ H0 H l s b r => by
    obtain ⟨v, h1, h2⟩ := l.2 n _ hx
    have h2' : v = .int i := h2
    subst h2'
    refine ⟨_, h1, he σ H0 H l s.le r _ fun y H1 G1 s1 k1 hy => ?_⟩
    have hy' : y = .int j := hy
    subst hy'
    exact ⟨i, j, rfl, rfl, h _ H1 G1 ((l.ex s1.ex).set rfl) (s.trans s1) (b.trans s1.ex) k1⟩
theorem xs_addI (n : Nat) {x : Str} {e : Expr} {pos pos' : Pos} (hx : Γ[n]? = some (some (PD X.K (.int i)))) (he : XE M Γ Rs X e (PD X.K (.int j))) (h : XS M (Γ.set n (some (PD X.K (.int (i + j))))) Rs X Z0 Z Hl D rest) (hN : X.N.Nodup)
    (hi : X.N[n]? = some x := by rfl) (hl : Loc X.env.scope x := by first | exact Or.inl rfl | exact Or.inr rfl) (hf : X.fn x = true ∨ X.env.scope.names.lookup x = some .local := by first | exact .inl rfl | exact .inr rfl) : XS M Γ Rs X Z0 Z Hl D (.AugAssign (.Name x pos') .Add e pos :: rest) := xs_augI n (f := fun i j => i + j) iop_add hx he h hN hi hl hf
theorem xs_subI (n : Nat) {x : Str} {e : Expr} {pos pos' : Pos} (hx : Γ[n]? = some (some (PD X.K (.int i)))) (he : XE M Γ Rs X e (PD X.K (.int j))) (h : XS M (Γ.set n (some (PD X.K (.int (i - j))))) Rs X Z0 Z Hl D rest) (hN : X.N.Nodup)
    (hi : X.N[n]? = some x := by rfl) (hl : Loc X.env.scope x := by first | exact Or.inl rfl | exact Or.inr rfl) (hf : X.fn x = true ∨ X.env.scope.names.lookup x = some .local := by first | exact .inl rfl | exact .inr rfl) : XS M Γ Rs X Z0 Z Hl D (.AugAssign (.Name x pos') .Sub e pos :: rest) := xs_augI n (f := fun i j => i - j) iop_sub hx he h hN hi hl hf
end
end Lh
namespace Lh
open PySem L2
open Evl (Ex ex_l ex_t ex_rd fresh_back)
section
variable {M : Addr → Prop} {Γ Γ' : Ct} {Rs : List Res} {X : Cx} {Z0 Z Hl : Hp} {D : Ends} {K : PySem.W.Frag} {rest : List Stmt} {a b c o e : Expr} {pos p : Pos} {i j k : Int}
theorem xs_frzK (i : Nat) {q : Addr} {ds : List PyData} {Ps : List Pd} (eP : Ps = ds.map (PD X.K)) (hi : Γ[i]? = some (some (PV (.ref q)))) (h : XS M (Γ.set i (some (PD X.K (.list ds)))) Rs X Z0 Z Hl D rest) : XS M Γ (Res.lst Z q Ps :: Rs) X Z0 Z Hl D rest := by
  subst eP
  exact xs_frz i hi h
end
end Lh
namespace K33
open PySem L2 Lh
abbrev eL (es : List Int) : PyData := .list (li es)
abbrev eLL (l : List (List Int)) : PyData := .list (l.map eL)
abbrev eLLL (l : List (List (List Int))) : PyData := .list (l.map eLL)
def gtI (v : List Int) (i : Int) : Int := v.getD i.toNat 0
theorem atI_ints {v : List Int} {i : Int} (h0 : 0 ≤ i) (h1 : i < v.length) : atI (li v) i = some (.int (gtI v i)) := by
  have hlt : i.toNat < v.length := by omega
  have e : i = (i.toNat : Int) := by omega
  have q : (li v)[i.toNat]? = some (.int (gtI v i)) := by simp [li, gtI, hlt]
  have r := atI_nat q
  rw [← e] at r
  exact r
def sumAt (v fl : List Int) : Int := (fl.map fun f => gtI v f).sum
def linksM (g b : List Int) (rows : List Row) : List (List (List Int)) := rows.map fun r => (rgI 0 (g.length + 1)).map fun f => nextF g b r f
def stepM (l : List (List Int)) (beh : List Int) : List Int := l.map fun es => sumAt beh es
def numsM (n : Nat) : List (List (List Int)) → List (List Int)
  | [] => [List.replicate n 1]
  | l :: ls => stepM l ((numsM n ls).headD []) :: numsM n ls
theorem numsM_cons (n : Nat) (ls : List (List (List Int))) : ∃ r, numsM n ls = (numsM n ls).headD [] :: r := by
  cases ls with
  | nil => exact ⟨[], rfl⟩
  | cons l ls => exact ⟨_, rfl⟩
theorem numsM_len (n : Nat) : ∀ ls, (numsM n ls).length = ls.length + 1
  | [] => rfl
  | l :: ls => by
    show (numsM n ls).length + 1 = _
    rw [numsM_len n ls]
    rfl
structure LinksOk (n : Nat) (ls : List (List (List Int))) : Prop where
  size : ls.length ≤ 1000
  wide : ∀ l ∈ ls, l.length = n
  ends : ∀ l ∈ ls, ∀ es ∈ l, es.length ≤ n ∧ ∀ e ∈ es, 0 ≤ e ∧ e < (n : Int)
theorem numsM_wide {n : Nat} : ∀ {ls : List (List (List Int))}, (∀ l ∈ ls, l.length = n) → ∀ v ∈ numsM n ls, v.length = n
  | [], _, v, hv => by
    have e : v = List.replicate n 1 := by simpa [numsM] using hv
    rw [e, List.length_replicate]
  | l :: ls, h, v, hv => by
    rcases List.mem_cons.mp hv with e | hv
    · rw [e]
      show (l.map _).length = n
      rw [List.length_map]
      exact h l List.mem_cons_self
    · exact numsM_wide (fun l hl => h l (List.mem_cons_of_mem _ hl)) v hv
theorem head_wide {n : Nat} {ls : List (List (List Int))} (h : ∀ l ∈ ls, l.length = n) : ((numsM n ls).headD []).length = n := by
  obtain ⟨r, e⟩ := numsM_cons n ls
  exact numsM_wide h _ (by rw [e]; exact List.mem_cons_self)
theorem rep_one {α : Type} (a : α) : ∀ n : Nat, (List.replicate n [a]).flatten = List.replicate n a
  | 0 => rfl
  | n + 1 => by
    rw [List.replicate_succ, List.flatten_cons, rep_one a n]
    rfl
theorem nextF_in {g b : List Int} {r : Row} {f e : Int} (hf : 0 ≤ f ∧ f ≤ g.length) (h : e ∈ nextF g b r f) : 0 ≤ e ∧ e ≤ g.length := by
  cases r with
  | go s =>
    have := (List.mem_filter.mp h).1
    exact fl_in this
  | gap => exact fl_in h
  | door =>
    have e2 : e = f := by simpa [nextF] using h
    subst e2
    exact hf
  | bell u =>
    have h' : e ∈ (if decide (f ∈ b) = u then [f] else []) := h
    split at h'
    · have e2 : e = f := by simpa using h'
      subst e2
      exact hf
    · cases h'
  | look l =>
    have h' : e ∈ (if f ∈ l then [f] else []) := h
    split at h'
    · have e2 : e = f := by simpa using h'
      subst e2
      exact hf
    · cases h'
theorem nextF_len {g b : List Int} {r : Row} {f : Int} : (nextF g b r f).length ≤ g.length + 1 := by
  cases r with
  | go s => exact Nat.le_trans (List.length_filter_le _ _) (by rw [rgI_len]; exact Nat.le_refl _)
  | gap => exact Nat.le_of_eq rgI_len
  | door => simp [nextF]
  | bell u =>
    show (if decide (f ∈ b) = u then [f] else []).length ≤ _
    split <;> simp
  | look l =>
    show (if f ∈ l then [f] else []).length ≤ _
    split <;> simp
theorem linksM_ok {g b : List Int} {rows : List Row} (h : rows.length ≤ 1000) : LinksOk (g.length + 1) (linksM g b rows) where
  size := by
    unfold linksM
    rw [List.length_map]
    exact h
  wide := fun l hl => by
    obtain ⟨r, _, rfl⟩ := List.mem_map.mp hl
    rw [List.length_map, rgI_len]
  ends := fun l hl es he => by
    obtain ⟨r, _, rfl⟩ := List.mem_map.mp hl
    obtain ⟨f, hf, rfl⟩ := List.mem_map.mp he
    refine ⟨nextF_len, fun e h => ?_⟩
    have := nextF_in (fl_in hf) h
    omega
section
variable {K : PySem.W.Frag} {mg : Str → Option Value} {base : Heap} {P : Program} {w : World}
abbrev spLinks (K : PySem.W.Frag) (C : Addr) : Sp := SpP (α := { p : (List Int × List Int) × List Row // p.1.1.length ≤ 9 ∧ p.2.length ≤ 1000 }) (fun p => [PHo K C p.1.1.1 p.1.1.2, PD K (logD p.1.2)]) (fun p => PD K (eLLL (linksM p.1.1.1 p.1.1.2 p.1.2)))
theorem ok_links_of (T : Txt K mg) : FnOk P w K mg base CX0 6 T.f_links_of T.d_links_of ["house", "log"] (spLinks K T.C_House) := by
  refine fn_F T.F_links_of sc_links_of (fun _ => rfl) fun ⟨⟨⟨g, b⟩, rows⟩, h9, hlen⟩ Z0 Z Q X qX hQ => ?_
  obtain ⟨cdv, A, outer, s, E, rfl, hr⟩ := qX
  have h9' : g.length ≤ 9 := h9
  have hlen' : rows.length ≤ 1000 := hlen
  refine xs_ret (YE.dat (xe_mapG (fun r : Row => PyData.tuple r.ds) rows 3 (fun r => eLL ((rgI 0 (g.length + 1)).map fun f => nextF g b r f)) (xi_list (xe_var 1)) (fun r hr' s0 H0 C cl fp => by
      refine YE.dat (xe_mapI 2 (fun f => eL (nextF g b r f)) (xi_tup (xe_prop (ok_House_floors T) (g, b) (xe_var 0) rfl T.c_House T.m_House_floors (hr.mono (by decide)) T.b_House_floors)) (fun n hn s1 H1 C1 cl1 fp1 => by
          exact xe_callD (ok_next_floors T) ⟨((g, b), r, n), fl_in hn, h9⟩ hr T.g_next_floors T.F_next_floors.kp T.b_next_floors (xa_cons (xe_var 0) (xa_cons (xe_var 3) (xa_1 (xe_var 2))))) sc_links_of.nd
        (blkOk_by rfl) (by simp only [rgI_len]; omega) cov0 (fun _ _ _ _ _ => pg_name (i := 2) sc_links_of.nd rfl (Or.inl rfl))) ?_
      show PyData.list _ = PyData.list _
      rw [List.map_map]
      rfl) sc_links_of.nd (blkOk_by rfl) (by omega) cov0 (fun _ _ _ _ _ => pg_name (i := 3) sc_links_of.nd rfl (Or.inr rfl))) ?_) fun v H0 H s k hv => hQ v H0 H s k hv
  show PyData.list _ = PyData.list _
  rw [show linksM g b rows = rows.map fun r => (rgI 0 (g.length + 1)).map fun f => nextF g b r f from rfl, List.map_map]
  rfl
abbrev spNums (K : PySem.W.Frag) (C : Addr) : Sp := SpP (α := { p : (List Int × List Int) × List (List (List Int)) // p.1.1.length ≤ 9 ∧ LinksOk (p.1.1.length + 1) p.2 }) (fun p => [PHo K C p.1.1.1 p.1.1.2, PD K (eLLL p.1.2)]) (fun p => PD K (eLL (numsM (p.1.1.1.length + 1) p.1.2)))
theorem ok_numbers_ahead (T : Txt K mg) : FnOk P w K mg base CX0 3 T.f_numbers_ahead T.d_numbers_ahead ["house", "links"] (spNums K T.C_House) := by
  refine fn_F T.F_numbers_ahead sc_numbers_ahead (fun _ => rfl) fun ⟨⟨⟨g, b⟩, ls⟩, h9, hok⟩ Z0 Z Q X qX hQ => ?_
  obtain ⟨cdv, A, outer, s, E, rfl, hr⟩ := qX
  have h9' : g.length ≤ 9 := h9
  have hok' : LinksOk (g.length + 1) ls := hok
  have hsz := hok'.size
  refine xs_newL 2 (ds := [eL (List.replicate (g.length + 1) 1)]) (xa_1 (YE.dat (xe_repL (k := ((g.length : Int) + 1)) (xe_lst (ds := [.int 1]) (xa_1 xe_int) (by simp)) (xe_lenO (ok_House_len T) (g, b) T.z_len (xe_var 0) rfl rfl (by omega) T.m_House_len.at_ T.m_House_len.fn (hr.mono (by decide)) T.b_House_len) (by omega) (by simp; omega)) ?_)) (by simp) (fun q => ?_) cov0 sc_numbers_ahead.nd
  · have e : ((g.length : Int) + 1).toNat = g.length + 1 := by omega
    rw [e, rep_one]
    simp [li]
  refine xs_forN 3 (xi_rev T.z_reversed (xe_var 1)) (fun t Γ1 Rs1 => (∃ x1 x2, Γ1 = [some (PHo K T.C_House g b), some (PD K (eLLL ls)), some (PV (.ref q)), x1, x2, none, none]) ∧ Rs1 = [Res.lst Z q (((numsM (g.length + 1) (ls.drop (ls.length - t))).reverse.map eL).map (PD K))]) ⟨⟨none, none, rfl⟩, ?_⟩ ?_ ?_ sc_numbers_ahead.nd
  · rw [Nat.sub_zero, List.drop_length]
    rfl
  · rintro t Qt Γ1 Rs1 hq ⟨⟨x1, x2, rfl⟩, rfl⟩ Hs
    obtain ⟨d, hd, rfl⟩ := map_at hq
    have hlt : t < ls.length := by
      have := (List.getElem?_eq_some_iff.mp hd).1
      simpa using this
    have hpos : ls.length - 1 - t < ls.length := by omega
    have hd2 : d = eLL (ls[ls.length - 1 - t]) := by
      rw [← List.map_reverse] at hd
      obtain ⟨l, hl, rfl⟩ := enc_at hd
      rw [List.getElem?_reverse hlt, List.getElem?_eq_getElem hpos] at hl
      rw [Option.some.inj hl]
    subst hd2
    have hmem : ls[ls.length - 1 - t] ∈ ls := List.getElem_mem _
    generalize hl : ls[ls.length - 1 - t] = l at hmem
    have hdrop : ls.drop (ls.length - (t + 1)) = l :: ls.drop (ls.length - t) := by
      have e1 : ls.length - (t + 1) = ls.length - 1 - t := by omega
      have e2 : ls.length - t = ls.length - 1 - t + 1 := by omega
      rw [e1, e2, List.drop_eq_getElem_cons hpos, hl]
    generalize hsuf : ls.drop (ls.length - t) = suf at hdrop
    have hsufw : ∀ l ∈ suf, l.length = g.length + 1 := fun l hl => hok'.wide l (List.mem_of_mem_drop (hsuf ▸ hl))
    obtain ⟨r, hr2⟩ := numsM_cons (g.length + 1) suf
    have hw := head_wide hsufw
    generalize hbeh : (numsM (g.length + 1) suf).headD [] = beh at hr2 hw
    have hends := hok'.ends l hmem
    have hwid := hok'.wide l hmem
    refine xs_asg 4 (xe_ixM (q := q) (P := PD K (eL beh)) (xe_var 2) (xe_neg xe_int) ?_) ?_ sc_numbers_ahead.nd
    · rw [hr2, List.reverse_cons, List.map_append, List.map_append]
      exact atI_last _ _
    refine xs_app (q := q) (P := PD K (eL (stepM l beh))) (xe_var 2) (YE.dat (xe_mapG eL l 6 (fun es => .int (sumAt beh es)) (xi_list (xe_var 3)) (fun es hes s0 H0 C cl fp => by
        refine xe_sumL T.z_sum (YE.dat (xe_mapI 5 (fun e => .int (gtI beh e)) (xi_list (xe_var 6)) (fun e he s1 H1 C1 cl1 fp1 => by
            refine xe_ixL (xe_var 4) (xe_var 5) (atI_ints ?_ ?_)
            · exact ((hends es hes).2 e he).1
            · have := ((hends es hes).2 e he).2
              omega) sc_numbers_ahead.nd (blkOk_by rfl) (by have := (hends es hes).1; omega) cov0 (fun _ _ _ _ _ => pg_name (i := 5) sc_numbers_ahead.nd rfl (Or.inl rfl))) ?_)
        unfold li
        rw [List.map_map]
        rfl) sc_numbers_ahead.nd (blkOk_by rfl) (by omega) cov0 (fun _ _ _ _ _ => pg_name (i := 6) sc_numbers_ahead.nd rfl (Or.inl rfl))) ?_) ?_ ?_ (pe_bm PySem.F.plainAttrs_list PySem.F.slot_list_append PySem.F.type_list_append mt_append pe_wp (pa_cons pe_wp pa_nil))
    · show PyData.list _ = PyData.list _
      unfold stepM li
      rw [List.map_map]
      rfl
    · rw [List.length_map, List.length_map, List.length_reverse, numsM_len]
      have : suf.length ≤ 1000 := by
        rw [← hsuf, List.length_drop]
        omega
      omega
    · refine xs_turn (fun σ H h => h) ⟨⟨_, _, rfl⟩, ?_⟩
      have e : numsM (g.length + 1) (l :: suf) = stepM l beh :: numsM (g.length + 1) suf := by
        show stepM l ((numsM (g.length + 1) suf).headD []) :: _ = _
        rw [hbeh]
      rw [hdrop, e, List.reverse_cons, List.map_append, List.map_append]
      rfl
  · rintro Γ1 Rs1 ⟨⟨x1, x2, rfl⟩, rfl⟩
    refine xs_frzK 2 rfl rfl ?_
    refine xs_ret (YE.dat (xe_revL (xe_var 2)) ?_) fun v H0 H s k hv => hQ v H0 H s k hv
    rw [← List.map_reverse, List.reverse_reverse]
    simp
end
end K33
namespace Lh
open PySem L2
open Evl (Ex ex_l ex_t ex_rd fresh_back)
/-- the box of what is still to be drawn: a list of a list of ints and an int -/
def Res.boxC (b l : Addr) (ns : List Int) (z : Int) : Res where
  ad := [b, l]
  p := fun H0 H => H0 b = none ∧ H0 l = none ∧ H b = some (.lst [.ref l, .int z]) ∧ H l = some (.lst (ns.map V.int))
  st := fun {H0 H H0' H'} e n q ⟨_, _, h2, h3⟩ => ⟨n b (by simp), n l (by simp), by rw [q b (by simp)]; exact h2, by rw [q l (by simp)]; exact h3⟩
  tr := fun {H0 H} ⟨h0, h1, h2, h3⟩ a ha => by
    obtain e | ha := List.mem_cons.mp ha
    · subst e
      exact ⟨⟨_, h2⟩, h0⟩
    · have e : a = l := by simpa using ha
      subst e
      exact ⟨⟨_, h3⟩, h1⟩
def Res.box (b l : Addr) : Res where
  ad := [b, l]
  p := fun H0 H => ∃ ns z, (Res.boxC b l ns z).p H0 H
  st := fun {H0 H H0' H'} e n q ⟨ns, z, h⟩ => ⟨ns, z, (Res.boxC b l ns z).st e n q h⟩
  tr := fun {H0 H} ⟨ns, z, h⟩ a ha => (Res.boxC b l ns z).tr h a ha
def MB (b l : Addr) : Addr → Prop := fun a => a = b ∨ a = l
section
variable {M M' : Addr → Prop} {Γ Γ' : Ct} {Rs : List Res} {X : Cx} {Z0 Z Hl : Hp} {D : Ends} {K : PySem.W.Frag} {rest : List Stmt} {a o e : Expr} {pos p : Pos} {i j k : Int} {b l : Addr} {ns ns' : List Int} {z z' : Int}
theorem cov_box : Cov (MB b l) (Res.box b l :: Rs) := fun H0 H k a ha => by
  obtain ⟨ns, z, _, _, h2, h3⟩ := k.2 _ List.mem_cons_self
  rcases ha with e | e
  · subst e
    exact ⟨_, h2⟩
  · subst e
    exact ⟨_, h3⟩
theorem xs_weak (i : ∀ a, M a → M' a) (h : XS M' Γ Rs X Z0 Z Hl D rest) : XS M Γ Rs X Z0 Z Hl D rest := fun σ H0 H l s b k => h σ H0 H l (s.imp i) b k
theorem box_ne {H0 H : Hp} (k : Rok (Res.boxC b l ns z :: Rs) H0 H) : b ≠ l := fun e => by
  have nd := k.1
  rw [List.flatMap_cons, List.nodup_append] at nd
  have := nd.1
  simp [Res.boxC, e] at this
theorem box_wr {H0 H H' : Hp} (k : Rok (Res.boxC b l ns z :: Rs) H0 H) (s : Step M Z0 Z H0 H) (hb : H' b = some (.lst [.ref l, .int z'])) (hl : H' l = some (.lst (ns'.map V.int))) (ho : ∀ a, a ≠ b → a ≠ l → H' a = H a) (mb : M b ∨ Z b = none) (ml : M l ∨ Z l = none) :
    Rok (Res.boxC b l ns' z' :: Rs) H0 H' ∧ Step M Z0 Z H0 H' := by
  obtain ⟨h0, h1, h2, h3⟩ := k.2 _ List.mem_cons_self
  have nd := k.1
  rw [List.flatMap_cons, List.nodup_append] at nd
  have ne : ∀ r ∈ Rs, ∀ a ∈ r.ad, ∀ c ∈ [b, l], a ≠ c := fun r hr a ha c hc e => nd.2.2 c hc a (List.mem_flatMap.mpr ⟨r, hr, ha⟩) e.symm
  refine ⟨⟨k.1, fun r hr => ?_⟩, ⟨fun a u hm ha => ?_, fun a u ha => ?_, s.ex, fun a u ha => ?_, s.nw⟩⟩
  · obtain e | hr := List.mem_cons.mp hr
    · subst e
      exact ⟨h0, h1, hb, hl⟩
    · have hr' := k.2 r (List.mem_cons_of_mem _ hr)
      exact r.st (Ex.refl _) (fun a ha => (r.tr hr' a ha).2) (fun a ha => ho a (ne r hr a ha b (by simp)) (ne r hr a ha l (by simp))) hr'
  · by_cases e : a = b
    · subst e
      rcases mb with m | m
      · exact absurd m hm
      · rw [m] at ha
        cases ha
    · by_cases e2 : a = l
      · subst e2
        rcases ml with m | m
        · exact absurd m hm
        · rw [m] at ha
          cases ha
      · rw [ho a e e2]
        exact s.un a u hm ha
  · by_cases e : a = b
    · subst e
      exact ⟨_, hb⟩
    · by_cases e2 : a = l
      · subst e2
        exact ⟨_, hl⟩
      · rw [ho a e e2]
        exact s.th a u ha
  · have n1 : a ≠ b := fun e => by
      subst e
      rw [h0] at ha
      cases ha
    have n2 : a ≠ l := fun e => by
      subst e
      rw [h1] at ha
      cases ha
    rw [ho a n1 n2]
    exact s.le a u ha
/-! ### the box is read -/
theorem xe_bx0 (ho : XE M Γ (Res.boxC b l ns z :: Rs) X o (PV (.ref b))) {kc : Nat} {pc : Pos} : XE M Γ (Res.boxC b l ns z :: Rs) X (.Subscript o (.Constant (.int 0) kc pc) pos) (PV (.ref l)) :=
  YE.wp (pe_ix ix_list pe_wp pe_wp (fun _ _ => rfl)) (ye_op ho (xe_int (K := X.K)) fun x y H0 H hx hy e r => by
    obtain ⟨_, _, h2, h3⟩ := r.2 _ List.mem_cons_self
    refine Yld.val (z := .ref l) e rfl fun Q k => ⟨b, _, 0, _, hx, hy, SqL.of h2, rfl, k⟩)
theorem xe_bx1 (ho : XE M Γ (Res.boxC b l ns z :: Rs) X o (PV (.ref b))) {kc : Nat} {pc : Pos} : XE M Γ (Res.boxC b l ns z :: Rs) X (.Subscript o (.Constant (.int 1) kc pc) pos) (PD K (.int z)) :=
  YE.wp (pe_ix ix_list pe_wp pe_wp (fun _ _ => rfl)) (ye_op ho (xe_int (K := X.K)) fun x y H0 H hx hy e r => by
    obtain ⟨_, _, h2, h3⟩ := r.2 _ List.mem_cons_self
    refine Yld.val (z := .int z) e rfl fun Q k => ⟨b, _, 1, _, hx, hy, SqL.of h2, rfl, k⟩)
theorem xe_bxi {n : Int} (ho : XE M Γ (Res.boxC b l (n :: ns) z :: Rs) X o (PV (.ref l))) {kc : Nat} {pc : Pos} : XE M Γ (Res.boxC b l (n :: ns) z :: Rs) X (.Subscript o (.Constant (.int 0) kc pc) pos) (PD K (.int n)) :=
  YE.wp (pe_ix ix_list pe_wp pe_wp (fun _ _ => rfl)) (ye_op ho (xe_int (K := X.K)) fun x y H0 H hx hy e r => by
    obtain ⟨_, _, h2, h3⟩ := r.2 _ List.mem_cons_self
    refine Yld.val (z := .int n) e rfl fun Q k => ⟨l, _, 0, _, hx, hy, SqL.of h3, ?_, k⟩
    have : ((n :: ns).map V.int)[0]? = some (V.int n) := rfl
    exact atI_nat this)
theorem eqv_nil : ∀ ns : List Int, PyData.eqv (.list (li ns)) (.list []) = decide (ns = [])
  | [] => rfl
  | n :: ns => rfl
theorem shaped_li (ns : List Int) : SeqAt.shaped (.list (li ns)) = true := PySem.W.shaped_ints ns
theorem xt_bxe {n : Nat} (hr : Room n X.A) (ho : XE M Γ (Res.boxC b l ns z :: Rs) X o (PV (.ref l))) {pl : Pos} : XT M Γ (Res.boxC b l ns z :: Rs) X (.Compare o [.Eq] [.List [] pl] pos) (Is (decide (ns = []))) :=
  xt_cmp (K := X.K) (op_eqD (room_u hr)) ho (xe_lst (ds := []) xa_nil (by simp)) (fun x y H0 H hx hy e r => by
    obtain ⟨_, _, h2, h3⟩ := r.2 _ List.mem_cons_self
    have d1 : Dd X.K H (.list (li ns)) x := ⟨l, _, hx, h3, DdAll.of_ints ns⟩
    refine (Yld.val (z := .bl (decide (ns = []))) (C := PD X.K (.bool (decide (ns = [])))) e rfl fun Q q => ⟨_, _, Dd.dp _ x d1, Dd.dp _ y (Dd.ex e _ _ hy), shaped_li ns, rfl, ?_⟩).pb
    rw [eqv_nil]
    exact q) (nomark _)
/-! ### the box is written -/
theorem xs_bx1 {kc : Nat} {pc p2 : Pos} (he : XE M Γ (Res.boxC b l ns z :: Rs) X e (PD X.K (.int z'))) (ho : XE M Γ (Res.boxC b l ns z :: Rs) X o (PV (.ref b))) (mb : M b ∨ Z b = none) (ml : M l ∨ Z l = none) (h : XS M Γ (Res.boxC b l ns z' :: Rs) X Z0 Z Hl D rest)
    (hs : swapsWithSole [.Subscript o (.Constant (.int 1) kc pc) p2] e pos.line X.env = pure false := by rfl) (hw : swappedStores [.Subscript o (.Constant (.int 1) kc pc) p2] e X.env = pure none := by rfl)
    (h1 : (assignEach [.Subscript o (.Constant (.int 1) kc pc) p2] X.env).map (·.2) = [assign (.Subscript o (.Constant (.int 1) kc pc) p2) X.env] := by rfl) : XS M Γ (Res.boxC b l ns z :: Rs) X Z0 Z Hl D (.Assign [.Subscript o (.Constant (.int 1) kc pc) p2] e pos :: rest) :=
  xs_cons (ps_asg pe_wp (pg_sub pe_wp pe_wp set_list) hs hw h1) fun σ H0 H l' s b' r => he σ H0 H l' s.le r _ fun v H1 G1 s1 k1 hv => ho σ H1 G1 (l'.ex s1.ex) s1.le k1 _ fun v2 H2 G2 s2 k2 hv2 => (xe_int (K := X.K)) σ H2 G2 (l'.ex (s1.ex.trans s2.ex)) s2.le k2 _ fun v3 H3 G3 s3 k3 hv3 => by
    have t := ((s.trans s1).trans s2).trans s3
    have hne := box_ne k3
    obtain ⟨_, _, h2, h3⟩ := k3.2 _ List.mem_cons_self
    have hv' : v = .int z' := hv
    have hv2' : v2 = .ref b := hv2
    have hv3' : v3 = .int 1 := hv3
    subst hv' hv2' hv3'
    refine ⟨b, _, 1, 1, rfl, rfl, h2, rfl, ?_⟩
    obtain ⟨k4, s4⟩ := box_wr (H' := upd G3 b (.lst ([V.ref l, .int z].set 1 (.int z')))) k3 t upd_same (by rw [upd_ne hne.symm]; exact h3) (fun a n1 n2 => upd_ne n1) mb ml
    exact h _ H3 _ (l'.ex ((s1.ex.trans s2.ex).trans s3.ex)) s4 (b'.trans ((s1.ex.trans s2.ex).trans s3.ex)) k4
theorem xs_bx0 {n n' : Int} {kc : Nat} {pc p2 : Pos} (he : XE M Γ (Res.boxC b l (n :: ns) z :: Rs) X e (PD X.K (.int n'))) (ho : XE M Γ (Res.boxC b l (n :: ns) z :: Rs) X o (PV (.ref l))) (mb : M b ∨ Z b = none) (ml : M l ∨ Z l = none) (h : XS M Γ (Res.boxC b l (n' :: ns) z :: Rs) X Z0 Z Hl D rest)
    (hs : swapsWithSole [.Subscript o (.Constant (.int 0) kc pc) p2] e pos.line X.env = pure false := by rfl) (hw : swappedStores [.Subscript o (.Constant (.int 0) kc pc) p2] e X.env = pure none := by rfl)
    (h1 : (assignEach [.Subscript o (.Constant (.int 0) kc pc) p2] X.env).map (·.2) = [assign (.Subscript o (.Constant (.int 0) kc pc) p2) X.env] := by rfl) : XS M Γ (Res.boxC b l (n :: ns) z :: Rs) X Z0 Z Hl D (.Assign [.Subscript o (.Constant (.int 0) kc pc) p2] e pos :: rest) :=
  xs_cons (ps_asg pe_wp (pg_sub pe_wp pe_wp set_list) hs hw h1) fun σ H0 H l' s b' r => he σ H0 H l' s.le r _ fun v H1 G1 s1 k1 hv => ho σ H1 G1 (l'.ex s1.ex) s1.le k1 _ fun v2 H2 G2 s2 k2 hv2 => (xe_int (K := X.K)) σ H2 G2 (l'.ex (s1.ex.trans s2.ex)) s2.le k2 _ fun v3 H3 G3 s3 k3 hv3 => by
    have t := ((s.trans s1).trans s2).trans s3
    have hne := box_ne k3
    obtain ⟨_, _, h2, h3⟩ := k3.2 _ List.mem_cons_self
    have hv' : v = .int n' := hv
    have hv2' : v2 = .ref l := hv2
    have hv3' : v3 = .int 0 := hv3
    subst hv' hv2' hv3'
    refine ⟨l, _, 0, 0, rfl, rfl, h3, ?_, ?_⟩
    · unfold ixN
      rw [if_pos (by decide), if_pos (by simp)]
      rfl
    obtain ⟨k4, s4⟩ := box_wr (H' := upd G3 l (.lst ((((n :: ns).map V.int)).set 0 (.int n')))) (ns' := n' :: ns) k3 t (by rw [upd_ne hne]; exact h2) upd_same (fun a n1 n2 => upd_ne n2) mb ml
    exact h _ H3 _ (l'.ex ((s1.ex.trans s2.ex).trans s3.ex)) s4 (b'.trans ((s1.ex.trans s2.ex).trans s3.ex)) k4
/-- o.pop(0) -/
theorem xs_bxpop {n : Int} {kc : Nat} {pc apos cpos : Pos} (ho : XE M Γ (Res.boxC b l (n :: ns) z :: Rs) X o (PV (.ref l))) (mb : M b ∨ Z b = none) (ml : M l ∨ Z l = none) (h : XS M Γ (Res.boxC b l ns z :: Rs) X Z0 Z Hl D rest)
    (hpe : PE X (.Call (.Attribute o "pop" apos) [.Constant (.int 0) kc pc] [] cpos) (tBM X.K "list" rPopAt (wpE X o) (tCons (wpE X (.Constant (.int 0) kc pc)) tNil))) (hs : swapsWith (.Call (.Attribute o "pop" apos) [.Constant (.int 0) kc pc] [] cpos) none pos.line X.env = pure false := by rfl) :
    XS M Γ (Res.boxC b l (n :: ns) z :: Rs) X Z0 Z Hl D (.Expr (.Call (.Attribute o "pop" apos) [.Constant (.int 0) kc pc] [] cpos) pos :: rest) :=
  xs_cons (ps_expr hpe hs) fun σ H0 H l' s b' r => ho σ H0 H l' s.le r _ fun v H1 G1 s1 k1 hv => by
    have hv' : v = .ref l := hv
    subst hv'
    obtain ⟨_, _, _, h3⟩ := k1.2 _ List.mem_cons_self
    refine ⟨.inl ⟨rfl, _, SqL.of h3⟩, ?_⟩
    have h0 : XE M Γ (Res.boxC b l (n :: ns) z :: Rs) X (.Constant (.int 0) kc pc) (PD X.K (.int 0)) := xe_int
    refine h0 σ H1 G1 (l'.ex s1.ex) s1.le k1 _ fun y H2 G2 s2 k2 hy => ?_
    have hy' : y = .int 0 := hy
    subst hy'
    have t := (s.trans s1).trans s2
    have hne := box_ne k2
    obtain ⟨_, _, h2, h3⟩ := k2.2 _ List.mem_cons_self
    refine ⟨l, _, 0, 0, .int n, rfl, rfl, h3, by decide, by decide, ?_, rfl, ?_⟩
    · exact seqIndex_of (by decide) (by simp)
    obtain ⟨k4, s4⟩ := box_wr (H' := upd G2 l (.lst (((n :: ns).map V.int).eraseIdx 0))) (ns' := ns) k2 t (by rw [upd_ne hne]; exact h2) upd_same (fun a n1 n2 => upd_ne n2) mb ml
    exact h _ H2 _ (l'.ex (s1.ex.trans s2.ex)) s4 (b'.trans (s1.ex.trans s2.ex)) k4
/-- the box is opened, and closed -/
theorem xs_open (h : ∀ ns z, XS M Γ (Res.boxC b l ns z :: Rs) X Z0 Z Hl D rest) : XS M Γ (Res.box b l :: Rs) X Z0 Z Hl D rest := fun σ H0 H l' s b' k => by
  obtain ⟨ns, z, q⟩ := k.2 _ List.mem_cons_self
  exact h ns z σ H0 H l' s b' ⟨k.1, fun r hr => by
    obtain e | hr := List.mem_cons.mp hr
    · subst e
      exact q
    · exact k.2 r (List.mem_cons_of_mem _ hr)⟩
theorem Rok.close {H0 H : Hp} (k : Rok (Res.boxC b l ns z :: Rs) H0 H) : Rok (Res.box b l :: Rs) H0 H := ⟨k.1, fun r hr => by
  obtain e | hr := List.mem_cons.mp hr
  · subst e
    exact ⟨ns, z, k.2 _ List.mem_cons_self⟩
  · exact k.2 r (List.mem_cons_of_mem _ hr)⟩
open PySem.Spec PyProof.Rows in
theorem op_mulB : OpR X (binaryOp .Mult) (rI (fun _ j => Builtin.Int.intBits j ≤ 64) fun i j => .int (i * j)) := opI fun _ _ _ _ _ _ _ hc q => mul_int q (IntMulOk.of_right hc)
theorem xe_mulB {c d : Expr} (ha : XE M Γ Rs X c (PD K (.int i))) (hb : XE M Γ Rs X d (PD K (.int j))) (h : Builtin.Int.intBits j ≤ 64) : XE M Γ Rs X (.BinOp c .Mult d pos) (PD K (.int (i * j))) := xe_bin op_mulB ha hb fun x y H0 H hx hy e _ => yl_I h (fun _ => rfl) hx hy e
end
end Lh
namespace Lh
open PySem L2
open Evl (Ex ex_l ex_t ex_rd fresh_back)
/-- the script -/
def PSc (K : PySem.W.Frag) (ns : List Int) : Pd := ⟨fun v H => ∃ a, v = .ref a ∧ SqL K H a (ns.map V.int), fun e ⟨a, h1, h2⟩ => ⟨a, h1, ex_l e h2⟩⟩
/-- a promise that tells what the heap is behind it -/
def SpG {α : Type} (pre : α → List Pd) (post : α → V → Hp → Hp → Prop) : Sp := fun vs H Q _ => ∃ (x : α) (H0 : Hp), Ex H0 H ∧ DAll (pre x) vs H0 ∧ ∀ v H', post x v H H' → Q v H'
/-- a new box, all else as it was -/
def NewBox (v : V) (H H' : Hp) : Prop := ∃ (b l : Addr) (ns : List Int) (z : Int), v = .ref b ∧ b ≠ l ∧ H b = none ∧ H l = none ∧ Ex H H' ∧ H' b = some (.lst [.ref l, .int z]) ∧ H' l = some (.lst (ns.map V.int))
section
variable {K : PySem.W.Frag} {mg : Str → Option Value} {base : Heap} {P : Program} {w : World}
theorem fn_G {α : Type} {pre : α → List Pd} {post : α → V → Hp → Hp → Prop} {x qual : Str} {st : Stmt} {f : Addr} {fd : FuncData} {N ps : List Str} {k : Nat} (F : Fun K x qual st f fd) (S : FnScope N ps (defScope st)) (len : ∀ y, (pre y).length = ps.length)
    (hb : ∀ (y : α) (Z0 Z : Hp) (Q : VK) (X : Cx) (qX : ∃ (cdv : Value) (A : Around) (outer : List Env) (s : Shared) (E : XK), X = (cxOf CX0 P w K mg base N qual (defScope st) f cdv A outer s Z E).nox ∧ Room k X.A), (∀ v H', post y v Z H' → Q v H') →
      XS M0 (ctOf N (pre y)) [] X Z0 Z Z0 { nx := fun _ H' => Q .non H', rt := Q } (defBody st)) : FnOk P w K mg base CX0 (k + 1) f fd ps (SpG pre post) := by
  refine F.ok S (fun vs H Q E h => ?_) (fun cdv A outer s H vs Q E hr h => ?_)
  · obtain ⟨y, H0, _, h, _⟩ := h
    rw [h.1, len]
  · obtain ⟨y, H0, e, h, q⟩ := h
    exact ⟨_, pss_wp, hb y H0 H Q _ ⟨cdv, A, outer, s, E, rfl, hr⟩ q _ H0 H (sl_start h) (Step.rfl e) (Ex.refl _) Rok.nil⟩
end
section
variable {M M' : Addr → Prop} {Γ Γ' : Ct} {Rs : List Res} {X : Cx} {Z0 Z Hl : Hp} {D : Ends} {K : PySem.W.Frag} {rest : List Stmt} {a o e : Expr} {pos p : Pos} {i j k : Int} {b l : Addr} {ns ns' : List Int} {z z' : Int}
theorem xi_sc {tg e : Expr} (h : XE M Γ Rs X e (PSc X.K ns)) : XI M Γ Rs X tg e ((li ns).map (PD X.K)) := fun σ H0 H l ex k R r => PI.wp (pi_list pe_wp) (h σ H0 H l ex k _ fun v H1 G1 s1 k1 ⟨a, e1, h1⟩ =>
  ⟨a, e1, ⟨_, ex_l s1.le h1⟩, r _ H1 G1 s1 k1 (wk_list h1 (DdAll.of_ints ns))⟩)
theorem xe_lenSc (hm : X.mg "len" = none) (ha : XE M Γ Rs X a (PSc X.K ns)) (hg : Gl X "len" := by rfl) (he : starEach [a] X.env = (false, eval a X.env) :: starEach [] X.env := by rfl) : XE M Γ Rs X (.Call (.Name "len" p) [a] [] pos) (PD X.K (.int (ns.length : Int))) :=
  xe_callB call_len_seq hm PySem.boot_len (xa_1 ha he) (fun xs H0 H hx e r => by
    obtain ⟨x, e1, q, e2, h1⟩ := da1 hx
    subst e1 e2
    exact Yld.val (z := .int ((ns.map V.int).length : Int)) e (by rw [List.length_map]; rfl) fun Q k => ⟨q, _, rfl, .inl (ex_l e h1), k⟩) hg (by decide) (by decide) he rfl
/-- return [list(script), e] -/
theorem xs_retBox {f : Expr} {p1 p2 p3 : Pos} (hm : X.mg "list" = none) (ha : XE M0 Γ [] X a (PSc X.K ns)) (he : XE M0 Γ [] X f (PD X.K (.int z))) (h : ∀ v H, NewBox v Z H → D.rt v H) (hg : Gl X "list" := by rfl) (hs : starEach [a] X.env = (false, eval a X.env) :: starEach [] X.env := by rfl)
    (hs2 : starEach [.Call (.Name "list" p1) [a] [] p2, f] X.env = (false, eval (.Call (.Name "list" p1) [a] [] p2) X.env) :: starEach [f] X.env := by rfl) (hs3 : starEach [f] X.env = (false, eval f X.env) :: starEach [] X.env := by rfl) : XS M0 Γ [] X Z0 Z Hl D (.Return (some (.List [.Call (.Name "list" p1) [a] [] p2, f] p3)) pos :: rest) :=
  xs_cons (ps_ret (pe_lst (pa_cons (pe_callTy call_list_of hg hm (by decide +kernel) (pa_cons pe_wp pa_nil hs) (by decide) (by decide) hs rfl) (pa_cons pe_wp pa_nil hs3) hs2))) fun σ H0 H l s b k => by
    refine ha σ H0 H l s.le k _ fun v H1 G1 s1 k1 hv => ?_
    obtain ⟨q, e1, h1⟩ := hv
    subst e1
    refine ⟨q, _, rfl, .inl (ex_l s1.le h1), fun c hc => ?_⟩
    have t1 := s.trans s1
    have t2 := t1.trans (Step.new (M := M0) (o := HO.lst (ns.map V.int)) t1.le hc)
    refine he σ _ _ (l.ex (s1.ex.trans (Ex.new (fresh_back t1.le hc)))) t2.le (k1.step0 (Step.new t1.le hc)) _ fun v2 H2 G2 s2 k2 hv2 => ?_
    have hv2' : v2 = .int z := hv2
    subst hv2'
    refine ⟨by simp; decide, fun d hd => h _ _ ⟨d, c, ns, z, rfl, ?_, ?_, ?_, ?_, upd_same, ?_⟩⟩
    · intro e
      subst e
      obtain ⟨u, hu⟩ := s2.th d _ upd_same
      rw [hd] at hu
      cases hu
    · cases hz : Z d with
      | none => rfl
      | some u =>
        obtain ⟨u', hu⟩ := (t2.trans s2).th d u hz
        rw [hd] at hu
        cases hu
    · cases hz : Z c with
      | none => rfl
      | some u =>
        obtain ⟨u', hu⟩ := t1.th c u hz
        rw [hc] at hu
        cases hu
    · intro x u hx
      have := (t2.trans s2).un x u (fun z => z) hx
      rw [upd_ne (ne_of_none this hd)]
      exact this
    · have := s2.un c _ (fun z => z) upd_same
      rw [upd_ne (ne_of_none this hd)]
      exact this
/-- box = begun(script) -/
theorem xs_begun {P' : Program} {w' : World} {K' : PySem.W.Frag} {mg' : Str → Option Value} {base' : Heap} (n : Nat) {x fn : Str} {f : Addr} {fd : FuncData} {ps : List Str} {kk : Nat} {pf p2 p3 : Pos} (F : FnOk P' w' K' mg' base' CX0 kk f fd ps (SpG (α := List Int) (fun ns => [PSc K' ns]) (fun _ => NewBox))) (hr : Room kk X.A) (hm : mg' fn = some (.ref f)) (hk : PySem.W.keepIn K' (.ref f) = true)
    (hb : Binds K' fd ps []) (ha : XE M0 Γ [] X a (PSc K' ns)) (h : ∀ b l, b ≠ l → Z b = none → Z l = none → XS M0 (Γ.set n (some (PV (.ref b)))) [Res.box b l] X Z0 Z Hl D rest) (hN : X.N.Nodup) (hi : X.N[n]? = some x := by rfl) (hx : Loc X.env.scope x := by first | exact Or.inl rfl | exact Or.inr rfl)
    (hg : Gl X fn := by rfl) (hdb : (fn == ("__debug__" : Str)) = false := by decide) (he : starEach [a] X.env = (false, eval a X.env) :: starEach [] X.env := by rfl) (hs : swapsWith (.Call (.Name fn pf) [a] [] p2) (some (.Name x p3)) pos.line X.env = pure false := by rfl) (hf : X.fn x = true ∨ X.env.scope.names.lookup x = some .local := by first | exact .inl rfl | exact .inr rfl)
    (eP : X.prog = P' := by rfl) (ew : X.w = w' := by rfl) (eK : X.K = K' := by rfl) (em : X.mg = mg' := by rfl) (eb : X.base = base' := by rfl) : XS M0 Γ [] X Z0 Z Hl D (.Assign [.Name x p3] (.Call (.Name fn pf) [a] [] p2) pos :: rest) := by
  subst eP ew eK em eb
  refine xs_cons (ps_set hN hi hx (pe_call F hr hg hm hk hb (dvs := []) .nil pass0 (pa_cons pe_wp pa_nil he) hdb he rfl) hs hf) fun σ H0 H l s b k => ha σ H0 H l s.le k _ fun v H1 G1 s1 k1 hv => ?_
  refine ⟨ns, H1, s1.le, ?_, fun u G2 nb => ?_⟩
  · exact DAll.cons hv DAll.nil
  · obtain ⟨q, c, ns2, z2, e1, hne, hq, hc, ex2, g1, g2⟩ := nb
    subst e1
    have t := s.trans s1
    have fr : ∀ a, G1 a = none → Z a = none := fun a ha => by
      cases hz : Z a with
      | none => rfl
      | some u =>
        obtain ⟨u', hu⟩ := t.th a u hz
        rw [ha] at hu
        cases hu
    refine h q c hne (fr q hq) (fr c hc) _ H1 G2 ((l.ex s1.ex).set rfl) ⟨fun a u hm ha => ex2 a u (t.un a u hm ha), fun a u ha => ?_, t.ex, fun a u ha => ex2 a u (t.le a u ha), t.nw⟩ (b.trans s1.ex) ⟨?_, fun r hr => ?_⟩
    · obtain ⟨u', hu⟩ := t.th a u ha
      exact ⟨u', ex2 a u' hu⟩
    · simp [Res.box, hne]
    · have e : r = Res.box q c := by simpa using hr
      subst e
      exact ⟨ns2, z2, fresh_back t.le hq, fresh_back t.le hc, g1, g2⟩
end
end Lh
namespace Lh
open PySem L2
open Evl (Ex ex_l ex_t ex_rd fresh_back)
/-! ### over one of many -/
def XIE (M : Addr → Prop) (Γ : Ct) (Rs : List Res) (X : Cx) (tg iter : Expr) (AN : Int → Prop) (Qf : Int → List Pd) : Prop :=
  ∀ (σ : L2.St) (H0 H : Hp), Sl Γ σ H0 → Ex H0 H → Rok Rs H0 H → ∀ R : It → Hp → Prop, (∀ J H0' H', Step M H0 H H0' H' → Rok Rs H0' H' → (∃ n, AN n ∧ Wk J (Qf n) H0') → R J H') → wpI X tg iter σ H R
section
variable {M : Addr → Prop} {Γ Γ' : Ct} {Rs : List Res} {X : Cx} {Z0 Z Hl : Hp} {D : Ends} {K : PySem.W.Frag} {rest : List Stmt}
theorem xi_rangeE {AN : Int → Prop} {tg a : Expr} {p pos : Pos} (hm : X.mg "range" = none) (h : XE M Γ Rs X a (PEx AN fun n => PD K (.int n))) (hn : ∀ n, AN n → -(2 ^ 62) ≤ n ∧ n < 2 ^ 62) (hg : Gl X "range" := by rfl) (hs : starEach [a] X.env = [(false, eval a X.env)] := by rfl) :
    XIE M Γ Rs X tg (.Call (.Name "range" p) [a] [] pos) AN (fun n => (li (rgI 0 n.toNat)).map (PD K)) := fun σ H0 H l ex k R r => PI.wp (pi_range1 hg hm pa_wp hs) ((xa_1 (by exact h) (by exact hs)) σ H0 H l ex k _ fun vs H1 G1 s1 k1 a1 => by
  obtain ⟨v, w, e1, h1, h2⟩ := a1.inv
  have e2 := h2.nil_inv
  subst e1 e2
  obtain ⟨n, h3, h4⟩ := h1
  have e3 : v = .int n := h4
  subst e3
  exact ⟨n, rfl, (hn n h3).1, (hn n h3).2, r _ H1 G1 s1 k1 ⟨n, h3, wk_range⟩⟩)
theorem xs_forE {tg iter : Expr} {body : List Stmt} {AN : Int → Prop} {Qf : Int → List Pd} {pos : Pos} (hp : PassesOwn (model X.prog X.w) X.A X.env X.xe) (hi : XIE M Γ Rs X tg iter AN Qf) (J : Nat → Ct → List Res → Prop) (h0 : J 0 Γ Rs)
    (hg : ∃ g, PG X tg g ∧ ∀ n, AN n → ∀ (i : Nat) (Q : Pd) (Γ1 : Ct) (Rs1 : List Res), (Qf n)[i]? = some Q → J i Γ1 Rs1 → ∃ Γ2, (∀ (v : V) (σ : L2.St) (H0 H : Hp), Sl Γ1 σ H0 → Ex H0 H → Q.p v H0 → ∀ R : L2.St → Hp → Prop, (∀ σ', Sl Γ2 σ' H0 → R σ' H) → g v σ H R) ∧
      ∀ Hs, XS M Γ2 Rs1 X Z0 Z Hs { D with nx := KJ M Z0 Z Hs J (i + 1), ct := KJ M Z0 Z Hs J (i + 1), bk := wpB X rest D } body)
    (hd : ∀ n, AN n → ∀ Γ1 Rs1, J (Qf n).length Γ1 Rs1 → XS M Γ1 Rs1 X Z0 Z Hl D rest) (hc : X.calm = true := by rfl) (hs : ∀ x, foldedSetIterable iter X.env x = pure x := by intro _; rfl) : XS M Γ Rs X Z0 Z Hl D (.For tg iter body [] pos :: rest) := by
  obtain ⟨g, hg, hb⟩ := hg
  refine xs_cons (ps_for hp hc pi_wp hg pss_wp hs) fun σ H0 H l s b k => hi σ H0 H l s.le k _ fun I H1 G1 s1 k1 ⟨n, hn, wk⟩ => ?_
  have hb := hb n hn
  have hd := hd n hn
  refine ⟨fun i m σ' G => m = (Qf n).length - i ∧ i ≤ (Qf n).length ∧ KJ M Z0 Z H1 J i σ' G, ⟨_, rfl, Nat.zero_le _, Γ, Rs, H1, h0, Ex.refl _, l.ex s1.ex, s.trans s1, k1⟩, ?_⟩
  rintro i m σ' G ⟨rfl, hi', Γ1, Rs1, H2, j, e2, l2, s2, k2⟩
  have w := wk H2 G e2 s2.le i
  by_cases hlt : i < (Qf n).length
  · obtain ⟨go, yl⟩ := w.1 _ (List.getElem?_eq_getElem hlt)
    refine .inr ⟨go, KJ M Z0 Z H1 J (i + 1), fun σ3 G3 h3 => ⟨(Qf n).length - (i + 1), by omega, rfl, hlt, h3⟩, fun x G3 y => ?_⟩
    obtain ⟨H3, s3, hx⟩ := yl x G3 y
    obtain ⟨Γ2, hv, hbody⟩ := hb i _ Γ1 Rs1 (List.getElem?_eq_getElem hlt) j
    refine hv x σ' H3 G3 (l2.ex s3.ex) s3.le hx _ fun σ4 l4 => ?_
    have hb2 := hbody H1 σ4 H3 G3 l4 (s2.trans s3.of0) (e2.trans s3.ex) (k2.step0 s3)
    exact hb2
  · have e : i = (Qf n).length := by omega
    subst e
    exact .inl ⟨w.2 rfl, hd Γ1 Rs1 j σ' H2 G l2 s2 ((b.trans s1.ex).trans e2) k2⟩
theorem xs_forNE (i : Nat) {x : Str} {iter : Expr} {body : List Stmt} {AN : Int → Prop} {Qf : Int → List Pd} {pos xp : Pos} (hi : XIE M Γ Rs X (.Name x xp) iter AN Qf) (J : Nat → Ct → List Res → Prop) (h0 : J 0 Γ Rs)
    (hb : ∀ n, AN n → ∀ (t : Nat) (Q : Pd) (Γ1 : Ct) (Rs1 : List Res), (Qf n)[t]? = some Q → J t Γ1 Rs1 → ∀ Hs, XS M (Γ1.set i (some Q)) Rs1 X Z0 Z Hs { D with nx := KJ M Z0 Z Hs J (t + 1), ct := KJ M Z0 Z Hs J (t + 1), bk := wpB X rest D } body)
    (hd : ∀ n, AN n → ∀ Γ1 Rs1, J (Qf n).length Γ1 Rs1 → XS M Γ1 Rs1 X Z0 Z Hl D rest) (hN : X.N.Nodup) (hp : PassesOwn (model X.prog X.w) X.A X.env X.xe := by exact PassesOwn.never) (hx : X.N[i]? = some x := by rfl) (hl : Loc X.env.scope x := by first | exact Or.inl rfl | exact Or.inr rfl)
    (hf : X.fn x = true ∨ X.env.scope.names.lookup x = some .local := by first | exact .inl rfl | exact .inr rfl) (hc : X.calm = true := by rfl) (hs : ∀ x, foldedSetIterable iter X.env x = pure x := by intro _; rfl) : XS M Γ Rs X Z0 Z Hl D (.For (.Name x xp) iter body [] pos :: rest) :=
  xs_forE hp hi J h0 ⟨gName i, pg_name hN hx hl hf, fun n hn t Q Γ1 Rs1 hq j => ⟨_, gv_name, hb n hn t Q Γ1 Rs1 hq j⟩⟩ hd hc hs
theorem ye_lcE {tg iter : Expr} {j : Nat} {tt : TT} {te : TE} {AN : Int → Prop} {Qf : Int → List Pd} (hi : XIE M Γ Rs X tg iter AN Qf) (cv : Cov M Rs) (hz : ∀ n, AN n → (Qf n).length ≤ 100000) (R : Nat → List PyData → Prop) (r0 : R 0 [])
    (ht : ∀ n, AN n → ∀ (i : Nat) (Q : Pd), (Qf n)[i]? = some Q → ∃ B, YT M ((wipeC Γ [j]).set j (some Q)) Rs tt B ∧ (B true → YE M ((wipeC Γ [j]).set j (some Q)) Rs te (PEx (fun d => ∀ ds, ds.length ≤ i → R i ds → R (i + 1) (ds ++ [d])) (PD K))) ∧ (B false → ∀ ds, R i ds → R (i + 1) ds)) :
    YE M Γ Rs (tLc (wpI X tg iter) (gName j) tt te [j]) (PEx (fun ds => ∃ n, AN n ∧ R (Qf n).length ds ∧ ds.length ≤ (Qf n).length) fun ds => PD K (.list ds)) := fun σ H0 H l ex k Q q => hi σ H0 H l ex k _ fun J A0 G1 s1 k1 ⟨n, hn, wk⟩ D hD => by
  have hz := hz n hn
  have ht := ht n hn
  have nr : ∀ r ∈ Rs, ∀ a ∈ r.ad, a ≠ D := fun r hr a ha e => by
    obtain ⟨⟨o, h1⟩, _⟩ := r.tr (k1.2 r hr) a ha
    rw [e, hD] at h1
    cases h1
  have nM : ¬ M D := fun z => by
    obtain ⟨o, h⟩ := cv A0 G1 k1 D z
    rw [hD] at h
    cases h
  refine ⟨fun i m G => m = (Qf n).length - i ∧ i ≤ (Qf n).length ∧ ∃ A acc ds, R i ds ∧ ds.length ≤ i ∧ Step M A0 G1 A G ∧ A D = none ∧ Rok Rs A G ∧ G D = some (.lst acc) ∧ DdAll K A ds acc, ⟨_, rfl, Nat.zero_le _, A0, [], [], r0, Nat.le_refl _, ?_, fresh_back s1.le hD, k1.wr nr, upd_same, rfl⟩, ?_⟩
  · exact ⟨fun a o _ h => by rw [upd_ne (ne_of_none h hD)]; exact h, fun a o h => ⟨o, by rw [upd_ne (ne_of_none h hD)]; exact h⟩, Ex.refl _, fun a o h => by rw [upd_ne (ne_of_none (s1.le a o h) hD)]; exact s1.le a o h, fun a o h => .inl h⟩
  · rintro i m G ⟨rfl, hi', A, acc, ds, hR, hlen, s2, aD, k2, gD, hdd⟩
    have w := wk A G s2.ex s2.le i
    by_cases hlt : i < (Qf n).length
    · have hq := List.getElem?_eq_getElem hlt
      obtain ⟨go, yl⟩ := w.1 _ hq
      obtain ⟨B, hB, hY, hN⟩ := ht i _ hq
      refine .inr ⟨go, fun G' => i + 1 ≤ (Qf n).length ∧ ∃ A acc ds, R (i + 1) ds ∧ ds.length ≤ i + 1 ∧ Step M A0 G1 A G' ∧ A D = none ∧ Rok Rs A G' ∧ G' D = some (.lst acc) ∧ DdAll K A ds acc, fun G' h => ⟨(Qf n).length - (i + 1), by omega, rfl, h⟩, fun x G2 y => ?_⟩
      obtain ⟨A2, s3, hx⟩ := yl x G2 y
      refine ⟨by simp [L2.wipe, List.set_set], ?_⟩
      have s12 := s2.trans s3.of0
      have nw : ∀ {A' G' : Hp}, Step M A G A' G' → A' D = none := fun {A' G'} s => by
        cases e : A' D with
        | none => rfl
        | some o =>
          rcases s.nw D o e with z | z
          · rw [aD] at z
            cases z
          · rw [gD] at z
            cases z
      have lΓ : Sl ((wipeC Γ [j]).set j (some (Qf n)[i])) ((L2.wipe σ [j]).set j (some x)) A2 := (((l.ex s1.ex).ex (s2.ex.trans s3.ex)).wipe [j]).set hx
      refine hB _ A2 G2 lΓ s3.le (k2.step0 s3) _ fun b A3 G3 s4 k4 hb => ?_
      cases b with
      | true =>
        refine hY hb _ A3 G3 (lΓ.ex s4.ex) s4.le k4 _ fun v A4 G4 s5 k5 ⟨d, hd, hv⟩ => ?_
        have s35 : Step M A G A4 G4 := (s3.of0.trans s4).trans s5
        have g4 : G4 D = some (.lst acc) := s35.un D _ nM gD
        refine ⟨acc, g4, ?_, hlt, A4, acc ++ [v], ds ++ [d], hd ds hlen hR, by simp; omega, ?_, nw s35, k5.wr nr, upd_same, DdAll.app (DdAll.ex s35.ex _ _ hdd) (DdAll.one hv)⟩
        · rw [hdd.len]
          have : (100000 : Nat) < sizeLine := by decide
          omega
        · have t := s2.trans s35
          refine ⟨fun a o hm h => ?_, fun a o h => ?_, t.ex, fun a o h => ?_, t.nw⟩
          · rw [upd_ne (ne_of_none h hD)]
            exact t.un a o hm h
          · obtain ⟨o', h'⟩ := t.th a o h
            exact ⟨o', by rw [upd_ne (ne_of_none h hD)]; exact h'⟩
          · have na : a ≠ D := fun e => by
              rw [e, nw s35] at h
              cases h
            rw [upd_ne na]
            exact t.le a o h
      | false =>
        have s34 : Step M A G A3 G3 := s3.of0.trans s4
        exact ⟨hlt, A3, acc, ds, hN hb ds hR, by omega, s2.trans s34, nw s34, k4, s34.un D _ nM gD, DdAll.ex s34.ex _ _ hdd⟩
    · have e : i = (Qf n).length := by omega
      subst e
      refine .inl ⟨w.2 rfl, q (.ref D) (upd A D (.lst acc)) G ?_ (k2.updA aD nr) ⟨ds, ⟨n, hn, hR, hlen⟩, D, acc, rfl, upd_same, DdAll.ex (Ex.new aD) _ _ hdd⟩⟩
      have t := s1.trans s2
      refine ⟨t.un, t.th, t.ex.trans (Ex.new aD), fun a o h => ?_, fun a o h => ?_⟩
      · by_cases ha : a = D
        · subst ha
          rw [upd_same] at h
          rw [gD]
          exact h
        · rw [upd_ne ha] at h
          exact t.le a o h
      · by_cases ha : a = D
        · subst ha
          refine .inr ?_
          cases e : H a with
          | none => rfl
          | some u =>
            obtain ⟨u', h'⟩ := s1.th a u e
            rw [hD] at h'
            cases h'
        · rw [upd_ne ha] at h
          exact t.nw a o h
theorem xe_lcE (j : Nat) {x : Str} {elt iter : Expr} {scope : Scope} {pos xp : Pos} {AN : Int → Prop} {Qf : Int → List Pd} (hi : XIE M Γ Rs X (.Name x xp) iter AN Qf) (R : Nat → List PyData → Prop) (r0 : R 0 []) (ht : ∀ n, AN n → LcAll M Γ Rs X K scope j elt (Qf n) R) (hN : X.N.Nodup)
    (ok : BlkOk X.N X.env.scope scope [(x, j)]) (hz : ∀ n, AN n → (Qf n).length ≤ 100000) (cv : Cov M Rs) (hg : BlkG X scope x xp j) (hc : X.calm = true := by rfl) (hs : ∀ x, foldedSetIterable iter X.env x = pure x := by intro _; rfl) :
    XE M Γ Rs X (.ListComp elt [⟨.Name x xp, iter, [], 0⟩] scope pos) (PEx (fun ds => ∃ n, AN n ∧ R (Qf n).length ds ∧ ds.length ≤ (Qf n).length) fun ds => PD K (.list ds)) := YE.wp (pe_lc (own := [(x, j)]) hc hN pi_wp ok hg (fun s H C cl fp => pts_nil) blk_ok hs) (ye_lcE hi cv hz R r0 fun n hn i Q hq => ⟨Is true, yt_yes, fun _ => ye_blk (ht n hn i Q hq), fun z => Bool.noConfusion z⟩)
end
section
variable {M : Addr → Prop} {Γ : Ct} {Rs : List Res} {X : Cx} {K : PySem.W.Frag} {a b : Expr} {pos p : Pos} {i j lo hi : Int}
/-! ### an int of many -/
theorem xe_addIn (ha : XE M Γ Rs X a (PD K (.int i))) (hb : XE M Γ Rs X b (PIn K lo hi)) : XE M Γ Rs X (.BinOp a .Add b pos) (PIn K (i + lo) (i + hi)) := xe_bin op_add ha hb fun x y H0 H hx ⟨n, hn, hy⟩ e _ => fun Q q =>
  (yl_I0 (g := fun i j => .int (i + j)) (d := .int (i + n)) (fun _ => rfl) hx hy e) Q fun v H0' H' s p => q v H0' H' s ⟨i + n, ⟨by omega, by omega⟩, p⟩
theorem xt_eqIn (ha : XE M Γ Rs X a (PIn K lo hi)) (hb : XE M Γ Rs X b (PD K (.int j))) : XT M Γ Rs X (.Compare a [.Eq] [b] pos) (fun _ => True) := xt_cmp (K := K) op_eq ha hb (fun x y H0 H ⟨n, hn, hx⟩ hy e _ => fun Q q => (yl_eqI hx hy e) Q fun v H0' H' s p => q v H0' H' s ⟨_, True.intro, p⟩) (nomark _)
theorem xe_eqIn (ha : XE M Γ Rs X a (PIn K lo hi)) (hb : XE M Γ Rs X b (PD K (.int j))) : XE M Γ Rs X (.Compare a [.Eq] [b] pos) (PB K fun _ => True) := xe_cmp op_eq ha hb (fun x y H0 H ⟨n, hn, hx⟩ hy e _ => fun Q q => (yl_eqI hx hy e) Q fun v H0' H' s p => q v H0' H' s ⟨_, True.intro, p⟩) (nomark _)
end
end Lh
namespace Lh
open PySem L2
open Evl (Ex ex_l ex_t ex_rd fresh_back)
/-- a list, a tuple of things -/
def PLs (Ps : List Pd) : Pd := ⟨fun v H => ∃ a xs, v = .ref a ∧ H a = some (.lst xs) ∧ DAll Ps xs H, fun e ⟨a, xs, h1, h2, h3⟩ => ⟨a, xs, h1, e _ _ h2, h3.ex e⟩⟩
def PTs (K : PySem.W.Frag) (Ps : List Pd) : Pd := ⟨fun v H => ∃ a xs, v = .ref a ∧ SqT K H a xs ∧ DAll Ps xs H, fun e ⟨a, xs, h1, h2, h3⟩ => ⟨a, xs, h1, ex_t e h2, h3.ex e⟩⟩
section
variable {M : Addr → Prop} {Γ Γ' : Ct} {Rs : List Res} {X : Cx} {Z0 Z Hl : Hp} {D : Ends} {K : PySem.W.Frag} {rest : List Stmt} {a b e : Expr} {es : List Expr} {pos p : Pos} {i j k : Int}
theorem PTs.two {K : PySem.W.Frag} {P Q : Pd} {v : V} {H : Hp} (h : (PTs K [P, Q]).p v H) : (PT2 K P Q).p v H := by
  obtain ⟨a, xs, e, h1, h2⟩ := h
  obtain ⟨x, r, e1, q1, h3⟩ := h2.inv
  obtain ⟨y, r', e2, q2, h4⟩ := h3.inv
  have e3 := h4.nil_inv
  subst e1 e2 e3
  exact ⟨a, x, y, e, h1, q1, q2⟩
theorem xe_tupP {Ps : List Pd} {x1} (h : XA M Γ Rs X es Ps) (hz : Ps.length ≤ 1000) : XE M Γ Rs X (.Tuple es x1 pos) (PTs K Ps) :=
  YE.wp (pe_tup pa_wp) fun σ H0 H l ex k Q q => h σ H0 H l ex k _ fun xs H1 G1 s1 k1 a1 => ⟨by have := a1.1; rw [this]; exact Nat.le_trans hz (by decide), fun p hp =>
    q _ (upd H1 p (.tup xs)) _ (s1.trans (Step.new s1.le hp)) (k1.step0 (Step.new s1.le hp)) ⟨p, xs, rfl, SqT.of upd_same, a1.ex (Ex.new (fresh_back s1.le hp))⟩⟩
theorem xe_lstP {Ps : List Pd} (h : XA M Γ Rs X es Ps) (hz : Ps.length ≤ 1000) : XE M Γ Rs X (.List es pos) (PLs Ps) :=
  YE.wp (pe_lst pa_wp) fun σ H0 H l ex k Q q => h σ H0 H l ex k _ fun xs H1 G1 s1 k1 a1 => ⟨by have := a1.1; rw [this]; exact Nat.le_trans hz (by decide), fun p hp =>
    q _ (upd H1 p (.lst xs)) _ (s1.trans (Step.new s1.le hp)) (k1.step0 (Step.new s1.le hp)) ⟨p, xs, rfl, upd_same, a1.ex (Ex.new (fresh_back s1.le hp))⟩⟩
/-- at a place that is one of many, in a list of things -/
theorem xe_ixP {Ps : List Pd} {A : Int → Prop} {C : Pd} (ha : XE M Γ Rs X a (PLs Ps)) (hb : XE M Γ Rs X b (PEx A fun k => PD K (.int k))) (h : ∀ k, A k → ∃ (t : Nat) (P : Pd), k = (t : Int) ∧ Ps[t]? = some P ∧ ∀ v H, P.p v H → C.p v H) (hs : PlainIx b := by exact fun _ _ => rfl) : XE M Γ Rs X (.Subscript a b pos) C :=
  YE.wp (pe_ix ix_list pe_wp pe_wp hs) (ye_op ha hb fun x y H0 H ⟨q, xs, e1, h1, h2⟩ ⟨k, hk, hy⟩ e _ => by
    obtain ⟨t, P, e2, hP, hc⟩ := h k hk
    obtain ⟨v, q1, q2⟩ := h2.2 t P hP
    subst e1 e2
    exact Yld.val (z := v) e (hc v H0 q2) fun Q k => ⟨q, xs, t, v, rfl, hy, SqL.of (e _ _ h1), atI_nat q1, k⟩)
/-- tuple(..) of a list of many -/
theorem xe_tupLE {α : Type} {A : α → Prop} {f : α → List PyData} (hm : X.mg "tuple" = none) (h : XE M Γ Rs X a (PEx A fun x => PD X.K (.list (f x)))) (hg : Gl X "tuple" := by rfl) (he : starEach [a] X.env = (false, eval a X.env) :: starEach [] X.env := by rfl) : XE M Γ Rs X (.Call (.Name "tuple" p) [a] [] pos) (PEx A fun x => PD X.K (.tuple (f x))) :=
  xe_callTy call_tuple_of hm (by decide +kernel) (xa_1 h he) (fun xs H0 H hx e _ => by
    obtain ⟨x, e1, y, hy, q, ys, e2, h1, h2⟩ := da1 hx
    subst e1 e2
    intro Q k
    have y0 : Yld H0 H (PD X.K (.tuple (f y))) (fun Q => ∃ p ys', [V.ref q] = [V.ref p] ∧ ((SqL X.K H p ys' ∧ ∀ l, H l = none → Q (.ref l) (upd H l (.tup ys'))) ∨ SqT X.K H p ys' ∧ Q (.ref p) H)) := Yld.newT e h2 fun Q k => ⟨q, ys, rfl, .inl ⟨SqL.of (e _ _ h1), k⟩⟩
    exact y0 Q fun v H0' H' s p => k v H0' H' s ⟨y, hy, p⟩) hg (by decide) (by decide) he rfl
/-- x, y = e, where e is one of many pairs -/
theorem xs_unpE (i j : Nat) {α : Type} {A : α → Prop} {P Q : α → Pd} {x y : Str} {e : Expr} {px py pt : Pos} {kt : Nat} {pos : Pos} (he : XE M Γ Rs X e (PEx A fun a => PT2 X.K (P a) (Q a))) (h : ∀ a, A a → XS M ((Γ.set i (some (P a))).set j (some (Q a))) Rs X Z0 Z Hl D rest) (hN : X.N.Nodup) (hc : X.calm = true := by rfl) (hx : X.N[i]? = some x := by rfl) (hy : X.N[j]? = some y := by rfl)
    (hl : Loc X.env.scope x := by first | exact Or.inl rfl | exact Or.inr rfl) (hl2 : Loc X.env.scope y := by first | exact Or.inl rfl | exact Or.inr rfl)
    (hf : X.fn x = true ∨ X.env.scope.names.lookup x = some .local := by first | exact .inl rfl | exact .inr rfl) (hf2 : X.fn y = true ∨ X.env.scope.names.lookup y = some .local := by first | exact .inl rfl | exact .inr rfl)
    (hs : swapsWithSole [.Tuple [.Name x px, .Name y py] kt pt] e pos.line X.env = pure false := by rfl) (hw : swappedStores [.Tuple [.Name x px, .Name y py] kt pt] e X.env = pure none := by rfl)
    (h1 : (assignEach [.Tuple [.Name x px, .Name y py] kt pt] X.env).map (·.2) = [assign (.Tuple [.Name x px, .Name y py] kt pt) X.env] := by rfl) : XS M Γ Rs X Z0 Z Hl D (.Assign [.Tuple [.Name x px, .Name y py] kt pt] e pos :: rest) :=
  xs_cons (ps_asg pe_wp (pg_tup hc (pgs_cons (pg_name hN hx hl hf) (pgs_cons (pg_name hN hy hl2 hf2) pgs_nil))) hs hw h1) fun σ H0 H l s b r => he σ H0 H l s.le r _ fun v H1 G1 s1 k1 ⟨a, ha, hv⟩ =>
    gv_pair v σ H1 G1 (l.ex s1.ex) s1.le hv _ fun σ' l' => h a ha σ' H1 G1 l' (s.trans s1) (b.trans s1.ex) k1
/-- what stands in a slot is one of many -/
theorem xs_slot (i : Nat) {α : Type} {A : α → Prop} {P : α → Pd} (hi : Γ[i]? = some (some (PEx A P))) (h : ∀ a, A a → XS M (Γ.set i (some (P a))) Rs X Z0 Z Hl D rest) : XS M Γ Rs X Z0 Z Hl D rest := fun σ H0 H l s b k => by
  obtain ⟨v, h1, a, ha, h2⟩ := l.2 i _ hi
  have e3 : σ.set i (some v) = σ := by
    have hlt := (List.getElem?_eq_some_iff.mp h1).1
    have := (List.getElem?_eq_some_iff.mp h1).2
    rw [← this]
    exact List.set_getElem_self hlt
  have l2 : Sl (Γ.set i (some (P a))) (σ.set i (some v)) H0 := l.set h2
  rw [e3] at l2
  exact h a ha σ H0 H l2 s b k
/-- x, y = e, [] : a list that will grow -/
theorem xs_parL (i j : Nat) {x y : Str} {a : Expr} {P : Pd} {px py pt pl : Pos} {kt k2 pt2} {pos : Pos} (ha : XE M Γ Rs X a P) (h : ∀ q, XS M ((Γ.set i (some P)).set j (some (PV (.ref q)))) (Res.lst Z q [] :: Rs) X Z0 Z Hl D rest) (hN : X.N.Nodup) (hc : X.calm = true := by rfl) (hi : X.N[i]? = some x := by rfl) (hj : X.N[j]? = some y := by rfl) (hij : i ≠ j := by decide)
    (hx : X.env.scope.names.lookup x = some .local := by rfl) (hy : X.env.scope.names.lookup y = some .local := by rfl) (hw : swappedStores [.Tuple [.Name x px, .Name y py] kt pt] (.Tuple [a, .List [] pl] k2 pt2) X.env = pure (some [x, y]) := by rfl)
    (hs : swapsWithSole [.Tuple [.Name x px, .Name y py] kt pt] (.Tuple [a, .List [] pl] k2 pt2) pos.line X.env = pure false := by rfl) (he : starEach [a, .List [] pl] X.env = (false, eval a X.env) :: starEach [.List [] pl] X.env := by rfl) (he2 : starEach [.List [] pl] X.env = (false, eval (.List [] pl) X.env) :: starEach [] X.env := by rfl) : XS M Γ Rs X Z0 Z Hl D (.Assign [.Tuple [.Name x px, .Name y py] kt pt] (.Tuple [a, .List [] pl] k2 pt2) pos :: rest) :=
  xs_cons (ps_par hc hN hi hj hij hx hy (pa_cons pe_wp (pa_cons (pe_lst pa_nil) pa_nil he2) he) hw hs) fun σ H0 H l s b r => ha σ H0 H l s.le r _ fun v H1 G1 s1 k1 a1 => ⟨by decide, fun p hp => by
    have t := s.trans s1
    have ne : ∀ r ∈ Rs, ∀ a ∈ r.ad, a ≠ p := fun r hr a ha e => by
      obtain ⟨⟨o, h1⟩, _⟩ := r.tr (k1.2 r hr) a ha
      rw [e, hp] at h1
      cases h1
    have hZ : Z p = none := by
      cases e : Z p with
      | none => rfl
      | some o =>
        obtain ⟨o', h'⟩ := t.th p o e
        rw [hp] at h'
        cases h'
    refine ⟨v, .ref p, rfl, h p _ H1 _ (((l.ex s1.ex).set a1).set (P := PV (.ref p)) rfl) ⟨fun a o hm ha => ?_, fun a o ha => ?_, t.ex, fun a o ha => ?_, t.nw⟩ (b.trans s1.ex) ⟨?_, fun r hr => ?_⟩⟩
    · rw [upd_ne (ne_of_none ha hZ)]
      exact t.un a o hm ha
    · obtain ⟨o', h'⟩ := t.th a o ha
      exact ⟨o', by rw [upd_ne (ne_of_none h' hp)]; exact h'⟩
    · rw [upd_ne (ne_of_none (t.le a o ha) hp)]
      exact t.le a o ha
    · rw [List.flatMap_cons, List.nodup_append]
      refine ⟨by simp [Res.lst], k1.1, fun a ha c hc e => ?_⟩
      have e1 : a = p := by simpa [Res.lst] using ha
      obtain ⟨r, hr, hc⟩ := List.mem_flatMap.mp hc
      exact ne r hr c hc (e ▸ e1)
    · obtain e | hr := List.mem_cons.mp hr
      · subst e
        exact ⟨hZ, fresh_back s1.le hp, [], upd_same, DAll.nil⟩
      · exact (k1.wr ne).2 r hr⟩
open PySem.Spec PyProof.Rows in
theorem op_mulA : OpR X (binaryOp .Mult) (rI (fun i _ => Builtin.Int.intBits i ≤ 64) fun i j => .int (i * j)) := opI fun _ _ _ _ _ _ _ hc q => mul_int q (IntMulOk.of_left hc)
theorem xe_mulA {c d : Expr} (ha : XE M Γ Rs X c (PD K (.int i))) (hb : XE M Γ Rs X d (PD K (.int j))) (h : Builtin.Int.intBits i ≤ 64) : XE M Γ Rs X (.BinOp c .Mult d pos) (PD K (.int (i * j))) := xe_bin op_mulA ha hb fun x y H0 H hx hy e _ => yl_I h (fun _ => rfl) hx hy e
end
end Lh
namespace Lh
open PySem L2
open Evl (Ex ex_l ex_t ex_rd fresh_back)
/-- what class a datum is of -/
def tyS : PyData → String
  | .none => "NoneType"
  | .bool _ => "bool"
  | .int _ => "int"
  | .str _ => "str"
  | .list _ => "list"
  | .tuple _ => "tuple"
  | .dict _ => "dict"
theorem ty_of {K : PySem.W.Frag} {H : Hp} : ∀ {d : PyData} {v : V}, Dd K H d v → TyX K H v (.type (tyS d))
  | .none, v, h => by
    have e : v = .non := h
    subst e
    exact .base .non
  | .bool b, v, h => by
    have e : v = .bl b := h
    subst e
    exact .base (.bl b)
  | .int i, v, h => by
    have e : v = .int i := h
    subst e
    exact .base (.int i)
  | .str s, v, h => by
    have e : v = .str s := h
    subst e
    exact .base (.str s)
  | .list ds, v, ⟨a, xs, e, h1, _⟩ => by
    subst e
    exact .base (.lst h1)
  | .tuple ds, v, ⟨a, xs, e, h1, _⟩ => by
    subst e
    rcases h1 with (h | ⟨o, h⟩) | ⟨o, its, n, hk, hc, _⟩
    · exact .base (.tup h)
    · exact .fTuple h
    · exact .kTuple hk hc
section
variable {M : Addr → Prop} {Γ Γ' : Ct} {Rs : List Res} {X : Cx} {Z0 Z Hl : Hp} {D : Ends} {K : PySem.W.Frag} {rest : List Stmt} {a b e : Expr} {es : List Expr} {pos p : Pos} {i j k : Int}
/-- isinstance(a, T) -/
theorem xe_isi {d : PyData} {T : Str} {TS : String} {u : Bool} {pt : Pos} (hm : X.mg "isinstance" = none) (hm2 : X.mg T = none) (hk : PySem.W.kitOne X.K (.type (tyS d)) (.type TS) = some u) (h : XE M Γ Rs X a (PD X.K d)) (hT : bootBuiltins T = some (.type TS)) (hb : bootBuiltins "isinstance" = some (.builtin "isinstance") := by decide +kernel) (hg : Gl X "isinstance" := by rfl) (hg2 : Gl X T := by rfl)
    (hn : T ≠ "__name__" := by decide) (hd : (T == ("__debug__" : Str)) = false := by decide) (he : starEach [a, .Name T pt] X.env = (false, eval a X.env) :: starEach [.Name T pt] X.env := by rfl) (he2 : starEach [.Name T pt] X.env = (false, eval (.Name T pt) X.env) :: starEach [] X.env := by rfl) (hpl : (backTo pos (starEach [.Name T pt] X.env)).any (·.1) = false := by rfl) :
    XE M Γ Rs X (.Call (.Name "isinstance" p) [a, .Name T pt] [] pos) (PD X.K (.bool u)) :=
  xe_callB call_isi hm hb (xa_cons h (xa_1 (xe_bltn (v := .ty TS) hm2 hT rfl hg2 hn hd) he2) he) (fun xs H0 H hx e _ => by
    obtain ⟨x, r, e1, h1, h3⟩ := hx.inv
    obtain ⟨y, r', e2, h2, h4⟩ := h3.inv
    have e3 := h4.nil_inv
    have h2' : y = .ty TS := h2
    subst e1 e2 e3 h2'
    exact Yld.val (z := .bl u) e rfl fun Q k => ⟨x, .ty TS, _, _, u, rfl, .ty TS, ty_of (Dd.ex e _ _ h1), hk, k⟩) hg (by decide) (by decide) he hpl
/-- a is None -/
theorem xt_isN {d : PyData} (h : XE M Γ Rs X a (PD X.K d)) (hd : tyS d ≠ "NoneType") {kc : Nat} {pc : Pos} : XT M Γ Rs X (.Compare a [.Is] [.Constant .none kc pc] pos) (Is false) :=
  xt_cmp (K := X.K) op_isN h (xe_non (K := X.K)) (fun x y H0 H hx hy e _ => by
    have hy' : y = .non := hy
    refine (Yld.val (z := .bl (decide (x = .non))) (C := PD X.K (.bool false)) e ?_ fun Q q => ⟨hy', q⟩).pb
    have : x ≠ .non := fun e => by
      subst e
      cases d with
      | none => exact hd rfl
      | bool _ => cases (show V.non = .bl _ from hx)
      | int _ => cases (show V.non = .int _ from hx)
      | str _ => cases (show V.non = .str _ from hx)
      | list _ =>
        obtain ⟨_, _, e, _⟩ := hx
        cases e
      | tuple _ =>
        obtain ⟨_, _, e, _⟩ := hx
        cases e
      | dict _ => exact hx.elim
    rw [decide_eq_false this]
    rfl) (nomark _)
end
end Lh
namespace Lh
open PySem L2
open Evl (Ex ex_l ex_t ex_rd fresh_back)
/-- the first place where two rows of ints differ: the first one's is greater -/
def LexGt (p q : List Int) : Prop := ∃ j, j < p.length ∧ j < q.length ∧ (∀ i, i < j → p.getD i 0 = q.getD i 0) ∧ q.getD j 0 < p.getD j 0
theorem lex_hit {e r : Nat → Bool} {z : Bool} {j : Nat} (he : e j = false) (hr : r j = true) : ∀ (k i : Nat), i ≤ j → j < i + k → (∀ m, i ≤ m → m < j → e m = true) → Ob.lexAt e r z i k = true
  | 0, i, h1, h2, _ => by omega
  | k + 1, i, h1, h2, h3 => by
    rw [Ob.lexAt_succ]
    by_cases c : i = j
    · subst c
      rw [he, hr]
      rfl
    · rw [h3 i (Nat.le_refl _) (by omega), if_pos rfl]
      exact lex_hit he hr k (i + 1) (by omega) (by omega) fun m m1 m2 => h3 m (by omega) m2
open PySem.Spec PyProof.Rows in
def rGtT (K : PySem.W.Frag) : R2 := fun u w H Q => ∃ (c d : Addr) (p q : List Int), u = .ref c ∧ w = .ref d ∧ SqT K H c (p.map V.int) ∧ SqT K H d (q.map V.int) ∧ LexGt p q ∧ Q (.bl true) H
open PySem.Spec PyProof.Rows in
theorem int_in {vs : List Value} {p : List Int} (hi : IntsAre vs p) (m : Nat) (hm : m < vs.toArray.size) : ∃ t, vs.toArray[m] = Value.int (p.getD m 0) t := IntsAre.int_at hi _ _ (by simp at hm; simp [hm])
open PySem.Spec PyProof.Rows in
theorem op_gtT {X : Cx} (hu : X.A.units < cLine) : OpR X (compareOp .Gt) (rGtT X.K) := by
  intro pins s σ H u w v v' Q I ru rw' hh
  obtain ⟨c, d, p, q, rfl, rfl, hc, hd, ⟨j, j1, j2, j3, j4⟩, hq⟩ := hh
  cases ru
  cases rw'
  obtain ⟨vs, r1, g1, _⟩ := I.tuple hc
  obtain ⟨ws, r2, g2, _⟩ := I.tuple hd
  have n1 : IntsAre vs p := Vals.ints r1
  have n2 : IntsAre ws q := Vals.ints r2
  have s1 : vs.toArray.size = p.length := by
    rw [List.size_toArray, n1.length]
  have s2 : ws.toArray.size = q.length := by
    rw [List.size_toArray, n2.length]
  have G := Ob.RcOp.tuples_gt (A := X.A) (s := s) (e := fun m => decide (p.getD m 0 = q.getD m 0)) (r := fun m => decide (q.getD m 0 < p.getD m 0)) g1 g2 hu
    (fun m m1 m2 => by
      obtain ⟨t1, h1⟩ := int_in n1 m m1
      obtain ⟨t2, h2⟩ := int_in n2 m m2
      rw [h1, h2, show decide (p.getD m 0 = q.getD m 0) = (p.getD m 0 == q.getD m 0) from by
        rw [Bool.eq_iff_iff]
        simp]
      exact SeqAt.EqAt.int_int _ _ _ _)
    (fun m m1 m2 _ => by
      obtain ⟨t1, h1⟩ := int_in n1 m m1
      obtain ⟨t2, h2⟩ := int_in n2 m m2
      rw [h1, h2]
      exact Ob.RcOp.gt_int _ _ _ _)
  rw [s1, s2] at G
  have hit := lex_hit (e := fun m => decide (p.getD m 0 = q.getD m 0)) (r := fun m => decide (q.getD m 0 < p.getD m 0)) (z := decide (p.length > q.length)) (j := j) (decide_eq_false (by omega)) (decide_eq_true j4) (min p.length q.length) 0 (Nat.zero_le _) (by omega) fun m _ hm => decide_eq_true (j3 m hm)
  rw [hit] at G
  exact G X.prog X.w X.xe (EP X pins σ Q) ⟨.bl true, H, I, rfl, hq⟩
section
variable {M : Addr → Prop} {Γ : Ct} {Rs : List Res} {X : Cx} {K : PySem.W.Frag} {a b : Expr} {pos : Pos}
theorem xe_gtT {p q : List Int} {n : Nat} (hr : Room n X.A) (ha : XE M Γ Rs X a (PD X.K (.tuple (li p)))) (hb : XE M Γ Rs X b (PD X.K (.tuple (li q)))) (h : LexGt p q) : XE M Γ Rs X (.Compare a [.Gt] [b] pos) (PD X.K (.bool true)) :=
  xe_cmp (op_gtT (by have := hr.un; omega)) ha hb (fun x y H0 H ⟨c, xs, e1, h1, h2⟩ ⟨d, ys, e2, h3, h4⟩ e _ => by
    have e3 := h2.ints
    have e4 := h4.ints
    subst e1 e2 e3 e4
    exact Yld.val (z := .bl true) e rfl fun Q k => ⟨c, d, p, q, rfl, rfl, ex_t e h1, ex_t e h3, h, k⟩) (nomark _)
end
end Lh
namespace Lh
open PySem L2
open Evl (Ex ex_l ex_t ex_rd fresh_back)
theorem wipe_pair {σ : L2.St} {i j : Nat} (hij : i ≠ j) {a b : Option V} : L2.wipe (((L2.wipe σ [i, j]).set i a).set j b) [i, j] = L2.wipe σ [i, j] := by
  show (((((σ.set j none).set i none).set i a).set j b).set j none).set i none = (σ.set j none).set i none
  rw [List.set_set, List.set_set, List.set_comm _ _ hij.symm, List.set_set, List.set_comm _ _ hij, List.set_set]
section
variable {M : Addr → Prop} {Γ Γ' : Ct} {Rs : List Res} {X : Cx} {Z0 Z Hl : Hp} {D : Ends} {K : PySem.W.Frag} {rest : List Stmt}
theorem ye_lcP {tg iter : Expr} {i0 j : Nat} (hij : i0 ≠ j) {tt : TT} {te : TE} {Qs : List Pd} (hi : XI M Γ Rs X tg iter Qs) (cv : Cov M Rs) (hz : Qs.length ≤ 100000) (R : Nat → List PyData → Prop) (r0 : R 0 [])
    (ht : ∀ (i : Nat) (Q : Pd), Qs[i]? = some Q → ∃ P1 P2, Q = PT2 X.K P1 P2 ∧ ∃ B, YT M (((wipeC Γ [i0, j]).set i0 (some P1)).set j (some P2)) Rs tt B ∧ (B true → YE M (((wipeC Γ [i0, j]).set i0 (some P1)).set j (some P2)) Rs te (PEx (fun d => ∀ ds, ds.length ≤ i → R i ds → R (i + 1) (ds ++ [d])) (PD K))) ∧ (B false → ∀ ds, R i ds → R (i + 1) ds)) :
    YE M Γ Rs (tLc (wpI X tg iter) (gTup X.K 2 (gCons (gName i0) (gCons (gName j) gNil))) tt te [i0, j]) (PEx (fun ds => R Qs.length ds ∧ ds.length ≤ Qs.length) fun ds => PD K (.list ds)) := fun σ H0 H l ex k Q q => hi σ H0 H l ex k _ fun J A0 G1 s1 k1 wk D hD => by
  have nr : ∀ r ∈ Rs, ∀ a ∈ r.ad, a ≠ D := fun r hr a ha e => by
    obtain ⟨⟨o, h1⟩, _⟩ := r.tr (k1.2 r hr) a ha
    rw [e, hD] at h1
    cases h1
  have nM : ¬ M D := fun z => by
    obtain ⟨o, h⟩ := cv A0 G1 k1 D z
    rw [hD] at h
    cases h
  refine ⟨fun i m G => m = Qs.length - i ∧ i ≤ Qs.length ∧ ∃ A acc ds, R i ds ∧ ds.length ≤ i ∧ Step M A0 G1 A G ∧ A D = none ∧ Rok Rs A G ∧ G D = some (.lst acc) ∧ DdAll K A ds acc, ⟨_, rfl, Nat.zero_le _, A0, [], [], r0, Nat.le_refl _, ?_, fresh_back s1.le hD, k1.wr nr, upd_same, rfl⟩, ?_⟩
  · exact ⟨fun a o _ h => by rw [upd_ne (ne_of_none h hD)]; exact h, fun a o h => ⟨o, by rw [upd_ne (ne_of_none h hD)]; exact h⟩, Ex.refl _, fun a o h => by rw [upd_ne (ne_of_none (s1.le a o h) hD)]; exact s1.le a o h, fun a o h => .inl h⟩
  · rintro i m G ⟨rfl, hi', A, acc, ds, hR, hlen, s2, aD, k2, gD, hdd⟩
    have w := wk A G s2.ex s2.le i
    by_cases hlt : i < Qs.length
    · have hq := List.getElem?_eq_getElem hlt
      obtain ⟨go, yl⟩ := w.1 _ hq
      obtain ⟨P1, P2, eQ, B, hB, hY, hN⟩ := ht i _ hq
      refine .inr ⟨go, fun G' => i + 1 ≤ Qs.length ∧ ∃ A acc ds, R (i + 1) ds ∧ ds.length ≤ i + 1 ∧ Step M A0 G1 A G' ∧ A D = none ∧ Rok Rs A G' ∧ G' D = some (.lst acc) ∧ DdAll K A ds acc, fun G' h => ⟨Qs.length - (i + 1), by omega, rfl, h⟩, fun x G2 y => ?_⟩
      obtain ⟨A2, s3, hx⟩ := yl x G2 y
      rw [eQ] at hx
      obtain ⟨pa, u1, u2, ex1, hsq, hu1, hu2⟩ := hx
      subst ex1
      refine ⟨pa, [u1, u2], rfl, ex_t s3.le hsq, rfl, u1, [u2], rfl, u2, [], rfl, rfl, wipe_pair hij, ?_⟩
      have s12 := s2.trans s3.of0
      have nw : ∀ {A' G' : Hp}, Step M A G A' G' → A' D = none := fun {A' G'} s => by
        cases e : A' D with
        | none => rfl
        | some o =>
          rcases s.nw D o e with z | z
          · rw [aD] at z
            cases z
          · rw [gD] at z
            cases z
      have lΓ : Sl (((wipeC Γ [i0, j]).set i0 (some P1)).set j (some P2)) (((L2.wipe σ [i0, j]).set i0 (some u1)).set j (some u2)) A2 := ((((l.ex s1.ex).ex (s2.ex.trans s3.ex)).wipe [i0, j]).set hu1).set hu2
      refine hB _ A2 G2 lΓ s3.le (k2.step0 s3) _ fun b A3 G3 s4 k4 hb => ?_
      cases b with
      | true =>
        refine hY hb _ A3 G3 (lΓ.ex s4.ex) s4.le k4 _ fun v A4 G4 s5 k5 ⟨d, hd, hv⟩ => ?_
        have s35 : Step M A G A4 G4 := (s3.of0.trans s4).trans s5
        have g4 : G4 D = some (.lst acc) := s35.un D _ nM gD
        refine ⟨acc, g4, ?_, hlt, A4, acc ++ [v], ds ++ [d], hd ds hlen hR, by simp; omega, ?_, nw s35, k5.wr nr, upd_same, DdAll.app (DdAll.ex s35.ex _ _ hdd) (DdAll.one hv)⟩
        · rw [hdd.len]
          have : (100000 : Nat) < sizeLine := by decide
          omega
        · have t := s2.trans s35
          refine ⟨fun a o hm h => ?_, fun a o h => ?_, t.ex, fun a o h => ?_, t.nw⟩
          · rw [upd_ne (ne_of_none h hD)]
            exact t.un a o hm h
          · obtain ⟨o', h'⟩ := t.th a o h
            exact ⟨o', by rw [upd_ne (ne_of_none h hD)]; exact h'⟩
          · have na : a ≠ D := fun e => by
              rw [e, nw s35] at h
              cases h
            rw [upd_ne na]
            exact t.le a o h
      | false =>
        have s34 : Step M A G A3 G3 := s3.of0.trans s4
        exact ⟨hlt, A3, acc, ds, hN hb ds hR, by omega, s2.trans s34, nw s34, k4, s34.un D _ nM gD, DdAll.ex s34.ex _ _ hdd⟩
    · have e : i = Qs.length := by omega
      subst e
      refine .inl ⟨w.2 rfl, q (.ref D) (upd A D (.lst acc)) G ?_ (k2.updA aD nr) ⟨ds, ⟨hR, hlen⟩, D, acc, rfl, upd_same, DdAll.ex (Ex.new aD) _ _ hdd⟩⟩
      have t := s1.trans s2
      refine ⟨t.un, t.th, t.ex.trans (Ex.new aD), fun a o h => ?_, fun a o h => ?_⟩
      · by_cases ha : a = D
        · subst ha
          rw [upd_same] at h
          rw [gD]
          exact h
        · rw [upd_ne ha] at h
          exact t.le a o h
      · by_cases ha : a = D
        · subst ha
          refine .inr ?_
          cases e : H a with
          | none => rfl
          | some u =>
            obtain ⟨u', h'⟩ := s1.th a u e
            rw [hD] at h'
            cases h'
        · rw [upd_ne ha] at h
          exact t.nw a o h
abbrev blkP (Γ : Ct) (i j : Nat) (P Q : Pd) : Ct := ((wipeC Γ [i, j]).set i (some P)).set j (some Q)
/-- [elt for x, y in iter], each elt as f tells -/
theorem xe_lcP (i0 j : Nat) (hij : i0 ≠ j) {x y : Str} {elt iter : Expr} {scope : Scope} {pos xp yp tp : Pos} {kt : Nat} {Qs : List Pd} (hi : XI M Γ Rs X (.Tuple [.Name x xp, .Name y yp] kt tp) iter Qs) (R : Nat → List PyData → Prop) (r0 : R 0 [])
    (ht : ∀ (i : Nat) (Q : Pd), Qs[i]? = some Q → ∃ P1 P2, Q = PT2 X.K P1 P2 ∧ Blk X scope fun Y => XE M (blkP Γ i0 j P1 P2) Rs Y elt (PEx (fun d => ∀ ds, ds.length ≤ i → R i ds → R (i + 1) (ds ++ [d])) (PD K))) (hN : X.N.Nodup)
    (ok : BlkOk X.N X.env.scope scope [(x, i0), (y, j)]) (hz : Qs.length ≤ 100000) (cv : Cov M Rs) (hg : ∀ (s : Shared) (H : Hp) (C : Addr) (cl : List (Str × Addr)) (fp : List Addr), PG (X.blk s H scope (compEnvC scope cl C X.env) fp) (.Tuple [.Name x xp, .Name y yp] kt tp) (gTup X.K 2 (gCons (gName i0) (gCons (gName j) gNil))))
    (hc : X.calm = true := by rfl) (hs : ∀ x, foldedSetIterable iter X.env x = pure x := by intro _; rfl) : XE M Γ Rs X (.ListComp elt [⟨.Tuple [.Name x xp, .Name y yp] kt tp, iter, [], 0⟩] scope pos) (LcP K Qs R) :=
  YE.wp (pe_lc (own := [(x, i0), (y, j)]) hc hN pi_wp ok hg (fun s H C cl fp => pts_nil) blk_ok hs) (ye_lcP hij hi cv hz R r0 fun i Q hq => by
    obtain ⟨P1, P2, e, h⟩ := ht i Q hq
    exact ⟨P1, P2, e, Is true, yt_yes, fun _ => ye_blk h, fun z => Bool.noConfusion z⟩)
end
end Lh
/-! Sets made by a comprehension of two clauses, without tests. -/
namespace Lh
open PySem L2 PySem.Spec PyProof.Rows
/-- `{b for t0 in i0 for t1 in i1}` -/
abbrev sx (b t0 i0 t1 i1 : Expr) (sco : Scope) (p : Pos) : Expr := .SetComp b [⟨t0, i0, [], 0⟩, ⟨t1, i1, [], 0⟩] sco p
theorem sx_turn0 (b t0 i0 t1 i1 : Expr) (sco : Scope) (p : Pos) (it D : Value) (env : Env) : compTurn (sx b t0 i0 t1 i1 sco p) 0 it D env = (do
    standAt i0.pos
    match ← pyNext it with
    | none => pure (.done .next)
    | some u =>
      letOwnedTupleGo t0 it u
      assign t0 env u
      let y ← eval i1 env
      standAt i1.pos
      let y ← foldedSetIterable i1 env y
      let _ ← runOwn (.compStart (sx b t0 i0 t1 i1 sco p) 1 (← holding [y] (pyIter y)) D env) env
      again (.compLoop (sx b t0 i0 t1 i1 sco p) 0 it D env)) := by rfl
theorem sx_turn1 (b t0 i0 t1 i1 : Expr) (sco : Scope) (p : Pos) (it D : Value) (env : Env) : compTurn (sx b t0 i0 t1 i1 sco p) 1 it D env = (do
    standAt i1.pos
    match ← pyNext it with
    | none => pure (.done .next)
    | some u =>
      letOwnedTupleGo t1 it u
      assign t1 env u
      (do let y ← eval b env; standAt b.pos; let _ ← call (.builtin "set.add") [D, y])
      again (.compLoop (sx b t0 i0 t1 i1 sco p) 1 it D env)) := by rfl
section
variable {prog : Program} {w : World} {A : Around} {R : Result → Shared → Prop} {s : Shared} {b t0 i0 t1 i1 : Expr} {sco : Scope} {p : Pos} {it D : Value} {env : Env}
/-- an error of a turn is noted and goes on -/
abbrev noted (prog : Program) (w : World) (A : Around) (env : Env) (R : Result → Shared → Prop) : Value → Shared → Prop := notedBy (model prog w) A env fun e s' => R (.error e) s'
theorem sx_loop0 (hf : ∀ y, foldedSetIterable i1 env y = pure y) (J : Nat → Shared → Prop)
    (step : ∀ m z, J m z → wpAny (model prog w) A (pyNext it) (fun r z1 => match r with
      | none => R (.ok .next) z1
      | some u => wpAny (model prog w) A (letOwnedTupleGo t0 it u) (fun _ z2 => wpAny (model prog w) A (assign t0 env u) (fun _ z3 =>
          wpAny (model prog w) A (eval i1 env) (fun y z4 => wpAny (model prog w) A (pyIter y) (fun it1 z5 =>
            codeAny (model prog w) A (.compStart (sx b t0 i0 t1 i1 sco p) 1 it1 D env) (fun r z6 => match r with
              | .ok _ => ∃ l, l < m ∧ J l z6
              | .error _ => False) z5) (noted prog w A env R) z4) (noted prog w A env R) z3) (noted prog w A env R) z2) (noted prog w A env R) z1) (noted prog w A env R) z)
    (m : Nat) (h : J m s) : codeAny (model prog w) A (.compLoop (sx b t0 i0 t1 i1 sco p) 0 it D env) R s := by
  refine codeAny_loop rfl J (fun m z hJ => ?_) m h
  show wpAny _ A ((compTurn (sx b t0 i0 t1 i1 sco p) 0 it D env).onRaise (fun x => do noteFrame x env; theTreesLotGoes x)) _ _ z
  refine wpAny_noted ?_
  rw [sx_turn0]
  refine wpAny_bind (wpAny_standAt (wpAny_bind (wpAny_mono (step m z hJ) (fun r z1 q1 => ?_) fun _ _ q => q)))
  cases r with
  | none => exact wpAny_pure q1
  | some u =>
    refine wpAny_bind (wpAny_mono q1 (fun _ z2 q2 => wpAny_bind (wpAny_mono q2 (fun _ z3 q3 => wpAny_bind (wpAny_mono q3 (fun y z4 q4 => ?_) fun _ _ q => q)) fun _ _ q => q)) fun _ _ q => q)
    refine wpAny_bind (wpAny_standAt (wpAny_bind (wpAny_of_eq (hf y) (wpAny_bind (wpAny_holding (wpAny_mono q4 (fun it1 z5 q5 => ?_) fun _ _ q => q))))))
    (refine wpAny_bind (wpAny_runOwn ?_); rw [Around.mark_none])
    refine codeAny_mono q5 fun r z6 q6 => ?_
    cases r with
    | error e => exact q6.elim
    | ok f =>
      first
        | exact wpAny_pure (And.intro rfl q6)
        | exact wpAny_bind (wpAny_pure (wpAny_pure (And.intro rfl q6)))
theorem sx_loop1 (J : Nat → Shared → Prop)
    (step : ∀ m z, J m z → wpAny (model prog w) A (pyNext it) (fun r z1 => match r with
      | none => R (.ok .next) z1
      | some u => wpAny (model prog w) A (letOwnedTupleGo t1 it u) (fun _ z2 => wpAny (model prog w) A (assign t1 env u) (fun _ z3 =>
          wpAny (model prog w) A (eval b env) (fun y z4 => wpAny (model prog w) A (call (.builtin "set.add") [D, y]) (fun _ z5 => ∃ l, l < m ∧ J l z5) (noted prog w A env R) z4)
            (noted prog w A env R) z3) (noted prog w A env R) z2) (noted prog w A env R) z1) (noted prog w A env R) z)
    (m : Nat) (h : J m s) : codeAny (model prog w) A (.compLoop (sx b t0 i0 t1 i1 sco p) 1 it D env) R s := by
  refine codeAny_loop rfl J (fun m z hJ => ?_) m h
  show wpAny _ A ((compTurn (sx b t0 i0 t1 i1 sco p) 1 it D env).onRaise (fun x => do noteFrame x env; theTreesLotGoes x)) _ _ z
  refine wpAny_noted ?_
  rw [sx_turn1]
  refine wpAny_bind (wpAny_standAt (wpAny_bind (wpAny_mono (step m z hJ) (fun r z1 q1 => ?_) fun _ _ q => q)))
  cases r with
  | none => exact wpAny_pure q1
  | some u =>
    refine wpAny_bind (wpAny_mono q1 (fun _ z2 q2 => wpAny_bind (wpAny_mono q2 (fun _ z3 q3 => wpAny_bind (wpAny_bind (wpAny_mono q3 (fun y z4 q4 => ?_) fun _ _ q => q))) fun _ _ q => q)) fun _ _ q => q)
    exact wpAny_bind (wpAny_standAt (wpAny_bind (wpAny_mono q4 (fun _ z5 q5 => wpAny_pure (wpAny_pure (And.intro rfl q5))) fun _ _ q => q)))
theorem sx_start1 (k0 : codeAny (model prog w) A (.compLoop (sx b t0 i0 t1 i1 sco p) 1 it D env) R s)
    (h : wpAny (model prog w) A (pyIter it) (fun it' z => codeAny (model prog w) A (.compLoop (sx b t0 i0 t1 i1 sco p) 1 it' D env) R z) (noted prog w A env R) s) :
    codeAny (model prog w) A (.compStart (sx b t0 i0 t1 i1 sco p) 1 it D env) R s := by
  refine codeAny_of_tree ?_
  show wpAny _ _ ((compStart (sx b t0 i0 t1 i1 sco p) 1 it D env).onRaise (fun x => do noteFrame x env; standAt theWindowsPlace)) _ _ s
  refine wpAny_notedAt ?_
  unfold compStart
  change wpAny _ _ (ask >>= _) _ _ s
  (refine wpAny_bind (wpAny_askSetting ?_); refine wpAny_ite ?_)
  split
  · first
      | exact wpAny_pure (And.intro rfl k0)
      | exact wpAny_bind (wpAny_pure (wpAny_pure (And.intro rfl k0)))
  · first
      | exact wpAny_bind (wpAny_rule (wpAny_bind (wpAny_standAt (wpAny_bind (wpAny_mono h (fun _ _ q => wpAny_pure (And.intro rfl q)) fun _ _ q => q)))))
      | (refine wpAny_bind (wpAny_rule ?_); show wpAny _ _ (standAt i1.pos >>= _) _ _ s; exact wpAny_bind (wpAny_standAt (wpAny_bind (wpAny_mono h (fun _ _ q => wpAny_pure (And.intro rfl q)) fun _ _ q => q))))
end
/-- a kind of set: what a new one is, and what adding makes of it -/
structure SK (P : Program) (w : World) where
  T : Type
  F : Addr → T → HO
  t0 : T
  nw : ∀ (H : Hp) (h : Heap), ObjOk P w H (h.push { cls := .type "set", dict := none, data := .set #[] 0 (.fresh 0 0 (!w.params.followText "set-order")) }) h.objs.size (F h.objs.size t0)
  ad : Hp → V → T → T → Prop
  add : ∀ (X : Cx), X.prog = P → X.w = w → ∀ (pins : List (Addr × Obj)) (σ : L2.St) (H : Hp) (s : Shared) (E : Value → Shared → Prop) (D : Addr) (t t' : T) (y : V) (v : Value) (Q : Value → Shared → Prop),
    Inv X pins σ H s → H D = some (F D t) → ad H y t t' → RelV y v → (∀ s', Inv X pins σ (upd H D (F D t')) s' → Q .none s') → wpAny (model P w) X.A (call (.builtin "set.add") [.ref D, v]) Q E s
/-- sets of ints, as the list of what was put in -/
def skI (P : Program) (w : World) : SK P w where
  T := List Int
  F := fun D ks => SetO w D (fun j => decide (j ∈ ks)) ks.length
  t0 := []
  nw := fun H h => setO_new ((setR_fresh w).congr fun k => by simp)
  ad := fun _ y ks ks' => ∃ k : Int, y = .int k ∧ ks.length + 1 < scanBound ∧ ks' = if k ∈ ks then ks else k :: ks
  add := by
    intro X eP ew pins σ H s E D ks ks' y v Q I hD ⟨k, ey, room, e'⟩ rv hQ
    subst eP ew ey
    obtain ⟨tk, rfl⟩ := rv
    refine setR_add (setO_get I hD) room fun h' sb new => ?_
    have new' : SetR X.w h' D (fun j => decide (j ∈ ks')) ks'.length := by
      have e1 : (if decide (k ∈ ks) = true then ks.length else ks.length + 1) = ks'.length := by
        rw [e']
        by_cases hk : k ∈ ks <;> simp [hk]
      rw [e1] at new
      refine new.congr fun j => ?_
      rw [e']
      by_cases hk : k ∈ ks
      · rw [if_pos hk]
        by_cases hj : j = k
        · subst hj
          simp [hk]
        · simp [hj]
      · rw [if_neg hk]
        by_cases hj : j = k <;> simp [hj]
    have there : ∃ u, h'.get? D = some u := by
      obtain ⟨u, _, _, _, hu, _⟩ := id new
      exact ⟨u, hu⟩
    exact hQ _ (I.write (e := D) (t' := s.toks + 1) (by rw [hD]; trivial) (.inl rfl) (fun c u hc hu => (sb.2 c hc).trans hu) there (setO_new new'))
section
variable {X : Cx}
/-- what the walk of the two clauses asks: W by the first one's turns, U by the second one's -/
def tS2 (S : SK X.prog X.w) (wi : TI) (g : TG) (wi1 : TI) (g1 : TG) (te : TE) (vs vs1 : List Nat) : TE := fun σ H Q =>
  wi σ H fun J H1 => ∀ D, H1 D = none → ∃ W : Nat → Nat → Hp → Prop, (∃ m, W 0 m (upd H1 D (S.F D S.t0))) ∧ ∀ i m G, W i m G →
    (J.stop i G ∧ Q (.ref D) G) ∨ (J.go i G ∧ ∀ x G', J.yld i G x G' → g x (L2.wipe σ vs) G' fun σ2 G2 => L2.wipe σ2 vs = L2.wipe σ vs ∧ wi1 σ2 G2 fun J1 G3 =>
      ∃ U : Nat → Nat → Hp → Prop, (∃ k, U 0 k G3) ∧ ∀ j k G, U j k G →
        (J1.stop j G ∧ ∃ m', m' < m ∧ W (i + 1) m' G) ∨ (J1.go j G ∧ ∀ y G', J1.yld j G y G' → g1 y (L2.wipe σ2 vs1) G' fun σ3 G4 => L2.wipe σ3 vs1 = L2.wipe σ2 vs1 ∧ te σ3 G4 fun z G5 =>
          ∃ t t', G5 D = some (S.F D t) ∧ S.ad G5 z t t' ∧ ∃ k', k' < k ∧ U (j + 1) k' (upd G5 D (S.F D t'))))
/-- for every block of the scope -/
abbrev OnBlk (X : Cx) (sco : Scope) (Y : Cx → Prop) : Prop := ∀ (z : Shared) (G : Hp) (C : Addr) (cl : List (PySem.Str × Addr)) (fp : List Addr), Y (X.blk z G sco (compEnvC sco cl C X.env) fp)
theorem pe_sx {S : SK X.prog X.w} {b t0 i0 t1 i1 : Expr} {sco : Scope} {own : List (PySem.Str × Nat)} {vs1 : List Nat} {p : Pos} {wi wi1 : TI} {g g1 : TG} {te : TE} (hc : X.calm = true) (hN : X.N.Nodup) (hi : PI X t0 i0 wi) (ok : BlkOk X.N X.env.scope sco own)
    (hv : ∀ i ∈ vs1, i ∈ own.map (·.2)) (hg : OnBlk X sco fun Y => PG Y t0 g) (hi1 : OnBlk X sco fun Y => PI Y t1 i1 wi1) (hg1 : OnBlk X sco fun Y => PG Y t1 g1) (he : OnBlk X sco fun Y => PE Y b te)
    (hs : ∀ y, foldedSetIterable i0 X.env y = pure y := by intro _; rfl) (hs1 : ∀ env y, foldedSetIterable i1 env y = pure y := by intro _ _; rfl) : PE X (sx b t0 i0 t1 i1 sco p) (tS2 S wi g wi1 g1 te (own.map (·.2)) vs1) := by
  refine ⟨fun pins z0 σ H Q I h => ?_⟩
  rw [PpSet.eval_SetComp]
  have free : ∀ y ∈ sco.names, y.2 = .free → ∃ c, X.env.cells.lookup y.1 = some c := fun y hy e => (ok.free y hy e).elim (fun k => I.ok.has _ (.inl k)) fun k => I.ok.has _ (.inr k)
  refine wpAny_comprehension_free (use := none) rfl hs (closure_ok free) ok.kind (fun y hy e => by rw [ok.uniq y hy, e]) (thn (hi.run pins z0 σ H _ I h) fun _ z1 hx => thn hx fun _ z2 h2 => ?_)
  obtain ⟨it, fp, tn, J, Y2, e, v2, T, st2, f2, q⟩ := h2
  subst e
  refine PpSet.newSet_ok (newEnv_comp ?_)
  generalize eD : z2.heap.objs.size = D
  obtain ⟨W, ⟨m0, w0⟩, turn⟩ := q D (v2.hok.fresh (Nat.le_of_eq eD))
  -- the set has come
  generalize hs3 : ({ z2 with heap := z2.heap.push { cls := .type "set", dict := none, data := .set #[] 0 (.fresh 0 0 (!X.w.params.followText "set-order")) } } : Shared) = z3
  have h3 : z3.heap = z2.heap.push { cls := .type "set", dict := none, data := .set #[] 0 (.fresh 0 0 (!X.w.params.followText "set-order")) } := by rw [← hs3]
  have v3 : Inv X pins σ (upd Y2 D (S.F D S.t0)) z3 := by
    rw [← hs3]
    have n := S.nw (upd Y2 D (S.F D S.t0)) z2.heap
    rw [eD] at n
    exact v2.laid (t' := z2.toks) (fun c o k => Heap.get?_push_of_some _ k) (Nat.le_of_eq eD) n
  have f3 : ∀ c ∈ fp, FpOk X pins (upd Y2 D (S.F D S.t0)) c ∧ c < z3.heap.objs.size := fun c hb => by
    obtain ⟨o, k, _⟩ := T.obj _ _ st2 c hb
    have lt := Heap.lt_size k
    refine ⟨⟨?_, (f2 c hb).2⟩, by rw [h3, Heap.size_push]; exact Nat.lt_succ_of_lt lt⟩
    rw [upd_ne (by rw [← eD]; exact Nat.ne_of_lt lt)]
    exact (f2 c hb).1
  have st3 : tn 0 z3.heap := T.keep _ _ _ st2 fun c _ o k => by rw [h3]; exact Heap.get?_push_of_some _ k
  have v4 := block_start v3 ok hN f3
  generalize hH3 : upd Y2 D (S.F D S.t0) = Y3 at v3 v4 w0 f3
  generalize hcl : cellsFrom (z3.heap.objs.size + 1) sco.names (cloFrom X.env.cells sco.names []) = cl at v4
  have pg := hg z3 Y3 z3.heap.objs.size cl fp
  have pi1 := hi1 z3 Y3 z3.heap.objs.size cl fp
  have pg1 := hg1 z3 Y3 z3.heap.objs.size cl fp
  have pe := he z3 Y3 z3.heap.objs.size cl fp
  show codeAny _ _ (.compStart (sx b t0 i0 t1 i1 sco p) 0 (.ref it) (.ref D) (compEnvC sco cl z3.heap.objs.size X.env)) (compPost (model X.prog X.w) X.A X.xe none _ (.ref D) z3.heap.objs.size) { z3 with heap := pushCells (z3.heap.push { cls := .type "dict", data := .dict #[] }) sco.names }
  generalize hce : compEnvC sco cl z3.heap.objs.size X.env = ce at v4 pg pi1 pg1 pe ⊢
  have eL0 : ce.locals = z3.heap.objs.size := by subst hce; rfl
  generalize hs4 : ({ z3 with heap := pushCells (z3.heap.push { cls := .type "dict", data := .dict #[] }) sco.names } : Shared) = z4 at v4 ⊢
  have st4 : tn 0 z4.heap := T.keep _ _ _ st3 fun c _ o k => by rw [← hs4]; exact pushCells_keeps _ _ _ _ (Heap.get?_push_of_some _ k)
  have stat : ∀ {σ' : L2.St} {H' : Hp} {z : Shared}, Inv (X.blk z3 Y3 sco ce fp) [] σ' H' z → (∀ c ∈ fp, H' c = none) → ∀ c ∈ fp, FpOk (X.blk z3 Y3 sco ce fp) [] H' c := fun {σ' H' z} I' hn c hb =>
    ⟨hn c hb, (I'.ok.exf c hb).1, I'.ok.exfs c hb, .inl hb, fun x d k => (I'.ok.exf c hb).2 x d k, fun a ha => absurd (show a ∈ ([] : List (Addr × Obj)) ++ [] from ha) (by simp)⟩
  -- between the turns of the first clause
  let At : Nat → Shared → Prop := fun n z => ∃ i G, Inv (X.blk z3 Y3 sco ce fp) [] (L2.wipe σ (own.map (·.2))) G z ∧ tn i z.heap ∧ (∀ c ∈ fp, G c = none) ∧ W i n G
  have loop : codeAny (model X.prog X.w) X.A (.compLoop (sx b t0 i0 t1 i1 sco p) 0 (.ref it) (.ref D) ce) (compPost (model X.prog X.w) X.A X.xe none (EP X pins σ Q) (.ref D) z3.heap.objs.size) z4 := by
    refine sx_loop0 (hs1 ce) At ?_ m0 ⟨0, Y3, v4, st4, fun c hb => (f3 c hb).1.1, w0⟩
    rintro n z5 ⟨i, Y5, v5, st5, n5, w5⟩
    rcases turn i n Y5 w5 with ⟨stop, qq⟩ | ⟨go, step⟩
    · refine thnF (T.done (X.blk z3 Y3 sco ce fp) rfl rfl rfl hc i [] z5 _ Y5 (fun _ _ => False) v5 (stat v5 n5) st5 stop) fun r z6 ⟨hr, v6⟩ => ?_
      subst hr
      -- the def goes on
      have v7 : Inv X pins σ Y5 z6 := v3.call' (ch := fp) v6.os v6.base v6.hok v6.bare fun c hb => ⟨(f3 c hb).1.2.2.2.1, (f3 c hb).1.2.1, (f3 c hb).1.2.2.2.2.1, (f3 c hb).1.2.2.2.2.2⟩
      have nC : Y5 z3.heap.objs.size = none := by
        rw [← eL0]
        exact v6.free
      obtain ⟨m, hn, _⟩ := v6.loc
      have hn' : z6.heap.Ns z3.heap.objs.size m := by
        rw [← eL0]
        exact hn
      obtain ⟨f0, f1, _, g3, f4, f5⟩ := v3.fpOk (Nat.le_refl _) nC
      exact ⟨m, hn', fun h'' sb => ⟨.ref D, Y5, v7.turned (t' := z6.toks) (fun c o hb k => (sb.2 c hb).trans k) f0 f1 g3 f4 f5, rfl, qq⟩⟩
    · refine thnF (T.item (X.blk z3 Y3 sco ce fp) rfl rfl rfl hc i [] z5 _ Y5 (fun _ _ => False) v5 (stat v5 n5) st5 go) fun r z6 ⟨u, hr, h6⟩ => ?_
      subst hr
      refine thnF h6 fun _ z7 ⟨x, Y7, v7, r7, y7, st7, n7⟩ => ?_
      have v7' := v7.pinned (stat v7 n7) (T.obj _ _ st7)
      refine thnF (pg.run _ z7 _ Y7 x u _ v7' r7 (step x Y7 y7)) fun _ z8 ⟨σ8, Y8, v8, hw8, q8⟩ => ?_
      refine thnF (pi1.run _ z8 σ8 Y8 _ v8 q8) fun _ z9 hx => thnF hx fun _ z10 h10 => ?_
      obtain ⟨it1, fp1, tn1, J1, Y10, e1, v10, T1, st10, f10, U, ⟨k0, u0⟩, turn1⟩ := h10
      subst e1
      have back : ∀ (j : Nat) v, (L2.wipe σ (own.map (·.2)))[j]? = some (some v) → (L2.wipe σ8 vs1)[j]? = some (some v) := fun j v k => by
        rw [← hw8] at k
        obtain ⟨k1, k2⟩ := wipe_some k
        rw [wipe_out fun z => k2 (hv j z)]
        exact k1
      have stat1 : ∀ {G : Hp}, (∀ c ∈ fp1, G c = none) → ∀ c ∈ fp1, FpOk (X.blk z3 Y3 sco ce fp) ([] ++ pinsAt fp z7.heap) G c := fun hn c hb => ⟨hn c hb, (f10 c hb).2⟩
      have loop1 : codeAny (model X.prog X.w) X.A (.compLoop (sx b t0 i0 t1 i1 sco p) 1 (.ref it1) (.ref D) ce)
          (fun r z => match r with
            | .ok _ => ∃ l, l < n ∧ At l z
            | .error _ => False) z10 := by
        refine sx_loop1 (fun k z => ∃ j G, Inv (X.blk z3 Y3 sco ce fp) ([] ++ pinsAt fp z7.heap) (L2.wipe σ8 vs1) G z ∧ tn1 j z.heap ∧ (∀ c ∈ fp1, G c = none) ∧ U j k G) ?_ k0
          ⟨0, Y10, v10.weak (wipe_length _ _) (fun j v k => (wipe_some k).1), st10, fun c hb => (f10 c hb).1, u0⟩
        rintro k z12 ⟨j, Y12, v12, st12, n12, w12⟩
        rcases turn1 j k Y12 w12 with ⟨stop1, m', hm, w'⟩ | ⟨go1, step1⟩
        · refine thnF (T1.done (X.blk z3 Y3 sco ce fp) rfl rfl rfl hc j _ z12 (L2.wipe σ8 vs1) Y12 (fun _ _ => False) v12 (stat1 n12) st12 stop1) fun r z13 ⟨hr, v13⟩ => ?_
          subst hr
          have pin : ∀ c ∈ fp, ∀ o, z7.heap.get? c = some o → z13.heap.get? c = some o ∧ Y12 c = none := fun c hb o k =>
            let z := v13.pin (c, o) (List.mem_append_right _ (List.mem_append_right _ (mem_pinsAt hb k)))
            ⟨z.1, z.2.1⟩
          refine ⟨m', hm, i + 1, Y12, (v13.unpinned (pins := [])).weak (by rw [wipe_length, wipe_length, ← wipe_length σ8 (own.map (·.2)), hw8, wipe_length]) back, T.keep _ _ _ st7 fun c hb o k => (pin c hb o k).1, fun c hb => ?_, w'⟩
          obtain ⟨o, k, _⟩ := T.obj _ _ st7 c hb
          exact (pin c hb o k).2
        · refine thnF (T1.item (X.blk z3 Y3 sco ce fp) rfl rfl rfl hc j _ z12 (L2.wipe σ8 vs1) Y12 (fun _ _ => False) v12 (stat1 n12) st12 go1) fun r z13 ⟨u1, hr, h13⟩ => ?_
          subst hr
          refine thnF h13 fun _ z14 ⟨x1, Y14, v14, r14, y14, st14, n14⟩ => ?_
          have v14' := v14.pinned (stat1 n14) (T1.obj _ _ st14)
          refine thnF (pg1.run _ z14 (L2.wipe σ8 vs1) Y14 x1 u1 _ v14' r14 (step1 x1 Y14 y14)) fun _ z15 ⟨σ15, Y15, v15, hw15, q15⟩ => ?_
          refine thnF (pe.run _ z15 σ15 Y15 _ v15 q15) fun v z16 ⟨y, Y16, v16, r16, t, t', d16, ad16, k', hk', u'⟩ => ?_
          refine S.add (X.blk z3 Y3 sco ce fp) rfl rfl _ σ15 Y16 z16 _ D t t' y v _ v16 d16 ad16 r16 fun z17 v17 => ?_
          have pin : ∀ c ∈ fp1, ∀ o, z14.heap.get? c = some o → z17.heap.get? c = some o ∧ (upd Y16 D (S.F D t')) c = none := fun c hb o k =>
            let z := v17.pin (c, o) (List.mem_append_right _ (List.mem_append_right _ (mem_pinsAt hb k)))
            ⟨z.1, z.2.1⟩
          refine ⟨k', hk', j + 1, _, v17.unpinned.weak (by rw [← hw15, wipe_length]) (fun j v k => by rw [← hw15] at k; exact (wipe_some k).1), T1.keep _ _ _ st14 fun c hb o k => (pin c hb o k).1, fun c hb => ?_, u'⟩
          obtain ⟨o, k, _⟩ := T1.obj _ _ st14 c hb
          exact (pin c hb o k).2
      exact sx_start1 loop1 (T1.self X.A 0 _ _ _ st10 loop1)
  exact PpSet.codeAny_compStart_set loop (T.self X.A 0 _ _ _ st4 loop)
end
end Lh
namespace Lh
open PySem L2
open Evl (Ex ex_l ex_t ex_rd fresh_back)
theorem asc_ext : ∀ {a b : List Int}, a.Pairwise (· < ·) → b.Pairwise (· < ·) → (∀ z, z ∈ a ↔ z ∈ b) → a = b
  | [], [], _, _, _ => rfl
  | [], y :: ys, _, _, h => absurd ((h y).2 List.mem_cons_self) (by simp)
  | x :: xs, [], _, _, h => absurd ((h x).1 List.mem_cons_self) (by simp)
  | x :: xs, y :: ys, ha, hb, h => by
    obtain ⟨a1, a2⟩ := List.pairwise_cons.mp ha
    obtain ⟨b1, b2⟩ := List.pairwise_cons.mp hb
    have e : x = y := by
      rcases List.mem_cons.mp ((h x).1 List.mem_cons_self) with k | k
      · exact k
      rcases List.mem_cons.mp ((h y).2 List.mem_cons_self) with q | q
      · exact q.symm
      have := b1 x k
      have := a1 y q
      omega
    subst e
    rw [asc_ext a2 b2 fun z => ⟨fun hz => ?_, fun hz => ?_⟩]
    · rcases List.mem_cons.mp ((h z).1 (List.mem_cons_of_mem _ hz)) with k | k
      · have := a1 z hz
        omega
      · exact k
    · rcases List.mem_cons.mp ((h z).2 (List.mem_cons_of_mem _ hz)) with k | k
      · have := b1 z hz
        omega
      · exact k
theorem nodup_le : ∀ {a b : List Int}, a.Nodup → (∀ z ∈ a, z ∈ b) → a.length ≤ b.length
  | [], b, _, _ => Nat.zero_le b.length
  | x :: xs, b, h, hs => by
    obtain ⟨hxs, h2⟩ := List.nodup_cons.mp h
    have hx := hs x List.mem_cons_self
    have := nodup_le (a := xs) (b := b.erase x) h2 fun z hz => (List.mem_erase_of_ne fun e => hxs (by rw [← e]; exact hz)).2 (hs z (List.mem_cons_of_mem _ hz))
    rw [List.length_erase_of_mem hx] at this
    have : 0 < b.length := List.length_pos_of_mem hx
    simp only [List.length_cons]
    omega
section
variable {M : Addr → Prop} {Γ Γ' : Ct} {Rs : List Res} {X : Cx} {Z0 Z Hl : Hp} {D : Ends} {K : PySem.W.Frag} {rest : List Stmt}
/-- the second clause's iterator, in each block -/
def wpIb (X : Cx) (sco : Scope) (tg iter : Expr) : TI := fun σ H R => ∀ (z : Shared) (G : Hp) (C : Addr) (cl : List (PySem.Str × Addr)) (fp : List Addr), wpI (X.blk z G sco (compEnvC sco cl C X.env) fp) tg iter σ H R
theorem onblk_pi {sco : Scope} {tg iter : Expr} : OnBlk X sco fun Y => PI Y tg iter (wpIb X sco tg iter) := fun z G C cl fp => ⟨fun pins s σ H R I h => h z G C cl fp pins s I⟩
theorem wipe_one {σ : L2.St} {i j : Nat} (hij : i ≠ j) {a : Option V} : L2.wipe ((L2.wipe σ [i, j]).set i a) [i, j] = L2.wipe σ [i, j] := by
  show ((((σ.set j none).set i none).set i a).set j none).set i none = (σ.set j none).set i none
  rw [List.set_set, List.set_comm _ _ hij, List.set_set, List.set_set]
abbrev blk1 (Γ : Ct) (i j : Nat) (Q : Pd) : Ct := (wipeC Γ [i, j]).set i (some Q)
/-- a thing has been laid that nothing here knows of -/
theorem Step.side {M : Addr → Prop} {A0 G1 A G : Hp} {D : Addr} {o : HO} (t : Step M A0 G1 A G) (hD : G1 D = none) (aD : A D = none) : Step M A0 G1 A (upd G D o) := by
  refine ⟨fun a u hm h => ?_, fun a u h => ?_, t.ex, fun a u h => ?_, t.nw⟩
  · rw [upd_ne (ne_of_none h hD)]
    exact t.un a u hm h
  · obtain ⟨u', h'⟩ := t.th a u h
    exact ⟨u', by rw [upd_ne (ne_of_none h hD)]; exact h'⟩
  · have na : a ≠ D := fun e => by
      rw [e, aD] at h
      cases h
    rw [upd_ne na]
    exact t.le a u h
theorem Step.none {M : Addr → Prop} {A G A' G' : Hp} {D : Addr} {o : HO} (s : Step M A G A' G') (aD : A D = none) (gD : G D = some o) : A' D = none := by
  cases e : A' D with
  | none => rfl
  | some o' =>
    rcases s.nw D o' e with z | z
    · rw [aD] at z
      cases z
    · rw [gD] at z
      cases z
/-- what has been put in so far -/
def InSet (ks : List Int) (R : List Int) (In : Int → Prop) : Prop := ks.Nodup ∧ (∀ z ∈ ks, z ∈ R) ∧ ∀ z, z ∈ ks ↔ In z
theorem InSet.put {ks R : List Int} {In In' : Int → Prop} {k : Int} (h : InSet ks R In) (hk : k ∈ R) (e : ∀ z, In' z ↔ In z ∨ z = k) : InSet (if k ∈ ks then ks else k :: ks) R In' := by
  obtain ⟨h1, h2, h3⟩ := h
  by_cases m : k ∈ ks
  · rw [if_pos m]
    refine ⟨h1, h2, fun z => ⟨fun hz => (e z).2 (.inl ((h3 z).1 hz)), fun hz => ?_⟩⟩
    rcases (e z).1 hz with q | q
    · exact (h3 z).2 q
    · rw [q]
      exact m
  · rw [if_neg m]
    refine ⟨List.nodup_cons.mpr ⟨m, h1⟩, fun z hz => ?_, fun z => ?_⟩
    · rcases List.mem_cons.mp hz with q | q
      · rw [q]
        exact hk
      · exact h2 z q
    · rw [List.mem_cons, e z, h3 z]
      exact Or.comm
theorem ye_sortSx {t0 i0 t1 i1 b : Expr} {sco : Scope} {i j : Nat} (hij : i ≠ j) {Qs : List Pd} (hi : XI M Γ Rs X t0 i0 Qs) (cv : Cov M Rs) (L : Nat → List Int) (R : List Int) (hR : R.Pairwise (· < ·)) (h64 : R.length < 64) (hm : ∀ z, z ∈ R ↔ ∃ n, n < Qs.length ∧ z ∈ L n)
    (h1 : ∀ (n : Nat) (Q : Pd), Qs[n]? = some Q → OnBlk X sco fun Y => XI M (blk1 Γ i j Q) Rs Y t1 i1 ((L n).map fun z => PD K (.int z)))
    (hb : ∀ (n : Nat) (Q : Pd), Qs[n]? = some Q → ∀ z ∈ L n, OnBlk X sco fun Y => XE M (blkG (blk1 Γ i j Q) j (PD K (.int z))) Rs Y b (PD K (.int z))) :
    YE M Γ Rs (tCB (rSortedSet X.w) (tCons (tS2 (skI X.prog X.w) (wpI X t0 i0) (gName i) (wpIb X sco t1 i1) (gName j) (wpEb X sco b) [i, j] [j]) tNil)) (PD K (.list (li R))) := fun σ H0 H l ex k Qf q => hi σ H0 H l ex k _ fun J A0 G1 s1 k1 wk D hD => by
  have nr : ∀ r ∈ Rs, ∀ a ∈ r.ad, a ≠ D := fun r hr a ha e => by
    obtain ⟨⟨o, h1⟩, _⟩ := r.tr (k1.2 r hr) a ha
    rw [e, hD] at h1
    cases h1
  have nM : ¬ M D := fun z => by
    obtain ⟨o, h⟩ := cv A0 G1 k1 D z
    rw [hD] at h
    cases h
  -- what stands in the set, and what the heap is
  let Cd : (Int → Prop) → Hp → Prop := fun In G => ∃ A ks, InSet ks R In ∧ Step M A0 G1 A G ∧ A D = none ∧ Rok Rs A G ∧ G D = some ((skI X.prog X.w).F D ks)
  refine ⟨fun n m G => m = Qs.length - n ∧ n ≤ Qs.length ∧ Cd (fun z => ∃ n', n' < n ∧ z ∈ L n') G, ⟨_, rfl, Nat.zero_le _, A0, [], ⟨List.nodup_nil, by simp, fun z => ⟨fun h => absurd h (by simp), fun ⟨n', h, _⟩ => absurd h (by omega)⟩⟩, (Step.rfl s1.le).side hD (fresh_back s1.le hD), fresh_back s1.le hD, k1.wr nr, upd_same⟩, ?_⟩
  rintro n m G ⟨rfl, hn, A, ks, hks, s2, aD, k2, gD⟩
  have w := wk A G s2.ex s2.le n
  by_cases hlt : n < Qs.length
  · have hq := List.getElem?_eq_getElem hlt
    obtain ⟨go, yl⟩ := w.1 _ hq
    refine .inr ⟨go, fun x G2 y => ?_⟩
    obtain ⟨A2, s3, hx⟩ := yl x G2 y
    have a2 := s3.none aD gD
    have g2 : G2 D = some ((skI X.prog X.w).F D ks) := s3.un D _ (fun z => z) gD
    refine ⟨wipe_one hij, ?_⟩
    have lΓ : Sl (blk1 Γ i j Qs[n]) ((L2.wipe σ [i, j]).set i (some x)) A2 := (((l.ex s1.ex).ex (s2.ex.trans s3.ex)).wipe [i, j]).set hx
    intro z0 G0 C cl fp
    refine h1 n _ hq z0 G0 C cl fp _ A2 G2 lΓ s3.le (k2.step0 s3) _ fun J1 A3 G3 s4 k4 wk1 => ?_
    have a3 := s4.none a2 g2
    have g3 : G3 D = some ((skI X.prog X.w).F D ks) := s4.un D _ nM g2
    have st3 : Step M A0 G1 A3 G3 := s2.trans (s3.of0.trans s4)
    refine ⟨fun c m G => m = (L n).length - c ∧ c ≤ (L n).length ∧ ∃ A ks, InSet ks R (fun z => (∃ n', n' < n ∧ z ∈ L n') ∨ z ∈ (L n).take c) ∧ Step M A0 G1 A G ∧ A D = none ∧ Rok Rs A G ∧ G D = some ((skI X.prog X.w).F D ks) ∧ Ex A3 A, ⟨_, rfl, Nat.zero_le _, A3, ks, ?_, st3, a3, k4, g3, Ex.refl _⟩, ?_⟩
    · exact ⟨hks.1, hks.2.1, fun z => by rw [hks.2.2 z]; simp⟩
    · rintro c m G4 ⟨rfl, hc, A4, ks4, hks4, s5, a4, k5, g4, ex4⟩
      have w1 := wk1 A4 G4 ex4 s5.le c
      by_cases hlt1 : c < (L n).length
      · have hz : (L n)[c]? = some (L n)[c] := List.getElem?_eq_getElem hlt1
        obtain ⟨go1, yl1⟩ := w1.1 (PD K (.int (L n)[c])) (by rw [List.getElem?_map, hz]; rfl)
        refine .inr ⟨go1, fun y1 G5 hy => ?_⟩
        obtain ⟨A5, s6, hx5⟩ := yl1 y1 G5 hy
        have a5 := s6.none a4 g4
        have g5 : G5 D = some ((skI X.prog X.w).F D ks4) := s6.un D _ (fun z => z) g4
        refine ⟨by
          show ((((L2.wipe σ [i, j]).set i (some x)).set j none).set j (some y1)).set j none = ((L2.wipe σ [i, j]).set i (some x)).set j none
          rw [List.set_set, List.set_set], ?_⟩
        have l5 : Sl (blkG (blk1 Γ i j Qs[n]) j (PD K (.int (L n)[c]))) ((L2.wipe ((L2.wipe σ [i, j]).set i (some x)) [j]).set j (some y1)) A5 := (((lΓ.ex s4.ex).ex (ex4.trans s6.ex)).wipe [j]).set hx5
        have hzm : (L n)[c] ∈ L n := List.getElem_mem hlt1
        intro z0 G0 C cl fp
        refine hb n _ hq _ hzm z0 G0 C cl fp _ A5 G5 l5 s6.le (k5.step0 s6) _ fun v A6 G6 s7 k7 hv => ?_
        obtain rfl : v = .int (L n)[c] := hv
        have a6 := s7.none a5 g5
        have g6 : G6 D = some ((skI X.prog X.w).F D ks4) := s7.un D _ nM g5
        have hzR : (L n)[c] ∈ R := (hm _).2 ⟨n, hlt, hzm⟩
        have hle : ks4.length ≤ R.length := nodup_le hks4.1 hks4.2.1
        have t6 : Step M A0 G1 A6 G6 := s5.trans (s6.of0.trans s7)
        refine ⟨ks4, _, g6, ⟨_, rfl, by unfold scanBound; omega, rfl⟩, (L n).length - (c + 1), by omega, rfl, hlt1, A6, _, hks4.put hzR fun z => ?_, t6.side hD a6, a6, k7.wr nr, upd_same, ex4.trans (s6.ex.trans s7.ex)⟩
        rw [List.take_add_one, hz, List.mem_append, ← or_assoc]
        simp
      · have e : c = (L n).length := by omega
        subst e
        refine .inl ⟨w1.2 (by simp), Qs.length - (n + 1), by omega, rfl, hlt, A4, ks4, ⟨hks4.1, hks4.2.1, fun z => ?_⟩, s5, a4, k5, g4⟩
        rw [hks4.2.2 z, List.take_length]
        constructor
        · rintro (⟨n', h, h'⟩ | h)
          · exact ⟨n', by omega, h'⟩
          · exact ⟨n, by omega, h⟩
        · rintro ⟨n', h, h'⟩
          by_cases en : n' = n
          · subst en
            exact .inr h'
          · exact .inl ⟨n', by omega, h'⟩
  · have e : n = Qs.length := by omega
    subst e
    have hle : ks.length ≤ R.length := nodup_le hks.1 hks.2.1
    refine .inl ⟨w.2 rfl, D, _, _, rfl, gD, by omega, fun ns p hp hn _ hfr => ?_⟩
    have en : ns = R := asc_ext hp hR fun z => by
      rw [hn z, hm z, decide_eq_true_eq, hks.2.2 z]
    subst en
    have t : Step M H0 H A G := s1.trans s2
    exact q (.ref p) (upd A p (.lst (ns.map V.int))) _ (t.trans (Step.new t.le hfr)) (k2.step0 (Step.new t.le hfr)) ⟨p, _, rfl, upd_same, DdAll.of_ints _⟩
/-- sorted({b for x in i0 for y in i1}), of ints -/
theorem xe_sortSx (i j : Nat) (hij : i ≠ j) {x y : Str} {i0 i1 b : Expr} {sco : Scope} {xp yp p pos sp : Pos} {Qs : List Pd} (hm : X.mg "sorted" = none) (hi : XI M Γ Rs X (.Name x xp) i0 Qs) (L : Nat → List Int) (R : List Int) (hR : R.Pairwise (· < ·)) (h64 : R.length < 64) (hmem : ∀ z, z ∈ R ↔ ∃ n, n < Qs.length ∧ z ∈ L n)
    (h1 : ∀ (n : Nat) (Q : Pd), Qs[n]? = some Q → OnBlk X sco fun Y => XI M (blk1 Γ i j Q) Rs Y (.Name y yp) i1 ((L n).map fun z => PD X.K (.int z)))
    (hb : ∀ (n : Nat) (Q : Pd), Qs[n]? = some Q → ∀ z ∈ L n, OnBlk X sco fun Y => XE M (blkG (blk1 Γ i j Q) j (PD X.K (.int z))) Rs Y b (PD X.K (.int z))) (hN : X.N.Nodup) (ok : BlkOk X.N X.env.scope sco [(x, i), (y, j)]) (cv : Cov M Rs) (hg : BlkG X sco x xp i) (hg1 : BlkG X sco y yp j)
    (hc : X.calm = true := by rfl) (hgl : Gl X "sorted" := by rfl) (hs : ∀ y, foldedSetIterable i0 X.env y = pure y := by intro _; rfl) (hs1 : ∀ env y, foldedSetIterable i1 env y = pure y := by intro _ _; rfl) :
    XE M Γ Rs X (.Call (.Name "sorted" p) [sx b (.Name x xp) i0 (.Name y yp) i1 sco sp] [] pos) (PD X.K (.list (li R))) :=
  YE.wp (pe_callB (cr_sortedSet hc) hgl hm (by decide +kernel) (pa_cons (pe_sx (own := [(x, i), (y, j)]) (vs1 := [j]) hc hN pi_wp ok (by simp) hg onblk_pi hg1 blk_ok hs hs1) pa_nil)) (ye_sortSx hij hi cv L R hR h64 hmem h1 hb)
end
end Lh
namespace Lh
open PySem L2
open Evl (Ex ex_l ex_t ex_rd fresh_back)
theorem eqvAll_li : ∀ a b : List Int, PyData.eqvAll (li a) (li b) = decide (a = b)
  | [], [] => rfl
  | [], _ :: _ => rfl
  | _ :: _, [] => rfl
  | x :: xs, y :: ys => by
    show ((x == y) && PyData.eqvAll (li xs) (li ys)) = _
    rw [eqvAll_li xs ys]
    by_cases h : x = y
    · subst h
      simp
    · simp [h]
theorem eqv_li (a b : List Int) : PyData.eqv (.list (li a)) (.list (li b)) = decide (a = b) := eqvAll_li a b
theorem eqv_tli (a b : List Int) : PyData.eqv (.tuple (li a)) (.tuple (li b)) = decide (a = b) := eqvAll_li a b
def isNone : PyData → Bool
  | .none => true
  | _ => false
theorem Dd.isNone {K : PySem.W.Frag} {H : Hp} {d : PyData} {x : V} (h : Dd K H d x) : decide (x = .non) = isNone d := by
  cases d with
  | none =>
    have e : x = .non := h
    subst e
    rfl
  | bool _ =>
    have e : x = .bl _ := h
    subst e
    rfl
  | int _ =>
    have e : x = .int _ := h
    subst e
    rfl
  | str _ =>
    have e : x = .str _ := h
    subst e
    rfl
  | list _ =>
    obtain ⟨_, _, e, _⟩ := h
    subst e
    rfl
  | tuple _ =>
    obtain ⟨_, _, e, _⟩ := h
    subst e
    rfl
  | dict _ => exact h.elim
section
variable {M : Addr → Prop} {Γ Γ' : Ct} {Rs : List Res} {X : Cx} {Z0 Z Hl : Hp} {D : Ends} {K : PySem.W.Frag} {rest : List Stmt} {a b c e : Expr} {es : List Expr} {pos p : Pos} {i j k : Int}
theorem xe_neLi {ns ms : List Int} {n : Nat} (hr : Room n X.A) (ha : XE M Γ Rs X a (PD X.K (.list (li ns)))) (hb : XE M Γ Rs X b (PD X.K (.list (li ms)))) : XE M Γ Rs X (.Compare a [.NotEq] [b] pos) (PD X.K (.bool (!decide (ns = ms)))) :=
  YE.dat (xe_neD hr ha hb (shaped_li ns) (shaped_li ms)) (by rw [eqv_li])
theorem xt_neLi {ns ms : List Int} {n : Nat} (hr : Room n X.A) (ha : XE M Γ Rs X a (PD X.K (.list (li ns)))) (hb : XE M Γ Rs X b (PD X.K (.list (li ms)))) : XT M Γ Rs X (.Compare a [.NotEq] [b] pos) (Is (!decide (ns = ms))) :=
  YT.eq (xt_neD hr ha hb (shaped_li ns) (shaped_li ms)) (by rw [eqv_li])
theorem xe_eqLi {ns ms : List Int} {n : Nat} (hr : Room n X.A) (ha : XE M Γ Rs X a (PD X.K (.list (li ns)))) (hb : XE M Γ Rs X b (PD X.K (.list (li ms)))) : XE M Γ Rs X (.Compare a [.Eq] [b] pos) (PD X.K (.bool (decide (ns = ms)))) :=
  YE.dat (xe_eqD hr ha hb (shaped_li ns) (shaped_li ms)) (by rw [eqv_li])
theorem xt_eqLi {ns ms : List Int} {n : Nat} (hr : Room n X.A) (ha : XE M Γ Rs X a (PD X.K (.list (li ns)))) (hb : XE M Γ Rs X b (PD X.K (.list (li ms)))) : XT M Γ Rs X (.Compare a [.Eq] [b] pos) (Is (decide (ns = ms))) :=
  YT.eq (xt_eqD hr ha hb (shaped_li ns) (shaped_li ms)) (by rw [eqv_li])
theorem xe_isV {d : PyData} (h : XE M Γ Rs X a (PD X.K d)) {kc : Nat} {pc : Pos} : XE M Γ Rs X (.Compare a [.Is] [.Constant .none kc pc] pos) (PD X.K (.bool (isNone d))) :=
  xe_cmp op_isN h (xe_non (K := X.K)) (fun x y H0 H hx hy e _ => by
    have hy' : y = .non := hy
    refine Yld.val (z := .bl (decide (x = .non))) (C := PD X.K (.bool (isNone d))) e ?_ fun Q q => ⟨hy', q⟩
    rw [Dd.isNone hx]
    rfl) (by rfl)
theorem xe_notV {d : PyData} (h : XE M Γ Rs X a (PD X.K d)) {kc : Nat} {pc : Pos} : XE M Γ Rs X (.Compare a [.IsNot] [.Constant .none kc pc] pos) (PD X.K (.bool (!isNone d))) :=
  xe_cmp op_notN h (xe_non (K := X.K)) (fun x y H0 H hx hy e _ => by
    have hy' : y = .non := hy
    refine Yld.val (z := .bl (!decide (x = .non))) (C := PD X.K (.bool (!isNone d))) e ?_ fun Q q => ⟨hy', q⟩
    rw [Dd.isNone hx]
    rfl) (by rfl)
theorem xt_isV {d : PyData} (h : XE M Γ Rs X a (PD X.K d)) {kc : Nat} {pc : Pos} : XT M Γ Rs X (.Compare a [.Is] [.Constant .none kc pc] pos) (Is (isNone d)) :=
  xt_cmp (K := X.K) op_isN h (xe_non (K := X.K)) (fun x y H0 H hx hy e _ => by
    have hy' : y = .non := hy
    refine (Yld.val (z := .bl (decide (x = .non))) (C := PD X.K (.bool (isNone d))) e ?_ fun Q q => ⟨hy', q⟩).pb
    rw [Dd.isNone hx]
    rfl) (by rfl)
theorem xt_notV {d : PyData} (h : XE M Γ Rs X a (PD X.K d)) {kc : Nat} {pc : Pos} : XT M Γ Rs X (.Compare a [.IsNot] [.Constant .none kc pc] pos) (Is (!isNone d)) :=
  xt_cmp (K := X.K) op_notN h (xe_non (K := X.K)) (fun x y H0 H hx hy e _ => by
    have hy' : y = .non := hy
    refine (Yld.val (z := .bl (!decide (x = .non))) (C := PD X.K (.bool (!isNone d))) e ?_ fun Q q => ⟨hy', q⟩).pb
    rw [Dd.isNone hx]
    rfl) (by rfl)
theorem xt_and3B {u v w : Bool} (h : XT M Γ Rs X a (Is u)) (h' : u = true → XT M Γ Rs X b (Is v)) (h'' : u = true → v = true → XT M Γ Rs X c (Is w)) : XT M Γ Rs X (.BoolOp .And [a, b, c] pos) (Is (u && (v && w))) := (xt_and3 h (fun z => h' z.symm) fun z z' => h'' z.symm z'.symm).imp fun t ht => by
  rcases ht with ⟨q, rfl⟩ | ⟨q, ⟨r, rfl⟩ | ⟨r, q2⟩⟩
  · have q' : false = u := q
    show false = _
    rw [← q']
    rfl
  · have q' : true = u := q
    have r' : false = v := r
    show false = _
    rw [← q', ← r']
    rfl
  · have q' : true = u := q
    have r' : true = v := r
    have s' : t = w := q2
    show t = _
    rw [← q', ← r', s']
    rfl
end
/-! ### the law's own def -/
section
variable {K : PySem.W.Frag} {mg : Str → Option Value} {base : Heap} {P : Program} {w : World}
abbrev spLaw (K : PySem.W.Frag) : Sp := fun vs H Q _ => ∃ (a : Addr) (ns : List Int), vs = [.ref a] ∧ SqL K H a (ns.map V.int) ∧ ns.length ≤ 63 ∧ (∀ z ∈ ns, Builtin.Int.intBits z ≤ 1048576) ∧ ∀ H', Q (.bl true) H'
theorem fn_L {x qual : Str} {st : Stmt} {f : Addr} {fd : FuncData} {N ps : List Str} {k : Nat} (F : Fun K x qual st f fd) (S : FnScope N ps (defScope st)) (len : ps.length = 1)
    (hb : ∀ (ns : List Int) (Z0 Z : Hp) (Q : VK) (X : Cx) (qX : ∃ (cdv : Value) (A : Around) (outer : List Env) (s : Shared) (E : XK), X = (cxOf CX0 P w K mg base N qual (defScope st) f cdv A outer s Z E).nox ∧ Room k X.A), (∀ H', Q (.bl true) H') →
      XS M0 (ctOf N [PSc K ns]) [] X Z0 Z Z0 { nx := fun _ H' => Q .non H', rt := Q } (defBody st)) : FnOk P w K mg base CX0 (k + 1) f fd ps (spLaw K) := by
  refine F.ok S (fun vs H Q E h => ?_) (fun cdv A outer s H vs Q E hr h => ?_)
  · obtain ⟨a, ns, e, _⟩ := h
    rw [e, len]
    rfl
  · obtain ⟨a, ns, e, h1, _, _, q⟩ := h
    subst e
    exact ⟨_, pss_wp, hb ns H H Q _ ⟨cdv, A, outer, s, E, rfl, hr⟩ q _ H H (sl_start (DAll.cons ⟨a, rfl, h1⟩ DAll.nil)) (Step.rfl (Ex.refl _)) (Ex.refl _) Rok.nil⟩
end
theorem mb_ad {b l a : Addr} (h : MB b l a) : a ∈ (Res.box b l).ad := by
  have h' : a = b ∨ a = l := h
  simpa [Res.box] using h'
end Lh
/-! Lists that an expression makes anew and that still change; an item of such a list added to. -/
namespace Lh
open PySem L2
open Evl (Ex ex_l ex_t ex_rd fresh_back)
section
variable {M : Addr → Prop} {Γ Γ' : Ct} {Rs : List Res} {X : Cx} {Z0 Z Hl : Hp} {D : Ends} {K : PySem.W.Frag} {rest : List Stmt} {a b e o : Expr} {pos : Pos}
/-- t makes a new list of these things -/
def FE (M : Addr → Prop) (Γ : Ct) (Rs : List Res) (t : TE) (Ps : List Pd) : Prop := ∀ (σ : L2.St) (H0 H : Hp), Sl Γ σ H0 → Ex H0 H → Rok Rs H0 H → ∀ Q : VK,
  (∀ (p : Addr) (vs : List V) (H1 G1 : Hp), Step M H0 H H1 G1 → Rok Rs H1 G1 → G1 p = none → DAll Ps vs H1 → Q (.ref p) (upd G1 p (.lst vs))) → t σ H Q
theorem FE.wp {t : TE} {Ps : List Pd} (h : PE X e t) (y : FE M Γ Rs t Ps) : FE M Γ Rs (wpE X e) Ps := fun σ H0 H l ex r Q q => PE.wp h (y σ H0 H l ex r Q q)
/-- [..] * k -/
theorem fe_rep {ds : List PyData} {k : Int} (ha : XE M Γ Rs X a (PD X.K (.list ds))) (hb : XE M Γ Rs X b (PD X.K (.int k))) (hk : -(2 ^ 63) ≤ k ∧ k < 2 ^ 63) (hz : ds.length * k.toNat ≤ 1000000) :
    FE M Γ Rs (wpE X (.BinOp a .Mult b pos)) ((List.replicate k.toNat ds).flatten.map (PD X.K)) :=
  FE.wp (pe_op op_rep pe_wp pe_wp) fun σ H0 H l ex r Q q => ha σ H0 H l ex r _ fun x H1 G1 s1 k1 hx => hb σ H1 G1 (l.ex s1.ex) s1.le k1 _ fun y H2 G2 s2 k2 hy => by
    obtain ⟨c, xs, e1, h1, h2⟩ := hx
    have e2 : y = .int k := hy
    subst e1 e2
    refine ⟨c, k, xs, rfl, rfl, s2.le _ _ (s2.ex _ _ h1), hk.1, hk.2, by rw [h2.len]; exact sl_big hz, fun p hp => ?_⟩
    exact q p _ H2 G2 (s1.trans s2) k2 hp (dd_rep (DdAll.ex s2.ex _ _ h2) _).da
/-- y = e, a new list that may still change -/
theorem xs_newF (i : Nat) {x : Str} {Ps : List Pd} {pos' : Pos} (h : FE M Γ Rs (wpE X e) Ps) (k : ∀ q, XS M (Γ.set i (some (PV (.ref q)))) (Res.lst Z q Ps :: Rs) X Z0 Z Hl D rest) (cv : Cov M Rs) (hN : X.N.Nodup)
    (hi : X.N[i]? = some x := by rfl) (hx : Loc X.env.scope x := by first | exact Or.inl rfl | exact Or.inr rfl) (hs : swapsWith e (some (.Name x pos')) pos.line X.env = pure false := by rfl) (hf : X.fn x = true ∨ X.env.scope.names.lookup x = some .local := by first | exact .inl rfl | exact .inr rfl) :
    XS M Γ Rs X Z0 Z Hl D (.Assign [.Name x pos'] e pos :: rest) :=
  xs_cons (ps_set hN hi hx pe_wp hs hf) fun σ H0 H l s b r => h σ H0 H l s.le r _ fun p vs H1 G1 s1 k1 hp a1 => by
    have t := s.trans s1
    have ne : ∀ r ∈ Rs, ∀ a ∈ r.ad, a ≠ p := fun r hr a ha e => by
      obtain ⟨⟨o, h1⟩, _⟩ := r.tr (k1.2 r hr) a ha
      rw [e, hp] at h1
      cases h1
    have hZ : Z p = none := by
      cases e : Z p with
      | none => rfl
      | some o =>
        obtain ⟨o', h'⟩ := t.th p o e
        rw [hp] at h'
        cases h'
    have aN := fresh_back s1.le hp
    refine k p _ H1 _ ((l.ex s1.ex).set (P := PV (.ref p)) rfl) ⟨fun a o hm ha => ?_, fun a o ha => ?_, t.ex, fun a o ha => ?_, t.nw⟩ (b.trans s1.ex) ⟨?_, fun r hr => ?_⟩
    · rw [upd_ne (ne_of_none ha hZ)]
      exact t.un a o hm ha
    · obtain ⟨o', h'⟩ := t.th a o ha
      exact ⟨o', by rw [upd_ne (ne_of_none h' hp)]; exact h'⟩
    · rw [upd_ne (ne_of_none (t.le a o ha) hp)]
      exact t.le a o ha
    · rw [List.flatMap_cons, List.nodup_append]
      refine ⟨by simp [Res.lst], k1.1, fun a ha c hc e => ?_⟩
      have e1 : a = p := by simpa [Res.lst] using ha
      obtain ⟨r, hr, hc⟩ := List.mem_flatMap.mp hc
      exact ne r hr c hc (e ▸ e1)
    · obtain e | hr := List.mem_cons.mp hr
      · subst e
        exact ⟨hZ, aN, vs, upd_same, a1⟩
      · exact (k1.wr ne).2 r hr
/-- an item, by values -/
theorem get_lst : PGet X (rIxL X.K) := by
  intro pins z σ G o k vo vk Q J ro rk h
  obtain ⟨c, us, n, y, rfl, rfl, hc, hy, done⟩ := h
  cases ro
  obtain ⟨tk, rfl⟩ := rk
  obtain ⟨es, rel, plain, _⟩ := J.list hc
  obtain ⟨m, g1, g2, _, g4, g5⟩ := atI_get hy
  obtain ⟨val, hval, rval⟩ := rel.get g2
  have len := rel.length
  have big := line63
  have fin : EP X pins σ Q val z := ⟨y, G, J, rval, done⟩
  by_cases neg : n < 0
  · have place : (n + (es.toArray.size : Int)).toNat = m := by
      rw [seqIndex_neg neg g4] at g1
      rw [List.size_toArray, ← len]
      exact Option.some.inj g1
    refine wpAny_getItem_list_neg plain.isList neg ?_ (by omega) ?_ fin
    · rw [List.size_toArray]
      omega
    · rw [place]
      simpa using hval
  · have place : n.toNat = m := by
      rw [seqIndex_of (by omega) g5] at g1
      exact Option.some.inj g1
    refine wpAny_getItem_list plain.isList (by omega) (by omega) ?_ fin
    rw [place]
    simpa using hval
/-- o[i] += e, ints -/
theorem xs_addS {q : Addr} {i : Expr} {ns : List Int} {k n : Int} {tpos : Pos} {Ps : List Pd} (eP : Ps = (li ns).map (PD X.K)) (ho : XE M Γ (Res.lst Z q Ps :: Rs) X o (PV (.ref q))) (hi : XE M Γ (Res.lst Z q Ps :: Rs) X i (PD X.K (.int k))) (he : XE M Γ (Res.lst Z q Ps :: Rs) X e (PD X.K (.int n))) (hk : 0 ≤ k ∧ k < ns.length)
    (h : XS M Γ (Res.lst Z q ((li (ns.set k.toNat (ns.getD k.toNat 0 + n))).map (PD X.K)) :: Rs) X Z0 Z Hl D rest)
    (ha : ∀ ov iv new, augStore i ov iv new = (do holding [new, ov, iv] (setItem ov iv new); release [new, ov, iv] []; pure .next) := by intros; rfl) : XS M Γ (Res.lst Z q Ps :: Rs) X Z0 Z Hl D (.AugAssign (.Subscript o i tpos) .Add e pos :: rest) := by
  subst eP
  refine xs_cons (ps_augS pe_wp pe_wp get_lst pe_wp ip_add set_list ha) fun σ H0 H l s b r => ho σ H0 H l s.le r _ fun v1 H1 G1 s1 k1 hv1 => hi σ H1 G1 (l.ex s1.ex) s1.le k1 _ fun v2 H2 G2 s2 k2 hv2 => ?_
  have e1 : v1 = .ref q := hv1
  have e2 : v2 = .int k := hv2
  subst e1 e2
  obtain ⟨_, _, xs, hq, hd⟩ := k2.2 _ List.mem_cons_self
  have ex1 := hd.dd.ints
  subst ex1
  have hlt : k.toNat < ns.length := by omega
  have ek : k = (k.toNat : Int) := by omega
  have hn : (ns.map V.int)[k.toNat]? = some (V.int (ns.getD k.toNat 0)) := by
    rw [List.getElem?_map, List.getD_eq_getElem?_getD, List.getElem?_eq_getElem hlt]
    rfl
  have hat : atI (ns.map V.int) k = some (V.int (ns.getD k.toNat 0)) := by
    rw [ek]
    exact atI_nat hn
  refine ⟨q, _, k, _, rfl, rfl, SqL.of hq, hat, he σ H2 G2 (l.ex (s1.ex.trans s2.ex)) s2.le k2 _ fun v3 H3 G3 s3 k3 hv3 => ?_⟩
  have e3 : v3 = .int n := hv3
  subst e3
  obtain ⟨hz0, h0, xs3, hq3, hd3⟩ := k3.2 _ List.mem_cons_self
  have ex3 := hd3.dd.ints
  subst ex3
  refine ⟨_, _, rfl, rfl, q, _, k, k.toNat, rfl, rfl, hq3, ?_, ?_⟩
  · rw [ek]
    exact Evl.ixN_nat (by rw [List.length_map]; omega)
  have eset : (ns.map V.int).set k.toNat (V.int (ns.getD k.toNat 0 + n)) = (ns.set k.toNat (ns.getD k.toNat 0 + n)).map V.int := (List.map_set ..).symm
  rw [eset]
  have t := ((s.trans s1).trans s2).trans s3
  have nd := k3.1
  rw [List.flatMap_cons, List.nodup_append] at nd
  have ne : ∀ r ∈ Rs, ∀ a ∈ r.ad, a ≠ q := fun r hr a ha e => nd.2.2 q (by simp [Res.lst]) a (List.mem_flatMap.mpr ⟨r, hr, ha⟩) e.symm
  have kr : Rok Rs H3 G3 := ⟨nd.2.1, fun r hr => k3.2 r (List.mem_cons_of_mem _ hr)⟩
  refine h _ H3 _ (l.ex ((s1.ex.trans s2.ex).trans s3.ex)) ⟨fun a o hm ha => ?_, fun a o ha => ?_, t.ex, fun a o ha => ?_, t.nw⟩ (b.trans ((s1.ex.trans s2.ex).trans s3.ex)) ⟨k3.1, fun r hr => ?_⟩
  · rw [upd_ne (ne_of_none ha hz0)]
    exact t.un a o hm ha
  · obtain ⟨o', h'⟩ := t.th a o ha
    by_cases c : a = q
    · rw [c]
      exact ⟨_, upd_same⟩
    · exact ⟨o', by rw [upd_ne c]; exact h'⟩
  · have na : a ≠ q := fun e => by
      rw [e, h0] at ha
      cases ha
    rw [upd_ne na]
    exact t.le a o ha
  · obtain e | hr := List.mem_cons.mp hr
    · subst e
      exact ⟨hz0, h0, _, upd_same, (DdAll.of_ints _).da⟩
    · exact (kr.wr ne).2 r hr
/-! ### tuples of ints side by side -/
theorem xt_neTu {a b : Expr} {ns ms : List Int} {n : Nat} (hr : Room n X.A) (ha : XE M Γ Rs X a (PD X.K (.tuple (li ns)))) (hb : XE M Γ Rs X b (PD X.K (.tuple (li ms)))) : XT M Γ Rs X (.Compare a [.NotEq] [b] pos) (Is (!decide (ns = ms))) :=
  YT.eq (xt_neD hr ha hb (shaped_li ns) (shaped_li ms)) (by rw [eqv_tli])
theorem xt_eqTu {a b : Expr} {ns ms : List Int} {n : Nat} (hr : Room n X.A) (ha : XE M Γ Rs X a (PD X.K (.tuple (li ns)))) (hb : XE M Γ Rs X b (PD X.K (.tuple (li ms)))) : XT M Γ Rs X (.Compare a [.Eq] [b] pos) (Is (decide (ns = ms))) :=
  YT.eq (xt_eqD hr ha hb (shaped_li ns) (shaped_li ms)) (by rw [eqv_tli])
end
end Lh
/-! List comprehensions of two clauses, over data. -/
namespace Lh
open PySem L2
open Evl (Ex ex_l ex_t ex_rd fresh_back)
/-- what two clauses make -/
def lc2M (f : PyData → List PyData) (c : PyData → PyData → Bool) (e : PyData → PyData → PyData) (ds : List PyData) : List PyData := ds.flatMap fun d => ((f d).filter (c d)).map (e d)
theorem lc2M_snoc {f : PyData → List PyData} {c : PyData → PyData → Bool} {e : PyData → PyData → PyData} {ds : List PyData} {d : PyData} : lc2M f c e (ds ++ [d]) = lc2M f c e ds ++ ((f d).filter (c d)).map (e d) := by
  unfold lc2M
  rw [List.flatMap_append]
  simp
section
variable {M : Addr → Prop} {Γ Γ' : Ct} {Rs : List Res} {X : Cx} {Z0 Z Hl : Hp} {D : Ends} {K : PySem.W.Frag} {rest : List Stmt}
theorem ye_lc2 {t0 i0 t1 i1 b : Expr} {sco : Scope} {i j : Nat} (hij : i ≠ j) {ds : List PyData} (hi : XI M Γ Rs X t0 i0 (ds.map (PD K))) (cv : Cov M Rs) (f : PyData → List PyData) (c : PyData → PyData → Bool) (e : PyData → PyData → PyData) (hz : (lc2M f c e ds).length ≤ 100000) {tt : TT}
    (h1 : ∀ d ∈ ds, OnBlk X sco fun Y => XI M (blk1 Γ i j (PD K d)) Rs Y t1 i1 ((f d).map (PD K)))
    (hc : ∀ d ∈ ds, ∀ z ∈ f d, YT M (blkG (blk1 Γ i j (PD K d)) j (PD K z)) Rs tt (Is (c d z)))
    (hb : ∀ d ∈ ds, ∀ z ∈ f d, c d z = true → OnBlk X sco fun Y => XE M (blkG (blk1 Γ i j (PD K d)) j (PD K z)) Rs Y b (PD K (e d z))) :
    YE M Γ Rs (tLc2 (wpI X t0 i0) (gName i) tYes (wpIb X sco t1 i1) (gName j) tt (wpEb X sco b) [i, j] [j]) (PD K (.list (lc2M f c e ds))) := fun σ H0 H l ex k Qf q => hi σ H0 H l ex k _ fun J A0 G1 s1 k1 wk D hD => by
  have nr : ∀ r ∈ Rs, ∀ a ∈ r.ad, a ≠ D := fun r hr a ha e => by
    obtain ⟨⟨o, h1⟩, _⟩ := r.tr (k1.2 r hr) a ha
    rw [e, hD] at h1
    cases h1
  have nM : ¬ M D := fun z => by
    obtain ⟨o, h⟩ := cv A0 G1 k1 D z
    rw [hD] at h
    cases h
  have len : (ds.map (PD K)).length = ds.length := List.length_map ..
  -- what has been made, and what the heap is
  let Cd : List PyData → Hp → Prop := fun es G => ∃ A acc, DdAll K A es acc ∧ Step M A0 G1 A G ∧ A D = none ∧ Rok Rs A G ∧ G D = some (.lst acc)
  refine ⟨fun n m G => m = ds.length - n ∧ n ≤ ds.length ∧ Cd (lc2M f c e (ds.take n)) G, ⟨_, rfl, Nat.zero_le _, A0, [], rfl, (Step.rfl s1.le).side hD (fresh_back s1.le hD), fresh_back s1.le hD, k1.wr nr, upd_same⟩, ?_⟩
  rintro n m G ⟨rfl, hn, A, acc, hdd, s2, aD, k2, gD⟩
  have w := wk A G s2.ex s2.le n
  by_cases hlt : n < ds.length
  · have hdn : ds[n]? = some ds[n] := List.getElem?_eq_getElem hlt
    have hmem : ds[n] ∈ ds := List.getElem_mem hlt
    have hq : (ds.map (PD K))[n]? = some (PD K ds[n]) := by rw [List.getElem?_map, hdn]; rfl
    obtain ⟨go, yl⟩ := w.1 _ hq
    have htk : ds.take (n + 1) = ds.take n ++ [ds[n]] := by rw [List.take_add_one, hdn]; rfl
    have hcap : (lc2M f c e (ds.take (n + 1))).length ≤ 100000 := by
      have e1 : lc2M f c e ds = lc2M f c e (ds.take (n + 1)) ++ lc2M f c e (ds.drop (n + 1)) := by
        unfold lc2M
        rw [← List.flatMap_append, List.take_append_drop]
      rw [e1, List.length_append] at hz
      omega
    refine .inr ⟨go, fun G' => n + 1 ≤ ds.length ∧ Cd (lc2M f c e (ds.take (n + 1))) G', fun G' h => ⟨ds.length - (n + 1), by omega, rfl, h⟩, fun x G2 y => ?_⟩
    obtain ⟨A2, s3, hx⟩ := yl x G2 y
    have a2 := s3.none aD gD
    have g2 : G2 D = some (.lst acc) := s3.un D _ (fun z => z) gD
    refine ⟨wipe_one hij, ?_⟩
    have lΓ : Sl (blk1 Γ i j (PD K ds[n])) ((L2.wipe σ [i, j]).set i (some x)) A2 := (((l.ex s1.ex).ex (s2.ex.trans s3.ex)).wipe [i, j]).set hx
    intro z0 G0 C cl fp
    refine h1 _ hmem z0 G0 C cl fp _ A2 G2 lΓ s3.le (k2.step0 s3) _ fun J1 A3 G3 s4 k4 wk1 => ?_
    have a3 := s4.none a2 g2
    have g3 : G3 D = some (.lst acc) := s4.un D _ nM g2
    have st3 : Step M A0 G1 A3 G3 := s2.trans (s3.of0.trans s4)
    refine ⟨fun u m G => m = (f ds[n]).length - u ∧ u ≤ (f ds[n]).length ∧ ∃ A acc, DdAll K A (lc2M f c e (ds.take n) ++ (((f ds[n]).take u).filter (c ds[n])).map (e ds[n])) acc ∧ Step M A0 G1 A G ∧ A D = none ∧ Rok Rs A G ∧ G D = some (.lst acc) ∧ Ex A3 A, ⟨_, rfl, Nat.zero_le _, A3, acc, ?_, st3, a3, k4, g3, Ex.refl _⟩, ?_⟩
    · rw [List.take_zero]
      show DdAll K A3 (lc2M f c e (ds.take n) ++ []) acc
      rw [List.append_nil]
      exact DdAll.ex (s3.ex.trans s4.ex) _ _ hdd
    · rintro u m G4 ⟨rfl, hu, A4, acc4, hdd4, s5, a4, k5, g4, ex4⟩
      have w1 := wk1 A4 G4 ex4 s5.le u
      by_cases hlt1 : u < (f ds[n]).length
      · have hz1 : (f ds[n])[u]? = some (f ds[n])[u] := List.getElem?_eq_getElem hlt1
        have hzm : (f ds[n])[u] ∈ f ds[n] := List.getElem_mem hlt1
        have htk1 : (f ds[n]).take (u + 1) = (f ds[n]).take u ++ [(f ds[n])[u]] := by rw [List.take_add_one, hz1]; rfl
        generalize (f ds[n])[u] = z at hz1 hzm htk1
        obtain ⟨go1, yl1⟩ := w1.1 (PD K z) (by rw [List.getElem?_map, hz1]; rfl)
        refine .inr ⟨go1, fun G' => u + 1 ≤ (f ds[n]).length ∧ ∃ A acc, DdAll K A (lc2M f c e (ds.take n) ++ (((f ds[n]).take (u + 1)).filter (c ds[n])).map (e ds[n])) acc ∧ Step M A0 G1 A G' ∧ A D = none ∧ Rok Rs A G' ∧ G' D = some (.lst acc) ∧ Ex A3 A, fun G' h => ⟨(f ds[n]).length - (u + 1), by omega, rfl, h⟩, fun y1 G5 hy => ?_⟩
        obtain ⟨A5, s6, hx5⟩ := yl1 y1 G5 hy
        have a5 := s6.none a4 g4
        have g5 : G5 D = some (.lst acc4) := s6.un D _ (fun z => z) g4
        refine ⟨by
          show ((((L2.wipe σ [i, j]).set i (some x)).set j none).set j (some y1)).set j none = ((L2.wipe σ [i, j]).set i (some x)).set j none
          rw [List.set_set, List.set_set], ?_⟩
        have l5 : Sl (blkG (blk1 Γ i j (PD K ds[n])) j (PD K z)) ((L2.wipe ((L2.wipe σ [i, j]).set i (some x)) [j]).set j (some y1)) A5 := (((lΓ.ex s4.ex).ex (ex4.trans s6.ex)).wipe [j]).set hx5
        refine hc _ hmem z hzm _ A5 G5 l5 s6.le (k5.step0 s6) _ fun bb A6 G6 s7 k7 hbb => ?_
        have hbb' : bb = c ds[n] z := hbb
        have a6 := s7.none a5 g5
        have g6 : G6 D = some (.lst acc4) := s7.un D _ nM g5
        have t6 : Step M A0 G1 A6 G6 := s5.trans (s6.of0.trans s7)
        cases bb with
        | false =>
          refine ⟨hlt1, A6, acc4, ?_, t6, a6, k7, g6, ex4.trans (s6.ex.trans s7.ex)⟩
          have e1 : (((f ds[n]).take (u + 1)).filter (c ds[n])) = ((f ds[n]).take u).filter (c ds[n]) := by
            rw [htk1, List.filter_append, List.filter_cons, if_neg (by rw [← hbb']; simp)]
            simp
          rw [e1]
          exact DdAll.ex (s6.ex.trans s7.ex) _ _ hdd4
        | true =>
          have e1 : (((f ds[n]).take (u + 1)).filter (c ds[n])).map (e ds[n]) = (((f ds[n]).take u).filter (c ds[n])).map (e ds[n]) ++ [e ds[n] z] := by
            rw [htk1, List.filter_append, List.filter_cons, if_pos (by rw [← hbb']), List.map_append]
            rfl
          intro z0 G0 C cl fp
          refine hb _ hmem z hzm hbb'.symm z0 G0 C cl fp _ A6 G6 (l5.ex s7.ex) s7.le k7 _ fun v A7 G7 s8 k8 hv => ?_
          have a7 := s8.none a6 g6
          have g7 : G7 D = some (.lst acc4) := s8.un D _ nM g6
          have t7 := t6.trans s8
          refine ⟨acc4, g7, ?_, hlt1, A7, acc4 ++ [v], ?_, t7.side hD a7, a7, k8.wr nr, upd_same, ex4.trans ((s6.ex.trans s7.ex).trans s8.ex)⟩
          · have h1 : (lc2M f c e (ds.take n) ++ (((f ds[n]).take (u + 1)).filter (c ds[n])).map (e ds[n])).length ≤ 100000 := by
              rw [htk, lc2M_snoc, List.length_append] at hcap
              rw [List.length_append]
              have h2 : ((((f ds[n]).take (u + 1)).filter (c ds[n])).map (e ds[n])).length ≤ (((f ds[n]).filter (c ds[n])).map (e ds[n])).length := by
                rw [List.length_map, List.length_map]
                exact ((List.take_sublist _ _).filter _).length_le
              omega
            rw [e1, ← List.append_assoc, List.length_append] at h1
            rw [hdd4.len]
            have : (100000 : Nat) < sizeLine := by decide
            simp only [List.length_cons, List.length_nil] at h1
            omega
          · rw [e1, ← List.append_assoc]
            exact DdAll.app (DdAll.ex ((s6.ex.trans s7.ex).trans s8.ex) _ _ hdd4) (DdAll.one hv)
      · have eu : u = (f ds[n]).length := by omega
        subst eu
        refine .inl ⟨w1.2 (by simp), hlt, A4, acc4, ?_, s5, a4, k5, g4⟩
        rw [htk, lc2M_snoc]
        rw [List.take_length] at hdd4
        exact hdd4
  · have en : n = ds.length := by omega
    subst en
    refine .inl ⟨w.2 len, q (.ref D) (upd A D (.lst acc)) G ?_ (k2.updA aD nr) ⟨D, acc, rfl, upd_same, ?_⟩⟩
    · have t := s1.trans s2
      refine ⟨t.un, t.th, t.ex.trans (Ex.new aD), fun a o h => ?_, fun a o h => ?_⟩
      · by_cases ha : a = D
        · subst ha
          rw [upd_same] at h
          rw [gD]
          exact h
        · rw [upd_ne ha] at h
          exact t.le a o h
      · by_cases ha : a = D
        · subst ha
          refine .inr ?_
          cases e : H a with
          | none => rfl
          | some u =>
            obtain ⟨u', h'⟩ := s1.th a u e
            rw [hD] at h'
            cases h'
        · rw [upd_ne ha] at h
          exact t.nw a o h
    · rw [List.take_length] at hdd
      exact DdAll.ex (Ex.new aD) _ _ hdd
/-- [b for x in i0 for y in i1] -/
theorem xe_lc2 (i j : Nat) (hij : i ≠ j) {x y : Str} {i0 i1 b : Expr} {sco : Scope} {xp yp pos : Pos} {ds : List PyData} (hi : XI M Γ Rs X (.Name x xp) i0 (ds.map (PD X.K))) (f : PyData → List PyData) (e : PyData → PyData → PyData) (hz : (lc2M f (fun _ _ => true) e ds).length ≤ 100000)
    (h1 : ∀ d ∈ ds, OnBlk X sco fun Y => XI M (blk1 Γ i j (PD X.K d)) Rs Y (.Name y yp) i1 ((f d).map (PD X.K)))
    (hb : ∀ d ∈ ds, ∀ z ∈ f d, OnBlk X sco fun Y => XE M (blkG (blk1 Γ i j (PD X.K d)) j (PD X.K z)) Rs Y b (PD X.K (e d z))) (hN : X.N.Nodup) (ok : BlkOk X.N X.env.scope sco [(x, i), (y, j)]) (cv : Cov M Rs) (hg : BlkG X sco x xp i) (hg1 : BlkG X sco y yp j)
    (hc : X.calm = true := by rfl) (hs : ∀ y, foldedSetIterable i0 X.env y = pure y := by intro _; rfl) (hs1 : ∀ env y, foldedSetIterable i1 env y = pure y := by intro _ _; rfl) :
    XE M Γ Rs X (.ListComp b [⟨.Name x xp, i0, [], 0⟩, ⟨.Name y yp, i1, [], 0⟩] sco pos) (PD X.K (.list (lc2M f (fun _ _ => true) e ds))) :=
  YE.wp (pe_lc2 (own := [(x, i), (y, j)]) (vs1 := [j]) hc hN pi_wp ok (by simp) hg (fun _ _ _ _ _ => pts_nil) onblk_pi hg1 (fun _ _ _ _ _ => pts_nil) blk_ok hs hs1) (ye_lc2 hij hi cv f (fun _ _ => true) e hz h1 (fun _ _ _ _ => yt_yes) fun d hd z hz _ => hb d hd z hz)
/-- [b for x in i0 for y in i1 if q] -/
theorem xe_lc2If (i j : Nat) (hij : i ≠ j) {x y : Str} {i0 i1 b q : Expr} {sco : Scope} {xp yp pos : Pos} {ds : List PyData} (hi : XI M Γ Rs X (.Name x xp) i0 (ds.map (PD X.K))) (f : PyData → List PyData) (c : PyData → PyData → Bool) (e : PyData → PyData → PyData) (hz : (lc2M f c e ds).length ≤ 100000)
    (h1 : ∀ d ∈ ds, OnBlk X sco fun Y => XI M (blk1 Γ i j (PD X.K d)) Rs Y (.Name y yp) i1 ((f d).map (PD X.K)))
    (hq : ∀ d ∈ ds, ∀ z ∈ f d, OnBlk X sco fun Y => XT M (blkG (blk1 Γ i j (PD X.K d)) j (PD X.K z)) Rs Y q (Is (c d z)))
    (hb : ∀ d ∈ ds, ∀ z ∈ f d, c d z = true → OnBlk X sco fun Y => XE M (blkG (blk1 Γ i j (PD X.K d)) j (PD X.K z)) Rs Y b (PD X.K (e d z))) (hN : X.N.Nodup) (ok : BlkOk X.N X.env.scope sco [(x, i), (y, j)]) (cv : Cov M Rs) (hg : BlkG X sco x xp i) (hg1 : BlkG X sco y yp j)
    (hc : X.calm = true := by rfl) (hs : ∀ y, foldedSetIterable i0 X.env y = pure y := by intro _; rfl) (hs1 : ∀ env y, foldedSetIterable i1 env y = pure y := by intro _ _; rfl) :
    XE M Γ Rs X (.ListComp b [⟨.Name x xp, i0, [], 0⟩, ⟨.Name y yp, i1, [q], 0⟩] sco pos) (PD X.K (.list (lc2M f c e ds))) :=
  YE.wp (pe_lc2 (own := [(x, i), (y, j)]) (vs1 := [j]) hc hN pi_wp ok (by simp) hg (fun _ _ _ _ _ => pts_nil) onblk_pi hg1 (fun _ _ _ _ _ => pts_one (blk_okT _ _ _ _ _)) blk_ok hs hs1) (ye_lc2 hij hi cv f c e hz h1 (fun d hd z hz => yt_blk (hq d hd z hz)) hb)
end
end Lh
/-! Lists and tuples of things that are no data; tuples with a star; membership in lists of data. -/
namespace Lh
open PySem L2
open Evl (Ex ex_l ex_t ex_rd fresh_back)
theorem DAll.take {Ps : List Pd} {xs : List V} {H : Hp} (h : DAll Ps xs H) (n : Nat) : DAll (Ps.take n) (xs.take n) H := ⟨by rw [List.length_take, List.length_take, h.1], fun i P q => by
  by_cases hi : i < n
  · rw [List.getElem?_take_of_lt hi] at q ⊢
    exact h.2 i P q
  · rw [List.getElem?_eq_none (by rw [List.length_take]; omega)] at q
    cases q⟩
theorem DAll.drop {Ps : List Pd} {xs : List V} {H : Hp} (h : DAll Ps xs H) (n : Nat) : DAll (Ps.drop n) (xs.drop n) H := ⟨by rw [List.length_drop, List.length_drop, h.1], fun i P q => by
  rw [List.getElem?_drop] at q ⊢
  exact h.2 _ P q⟩
theorem DAll.rev {Ps : List Pd} {xs : List V} {H : Hp} (h : DAll Ps xs H) : DAll Ps.reverse xs.reverse H := ⟨by rw [List.length_reverse, List.length_reverse, h.1], fun i P q => by
  have hl := h.1
  have hi : i < Ps.length := by
    have := (List.getElem?_eq_some_iff.mp q).1
    rwa [List.length_reverse] at this
  rw [List.getElem?_reverse hi] at q
  rw [List.getElem?_reverse (by omega), hl]
  exact h.2 _ P q⟩
section
variable {M : Addr → Prop} {Γ Γ' : Ct} {Rs : List Res} {X : Cx} {Z0 Z Hl : Hp} {D : Ends} {K : PySem.W.Frag} {rest : List Stmt} {a b c e : Expr} {es : List Expr} {pos p : Pos} {i j k : Int}
/-- a list at hand changes no more: a list of things -/
theorem xs_frzP (i : Nat) {q : Addr} {Ps : List Pd} (hi : Γ[i]? = some (some (PV (.ref q)))) (h : XS M (Γ.set i (some (PLs Ps))) Rs X Z0 Z Hl D rest) : XS M Γ (Res.lst Z q Ps :: Rs) X Z0 Z Hl D rest := fun σ H0 H l s b k => by
  obtain ⟨hz, h0, xs, hq, hd⟩ := k.2 _ List.mem_cons_self
  obtain ⟨v, h1, h2⟩ := l.2 i _ hi
  have e2 : v = .ref q := h2
  subst e2
  have nd := k.1
  rw [List.flatMap_cons, List.nodup_append] at nd
  have ne : ∀ r ∈ Rs, ∀ a ∈ r.ad, a ≠ q := fun r hr a ha e => nd.2.2 q (by simp [Res.lst]) a (List.mem_flatMap.mpr ⟨r, hr, ha⟩) e.symm
  have k2 : Rok Rs (upd H0 q (.lst xs)) H := Rok.updA ⟨nd.2.1, fun r hr => k.2 r (List.mem_cons_of_mem _ hr)⟩ h0 ne
  have x1 : Ex H0 (upd H0 q (.lst xs)) := Ex.new h0
  have l2 : Sl (Γ.set i (some (PLs Ps))) (σ.set i (some (.ref q))) (upd H0 q (.lst xs)) := (l.ex x1).set ⟨q, xs, rfl, upd_same, hd.ex x1⟩
  have e3 : σ.set i (some (.ref q)) = σ := by
    have hlt := (List.getElem?_eq_some_iff.mp h1).1
    have := (List.getElem?_eq_some_iff.mp h1).2
    rw [← this]
    exact List.set_getElem_self hlt
  rw [e3] at l2
  refine h σ _ H l2 ⟨s.un, s.th, s.ex.trans x1, fun a o ha => ?_, fun a o ha => ?_⟩ (b.trans x1) k2
  · by_cases e : a = q
    · subst e
      rw [upd_same] at ha
      rw [hq]
      exact ha
    · rw [upd_ne e] at ha
      exact s.le a o ha
  · by_cases e : a = q
    · subst e
      exact .inr hz
    · rw [upd_ne e] at ha
      exact s.nw a o ha
/-- tuple(l) -/
theorem xe_tupPL {Ps : List Pd} (hm : X.mg "tuple" = none) (h : XE M Γ Rs X a (PLs Ps)) (hg : Gl X "tuple" := by rfl) (he : starEach [a] X.env = (false, eval a X.env) :: starEach [] X.env := by rfl) : XE M Γ Rs X (.Call (.Name "tuple" p) [a] [] pos) (PTs X.K Ps) :=
  xe_callTy call_tuple_of hm (by decide +kernel) (xa_1 h he) (fun xs H0 H hx e _ => by
    obtain ⟨x, e1, q, ys, e2, h1, h2⟩ := da1 hx
    subst e1 e2
    exact fun Q k => ⟨q, ys, rfl, .inl ⟨SqL.of (e _ _ h1), fun t ht => k _ (upd H0 t (.tup ys)) _ (Step.new e ht) ⟨t, ys, rfl, SqT.of upd_same, h2.ex (Ex.new (fresh_back e ht))⟩⟩⟩) hg (by decide) (by decide) he rfl
/-- len(t) -/
theorem xe_lenPT {Ps : List Pd} (hm : X.mg "len" = none) (h : XE M Γ Rs X a (PTs X.K Ps)) (hg : Gl X "len" := by rfl) (he : starEach [a] X.env = (false, eval a X.env) :: starEach [] X.env := by rfl) : XE M Γ Rs X (.Call (.Name "len" p) [a] [] pos) (PD X.K (.int (Ps.length : Int))) :=
  xe_callB call_len_seq hm PySem.boot_len (xa_1 h he) (fun xs H0 H hx e _ => by
    obtain ⟨x, e1, q, ys, e2, h1, h2⟩ := da1 hx
    subst e1 e2
    exact Yld.val (z := .int (ys.length : Int)) e (by rw [h2.1]; rfl) fun Q k => ⟨q, ys, rfl, .inr (ex_t e h1), k⟩) hg (by decide) (by decide) he rfl
theorem xe_lenPL {Ps : List Pd} (hm : X.mg "len" = none) (h : XE M Γ Rs X a (PLs Ps)) (hg : Gl X "len" := by rfl) (he : starEach [a] X.env = (false, eval a X.env) :: starEach [] X.env := by rfl) : XE M Γ Rs X (.Call (.Name "len" p) [a] [] pos) (PD X.K (.int (Ps.length : Int))) :=
  xe_callB call_len_seq hm PySem.boot_len (xa_1 h he) (fun xs H0 H hx e _ => by
    obtain ⟨x, e1, q, ys, e2, h1, h2⟩ := da1 hx
    subst e1 e2
    exact Yld.val (z := .int (ys.length : Int)) e (by rw [h2.1]; rfl) fun Q k => ⟨q, ys, rfl, .inl (SqL.of (e _ _ h1)), k⟩) hg (by decide) (by decide) he rfl
/-- l[::-1] -/
theorem xe_revP {Ps : List Pd} {kq : Nat} {q1 q2 q3 : Pos} (h : XE M Γ Rs X a (PLs Ps)) : XE M Γ Rs X (.Subscript a (.Slice none none (some (.UnaryOp .USub (.Constant (.int 1) kq q1) q2)) q3) pos) (PLs Ps.reverse) := YE.wp (pe_revL pe_wp) fun σ H0 H l e k Q q =>
  h σ H0 H l e k _ fun v H1 G1 s1 k1 ⟨a, xs, e1, h1, h2⟩ => ⟨a, xs, e1, SqL.of (s1.le _ _ h1), fun p hp => q _ _ _ (s1.trans (Step.new s1.le hp)) (k1.step0 (Step.new s1.le hp)) ⟨p, _, rfl, upd_same, h2.rev.ex (Ex.new (fresh_back s1.le hp))⟩⟩
theorem ye_slP {te : TE} {tl th : TO} {Ps : List Pd} {lo hi : Option Int} (h : YE M Γ Rs te (PLs Ps)) (hl : YO M Γ Rs tl lo) (hh : YO M Γ Rs th hi) : YE M Γ Rs (tSl (rSlL K) te tl th) (PLs ((Ps.drop (HT.sIx Ps.length 0 lo)).take (HT.sIx Ps.length Ps.length hi - HT.sIx Ps.length 0 lo))) := fun σ H0 H l e k Q q =>
  h σ H0 H l e k _ fun v H1 G1 s1 k1 ⟨a, xs, e1, h1, h2⟩ => hl σ H1 G1 (l.ex s1.ex) s1.le k1 _ fun H2 G2 s2 k2 => hh σ H2 G2 (l.ex (s1.ex.trans s2.ex)) s2.le k2 _ fun H3 G3 s3 k3 => ⟨a, xs, e1, SqL.of ((s2.trans s3).le _ _ ((s2.trans s3).ex _ _ h1)), fun p hp => by
    have s := (s1.trans s2).trans s3
    have hc : DAll ((Ps.drop (HT.sIx Ps.length 0 lo)).take (HT.sIx Ps.length Ps.length hi - HT.sIx Ps.length 0 lo)) (cutV xs lo hi) H1 := by
      unfold cutV
      rw [h2.1]
      exact (h2.drop _).take _
    exact q _ _ _ (s.trans (Step.new s.le hp)) (k3.step0 (Step.new s.le hp)) ⟨p, _, rfl, upd_same, hc.ex ((s2.ex.trans s3.ex).trans (Ex.new (fresh_back s.le hp)))⟩⟩
theorem cut_eqP1 (Ps : List Pd) {i : Int} (h0 : 0 ≤ i) : (Ps.drop (HT.sIx Ps.length 0 (some i))).take (HT.sIx Ps.length Ps.length none - HT.sIx Ps.length 0 (some i)) = Ps.drop i.toNat := cut_eq1 Ps h0
theorem cut_eqP2 (Ps : List Pd) {i : Int} (h0 : 0 ≤ i) : (Ps.drop (HT.sIx Ps.length 0 none)).take (HT.sIx Ps.length Ps.length (some i) - HT.sIx Ps.length 0 none) = Ps.take i.toNat := cut_eq2 Ps h0
/-- l[i:], l[:i] -/
theorem xe_slPa {Ps : List Pd} {p2 : Pos} (h : XE M Γ Rs X a (PLs Ps)) (hl : XE M Γ Rs X b (PD X.K (.int i))) (h0 : 0 ≤ i) : XE M Γ Rs X (.Subscript a (.Slice (some b) none none p2) pos) (PLs (Ps.drop i.toNat)) :=
  (YE.wp (pe_slice sl_list pe_wp (po_some pe_wp) po_none) (ye_slP h (yo_some hl) yo_none)).to (by rw [cut_eqP1 Ps h0])
theorem xe_slPb {Ps : List Pd} {p2 : Pos} (h : XE M Γ Rs X a (PLs Ps)) (hl : XE M Γ Rs X b (PD X.K (.int i))) (h0 : 0 ≤ i) : XE M Γ Rs X (.Subscript a (.Slice none (some b) none p2) pos) (PLs (Ps.take i.toNat)) :=
  (YE.wp (pe_slice sl_list pe_wp po_none (po_some pe_wp)) (ye_slP h yo_none (yo_some hl))).to (by rw [cut_eqP2 Ps h0])
/-- enumerate(t) -/
theorem wk_enumP {a : Addr} {xs : List V} {Ps : List Pd} {H0 : Hp} (h : SqT K H0 a xs) (hd : DAll Ps xs H0) : Wk (LhS.IteT K a) ((List.range Ps.length).zipWith (fun i P => PT2 K (PD K (.int (i : Nat))) P) Ps) H0 := fun H0' H e e' i => by
  refine ⟨fun Q q => ?_, fun q => ⟨xs, ex_t (e.trans e') h, by rw [hd.1]; simpa using q⟩⟩
  have hlt : i < Ps.length := by
    have := (List.getElem?_eq_some_iff.mp q).1
    simpa using this
  have e1 : PT2 K (PD K (.int (i : Nat))) Ps[i] = Q := by
    simpa [List.getElem?_zipWith, hlt] using q
  subst e1
  obtain ⟨v, h1, h2⟩ := hd.2 i _ (List.getElem?_eq_getElem hlt)
  refine ⟨⟨xs, v, ex_t (e.trans e') h, h1⟩, fun x H' ⟨T, y, y1, y2, y3, y4⟩ => ?_⟩
  have e2 : y = v := Option.some.inj ((y4 xs (ex_t (e.trans e') h)).symm.trans h1)
  subst e2 y1 y3
  exact ⟨upd H0' T (.tup [.int (i : Nat), y]), Step.new e' y2, T, _, _, rfl, SqT.of upd_same, rfl, (Ps[i]).m (e.trans (Ex.new (fresh_back e' y2))) h2⟩
theorem xi_enumP {p pos tpos : Pos} {elts : List Expr} {kk : Nat} {Ps : List Pd} (hm : X.mg "enumerate" = none) (h : XE M Γ Rs X e (PTs X.K Ps)) (hg : Gl X "enumerate" := by rfl) (hs : starEach [e] X.env = [(false, eval e X.env)] := by rfl) :
    XI M Γ Rs X (.Tuple elts kk tpos) (.Call (.Name "enumerate" p) [e] [] pos) ((List.range Ps.length).zipWith (fun i P => PT2 X.K (PD X.K (.int (i : Nat))) P) Ps) := fun σ H0 H l ex k R r => PI.wp (LhS.pi_enumT hg hm pa_wp hs) ((xa_1 h (by exact hs)) σ H0 H l ex k _ fun vs H1 G1 s1 k1 a1 => by
  obtain ⟨v, e1, a, xs, e3, h3, h4⟩ := da1 a1
  subst e1 e3
  exact ⟨a, xs, rfl, ex_t s1.le h3, r _ H1 G1 s1 k1 (wk_enumP h3 h4)⟩)
/-- [elt for x, y in iter if q] -/
theorem xe_lcPIf (i0 j : Nat) (hij : i0 ≠ j) {x y : Str} {elt iter q : Expr} {scope : Scope} {pos xp yp tp : Pos} {kt : Nat} {Qs : List Pd} (hi : XI M Γ Rs X (.Tuple [.Name x xp, .Name y yp] kt tp) iter Qs) (R : Nat → List PyData → Prop) (r0 : R 0 [])
    (ht : ∀ (i : Nat) (Q : Pd), Qs[i]? = some Q → ∃ P1 P2, Q = PT2 X.K P1 P2 ∧ ∃ B, (Blk X scope fun Y => XT M (blkP Γ i0 j P1 P2) Rs Y q B) ∧ (B true → Blk X scope fun Y => XE M (blkP Γ i0 j P1 P2) Rs Y elt (PEx (fun d => ∀ ds, ds.length ≤ i → R i ds → R (i + 1) (ds ++ [d])) (PD K))) ∧ (B false → ∀ ds, R i ds → R (i + 1) ds)) (hN : X.N.Nodup)
    (ok : BlkOk X.N X.env.scope scope [(x, i0), (y, j)]) (hz : Qs.length ≤ 100000) (cv : Cov M Rs) (hg : ∀ (s : Shared) (H : Hp) (C : Addr) (cl : List (Str × Addr)) (fp : List Addr), PG (X.blk s H scope (compEnvC scope cl C X.env) fp) (.Tuple [.Name x xp, .Name y yp] kt tp) (gTup X.K 2 (gCons (gName i0) (gCons (gName j) gNil))))
    (hc : X.calm = true := by rfl) (hs : ∀ x, foldedSetIterable iter X.env x = pure x := by intro _; rfl) : XE M Γ Rs X (.ListComp elt [⟨.Tuple [.Name x xp, .Name y yp] kt tp, iter, [q], 0⟩] scope pos) (LcP K Qs R) :=
  YE.wp (pe_lc (own := [(x, i0), (y, j)]) hc hN pi_wp ok hg (fun s H C cl fp => pts_one (blk_okT s H C cl fp)) blk_ok hs) (ye_lcP hij hi cv hz R r0 fun i Q hq => by
    obtain ⟨P1, P2, e, B, h1, h2, h3⟩ := ht i Q hq
    exact ⟨P1, P2, e, B, yt_blk h1, fun hb => ye_blk (h2 hb), h3⟩)
/-- (*t, e) -/
theorem xe_tupS {ds : List PyData} {d : PyData} {kk : Nat} {sp : Pos} (h : XE M Γ Rs X a (PD X.K (.tuple ds))) (h2 : XE M Γ Rs X b (PD X.K d)) (hz : ds.length ≤ 1000) (hs : starEach (.Starred a sp :: [b]) X.env = (true, eval a X.env) :: starEach [b] X.env := by rfl) (hs2 : starEach [b] X.env = (false, eval b X.env) :: starEach [] X.env := by rfl) :
    XE M Γ Rs X (.Tuple [.Starred a sp, b] kk pos) (PD X.K (.tuple (ds ++ [d]))) :=
  YE.wp (pe_tup (StX.pa_star pe_wp (pa_cons pe_wp pa_nil hs2) hs)) fun σ H0 H l e k Q q => h σ H0 H l e k _ fun v H1 G1 s1 k1 ⟨t, xs, e1, g1, g2⟩ => by
    refine ⟨t, xs, e1, .inl (ex_t s1.le g1), h2 σ H1 G1 (l.ex s1.ex) s1.le k1 _ fun y H2 G2 s2 k2 hy => ?_⟩
    refine ⟨by rw [List.length_append, g2.len]; exact Nat.le_trans (show ds.length + 1 ≤ 1001 by omega) (by decide), fun p hp => ?_⟩
    have s := s1.trans s2
    exact q _ (upd H2 p (.tup (xs ++ [y]))) _ (s.trans (Step.new s.le hp)) (k2.step0 (Step.new s.le hp)) ⟨p, _, rfl, SqT.of upd_same, DdAll.ex (Ex.new (fresh_back s.le hp)) _ _ (DdAll.app (DdAll.ex s2.ex _ _ g2) (DdAll.one hy))⟩
/-- d in [..], by values -/
theorem xe_inD {d : PyData} {ds : List PyData} {n : Nat} (hr : Room n X.A) (ha : XE M Γ Rs X a (PD X.K d)) (hb : XE M Γ Rs X b (PD X.K (.list ds))) (h1 : SeqAt.shaped d = true) (h2 : SeqAt.shaped (.list ds) = true) (hu : X.A.units + 65 < cLine) (hm : behindInMarks .In b = false := by rfl) :
    XE M Γ Rs X (.Compare a [.In] [b] pos) (PD X.K (.bool (ds.any fun z => PyData.eqv z d))) :=
  xe_cmp (op_inD hu) ha hb (fun x y H0 H hx hy e _ => Yld.val (z := .bl (ds.any fun z => PyData.eqv z d)) e rfl fun Q k => ⟨d, ds, Dd.dp d x (Dd.ex e _ _ hx), Dd.dp (.list ds) y (Dd.ex e _ _ hy), h1, h2, k⟩) hm
end
end Lh
namespace Lh
open PySem L2
open Evl (Ex ex_l ex_t ex_rd fresh_back)
/-! ### max of a tuple of ints -/
section
variable {X : Cx}
def rMaxT (K : PySem.W.Frag) : List V → Hp → VK → Prop := fun vs H Q => ∃ (a : Addr) (ns : List Int), vs = [V.ref a] ∧ SqT K H a (ns.map V.int) ∧ 0 < ns.length ∧ ∀ m, m ∈ ns → (∀ y ∈ ns, y ≤ m) → Q (.int m) H
theorem cr_maxT (hc : X.calm = true) : CallR X (.builtin "max") (rMaxT X.K) := by
  rintro pins s σ H vs us Q I r ⟨a, ns, rfl, hs, hpos, q⟩
  obtain ⟨its, rv, hT, _⟩ := I.tuple hs
  have len : its.length = ns.length := by rw [← rv.length, List.length_map]
  have size : its.toArray.size = ns.length := by rw [List.size_toArray, len]
  rw [Vals.ref1 r]
  have hval : ∀ (i : Nat) (v : Value), its.toArray[i]? = some v → ∃ t, v = Value.int (ns.getD i 0) t := fun i v hv => by
    have hi : i < ns.length := by
      have := (Array.getElem?_eq_some_iff.mp hv).1
      omega
    have hxi : (ns.map V.int)[i]? = some (V.int (ns.getD i 0)) := by
      rw [List.getElem?_map, List.getD_eq_getElem?_getD, List.getElem?_eq_getElem hi]
      rfl
    obtain ⟨u, hu, ru⟩ := rv.get hxi
    have e : u = v := by
      have h2 : its[i]? = some v := by simpa using hv
      rw [h2] at hu
      exact (Option.some.inj hu).symm
    rw [← e]
    exact ru
  obtain ⟨o, ho, _⟩ := id hT
  have live := Heap.lt_size ho
  refine call_max_walk (wpAny_pyIter_tuple hT ?_)
  refine ⟨_, _, _, _, _, _, _, rfl, Walks.tuple (A := X.A.in1) (I.ok.hd hc) s.heap.objs.size a (Nat.ne_of_lt live) its.toArray, ⟨⟨_, Heap.get?_push_size _ rfl, rfl, rfl⟩, Heap.IsTuple.at hT fun u e => Heap.get?_push_of_some _ e⟩, fun c hb => ?_, by omega, CmpOf.ints_gt (fun i => ns.getD i 0) hval, fun v h' tk hP hk => ?_⟩
  · show c < (s.heap.push _).objs.size
    rw [Heap.size_push]
    obtain e | hb := List.mem_cons.mp hb
    · rw [e]
      exact Nat.lt_succ_self _
    · have e := List.mem_singleton.mp hb
      rw [e]
      exact Nat.lt_succ_of_lt live
  · obtain ⟨tn, rfl⟩ := hval _ v hP
    obtain ⟨b1, b2⟩ := argBest_gt (fun i => ns.getD i 0) (its.toArray.size - 1)
    refine ⟨.int _, H, I.kept (t' := tk) fun c u e => hk c u (fun hm => ?_) (Heap.get?_push_of_some _ e), ⟨tn, rfl⟩, q _ ?_ fun y hy => ?_⟩
    · have e1 : c = s.heap.objs.size := List.mem_singleton.mp hm
      have e2 := Heap.lt_size e
      rw [e1] at e2
      exact Nat.lt_irrefl _ e2
    · have hb : argBest (fun i j => decide (ns.getD i 0 > ns.getD j 0)) (its.toArray.size - 1) < ns.length := by omega
      rw [List.getD_eq_getElem?_getD]
      rw [List.getElem?_eq_getElem hb]
      exact List.getElem_mem hb
    · obtain ⟨i, hi, e⟩ := List.getElem_of_mem hy
      have e2 : ns.getD i 0 = y := by rw [List.getD_eq_getElem?_getD, List.getElem?_eq_getElem hi, ← e]; rfl
      rw [← e2]
      exact b2 i (by omega)
end
/-! ### lists of tuples of ints side by side -/
theorem eqvAll_tups : ∀ a b : List (List Int), PyData.eqvAll (a.map fun g => .tuple (li g)) (b.map fun g => .tuple (li g)) = decide (a = b)
  | [], [] => rfl
  | [], _ :: _ => rfl
  | _ :: _, [] => rfl
  | x :: xs, y :: ys => by
    show (PyData.eqv (.tuple (li x)) (.tuple (li y)) && PyData.eqvAll (xs.map fun g => .tuple (li g)) (ys.map fun g => .tuple (li g))) = _
    rw [eqvAll_tups xs ys, eqv_tli]
    by_cases h : x = y
    · subst h
      simp
    · simp [h]
theorem canLay_tups : ∀ a : List (List Int), PyData.canLayAll0 (a.map fun g => .tuple (li g)) = true ∧ PyData.depthAll (a.map fun g => .tuple (li g)) ≤ 10
  | [] => by simp [PyData.canLayAll0, PyData.depthAll]
  | x :: xs => by
    obtain ⟨h1, h2⟩ := canLay_tups xs
    have hx := shaped_li x
    have hx1 : PyData.canLay0 (.tuple (li x)) = true := SeqAt.canLay_of_shaped (d := .tuple (li x)) hx
    have hx2 : PyData.depth (.tuple (li x)) ≤ 10 := by
      have := PySem.W.depthAll_ints x
      simp only [PyData.depth]
      show _ ≤ 10
      have e : PyData.depthAll (li x) ≤ 1 := this
      omega
    refine ⟨?_, ?_⟩
    · simp only [List.map_cons, PyData.canLayAll0, hx1, h1]
      rfl
    · simp only [List.map_cons, PyData.depthAll]
      omega
theorem shaped_tups (a : List (List Int)) : SeqAt.shaped (.list (a.map fun g => .tuple (li g))) = true := by
  obtain ⟨h1, h2⟩ := canLay_tups a
  have h3 : PyData.depth (.list (a.map fun g => PyData.tuple (li g))) ≤ 64 := by simp only [PyData.depth]; omega
  show (PyData.canLay0 (.list (a.map fun g => PyData.tuple (li g))) && decide (PyData.depth (.list (a.map fun g => PyData.tuple (li g))) ≤ 64)) = true
  rw [Bool.and_eq_true]
  exact ⟨by simp only [PyData.canLay0]; exact h1, decide_eq_true h3⟩
section
variable {M : Addr → Prop} {Γ Γ' : Ct} {Rs : List Res} {X : Cx} {Z0 Z Hl : Hp} {D : Ends} {K : PySem.W.Frag} {rest : List Stmt} {a b c e : Expr} {es : List Expr} {pos p : Pos} {i j k : Int}
theorem xe_maxT {ns : List Int} {m : Int} (hm : X.mg "max" = none) (h : XE M Γ Rs X a (PD X.K (.tuple (li ns)))) (h1 : m ∈ ns) (h2 : ∀ y ∈ ns, y ≤ m) (hc : X.calm = true := by rfl) (hg : Gl X "max" := by rfl) (he : starEach [a] X.env = (false, eval a X.env) :: starEach [] X.env := by rfl) : XE M Γ Rs X (.Call (.Name "max" p) [a] [] pos) (PD X.K (.int m)) :=
  xe_callB (cr_maxT hc) hm (by decide +kernel) (xa_1 h he) (fun xs H0 H hx e _ => by
    obtain ⟨x, e1, t, ys, e2, g1, g2⟩ := da1 hx
    have e3 := g2.ints
    subst e1 e2 e3
    exact Yld.val (z := .int m) e rfl fun Q k => ⟨t, ns, rfl, ex_t e g1, List.length_pos_of_mem h1, fun m' q1 q2 => by
      have e4 : m' = m := by
        have := q2 m h1
        have := h2 m' q1
        omega
      rw [e4]
      exact k⟩) hg (by decide) (by decide) he rfl
theorem xt_neTups {ns ms : List (List Int)} {n : Nat} (hr : Room n X.A) (ha : XE M Γ Rs X a (PD X.K (.list (ns.map fun g => .tuple (li g))))) (hb : XE M Γ Rs X b (PD X.K (.list (ms.map fun g => .tuple (li g))))) : XT M Γ Rs X (.Compare a [.NotEq] [b] pos) (Is (!decide (ns = ms))) :=
  YT.eq (xt_neD hr ha hb (shaped_tups ns) (shaped_tups ms)) (by
    show (!PyData.eqvAll (ns.map fun g => PyData.tuple (li g)) (ms.map fun g => PyData.tuple (li g))) = _
    rw [eqvAll_tups])
theorem any_tup (x : List Int) : ∀ l : List (List Int), ((l.map fun g => PyData.tuple (li g)).any fun z => PyData.eqv z (.tuple (li x))) = decide (x ∈ l)
  | [] => rfl
  | y :: l => by
    rw [List.map_cons, List.any_cons, any_tup x l, eqv_tli]
    by_cases h : y = x
    · subst h
      simp
    · have h' : ¬ x = y := fun e => h e.symm
      simp [h, h']
theorem xe_inTups {x : List Int} {ns : List (List Int)} {n : Nat} (hr : Room n X.A) (ha : XE M Γ Rs X a (PD X.K (.tuple (li x)))) (hb : XE M Γ Rs X b (PD X.K (.list (ns.map fun g => .tuple (li g))))) (hm : behindInMarks .In b = false := by rfl) : XE M Γ Rs X (.Compare a [.In] [b] pos) (PD X.K (.bool (decide (x ∈ ns)))) :=
  YE.dat (xe_inD hr ha hb (shaped_li x) (shaped_tups ns) (by have := hr.un; omega) hm) (by rw [any_tup])
/-- i < drawn -/
theorem xt_ltE {A : Int → Prop} (ha : XE M Γ Rs X a (PD K (.int i))) (hb : XE M Γ Rs X b (PEx A fun n => PD K (.int n))) : XT M Γ Rs X (.Compare a [.Lt] [b] pos) (fun u => ∃ n, A n ∧ u = decide (i < n)) :=
  xt_cmp (K := K) op_lt ha hb (fun x y H0 H hx ⟨n, hn, hy⟩ e _ => fun Q q => (yl_I0 (g := fun i j => .bl (decide (i < j))) (d := .bool (decide (i < n))) (fun _ => rfl) hx hy e) Q fun v H0' H' s p => q v H0' H' s ⟨_, ⟨n, hn, rfl⟩, p⟩) (nomark _)
/-! ### lists whose things are each one of many -/
theorem DAll.pick {α : Type} {A : α → Prop} {P : α → Pd} {H : Hp} : ∀ {n : Nat} {xs : List V}, DAll (List.replicate n (PEx A P)) xs H → ∃ qs : List α, qs.length = n ∧ (∀ q ∈ qs, A q) ∧ DAll (qs.map P) xs H
  | 0, xs, h => ⟨[], rfl, fun q hq => absurd hq (by simp), h⟩
  | n + 1, xs, h => by
    rw [List.replicate_succ] at h
    obtain ⟨x, r, e, ⟨q, hq, hx⟩, h2⟩ := h.inv
    obtain ⟨qs, h3, h4, h5⟩ := DAll.pick h2
    subst e
    refine ⟨q :: qs, by rw [List.length_cons, h3], fun z hz => ?_, DAll.cons hx h5⟩
    rcases List.mem_cons.mp hz with e | h
    · rw [e]
      exact hq
    · exact h4 z h
theorem xs_slotPL (i : Nat) {α : Type} {A : α → Prop} {P : α → Pd} {n : Nat} (hi : Γ[i]? = some (some (PLs (List.replicate n (PEx A P))))) (h : ∀ qs : List α, qs.length = n → (∀ q ∈ qs, A q) → XS M (Γ.set i (some (PLs (qs.map P)))) Rs X Z0 Z Hl D rest) : XS M Γ Rs X Z0 Z Hl D rest := fun σ H0 H l s b k => by
  obtain ⟨v, h1, a, xs, e, h2, h3⟩ := l.2 i _ hi
  obtain ⟨qs, g1, g2, g3⟩ := h3.pick
  have e3 : σ.set i (some v) = σ := by
    have hlt := (List.getElem?_eq_some_iff.mp h1).1
    have := (List.getElem?_eq_some_iff.mp h1).2
    rw [← this]
    exact List.set_getElem_self hlt
  have l2 : Sl (Γ.set i (some (PLs (qs.map P)))) (σ.set i (some v)) H0 := l.set ⟨a, xs, e, h2, g3⟩
  rw [e3] at l2
  exact h qs g1 g2 σ H0 H l2 s b k
/-- x, y = a, [c], the second a list that will grow -/
theorem xs_parM (i j : Nat) {x y : Str} {P Q : Pd} {px py pt pl : Pos} {kt k2 pt2} (ha : XE M Γ Rs X a P) (hq : XE M Γ Rs X c Q) (h : ∀ q, XS M ((Γ.set i (some P)).set j (some (PV (.ref q)))) (Res.lst Z q [Q] :: Rs) X Z0 Z Hl D rest) (hN : X.N.Nodup) (hc : X.calm = true := by rfl) (hi : X.N[i]? = some x := by rfl) (hj : X.N[j]? = some y := by rfl) (hij : i ≠ j := by decide)
    (hx : X.env.scope.names.lookup x = some .local := by rfl) (hy : X.env.scope.names.lookup y = some .local := by rfl) (hw : swappedStores [.Tuple [.Name x px, .Name y py] kt pt] (.Tuple [a, .List [c] pl] k2 pt2) X.env = pure (some [x, y]) := by rfl)
    (hs : swapsWithSole [.Tuple [.Name x px, .Name y py] kt pt] (.Tuple [a, .List [c] pl] k2 pt2) pos.line X.env = pure false := by rfl) (he : starEach [a, .List [c] pl] X.env = (false, eval a X.env) :: starEach [.List [c] pl] X.env := by rfl) (he2 : starEach [.List [c] pl] X.env = (false, eval (.List [c] pl) X.env) :: starEach [] X.env := by rfl)
    (he3 : starEach [c] X.env = (false, eval c X.env) :: starEach [] X.env := by rfl) : XS M Γ Rs X Z0 Z Hl D (.Assign [.Tuple [.Name x px, .Name y py] kt pt] (.Tuple [a, .List [c] pl] k2 pt2) pos :: rest) :=
  xs_cons (ps_par hc hN hi hj hij hx hy (pa_cons pe_wp (pa_cons (pe_lst (pa_cons pe_wp pa_nil he3)) pa_nil he2) he) hw hs) fun σ H0 H l s b r => ha σ H0 H l s.le r _ fun v H1 G1 s1 k1 a1 => hq σ H1 G1 (l.ex s1.ex) s1.le k1 _ fun u H2 G2 s2 k2 a2 => ⟨show 1 ≤ sizeLine by decide, fun p hp => by
    have t := (s.trans s1).trans s2
    have ne : ∀ r ∈ Rs, ∀ a ∈ r.ad, a ≠ p := fun r hr a ha e => by
      obtain ⟨⟨o, h1⟩, _⟩ := r.tr (k2.2 r hr) a ha
      rw [e, hp] at h1
      cases h1
    have hZ : Z p = none := by
      cases e : Z p with
      | none => rfl
      | some o =>
        obtain ⟨o', h'⟩ := t.th p o e
        rw [hp] at h'
        cases h'
    refine ⟨v, .ref p, rfl, h p _ H2 _ (((l.ex (s1.ex.trans s2.ex)).set (P.m s2.ex a1)).set (P := PV (.ref p)) rfl) ⟨fun a o hm ha => ?_, fun a o ha => ?_, t.ex, fun a o ha => ?_, t.nw⟩ (b.trans (s1.ex.trans s2.ex)) ⟨?_, fun r hr => ?_⟩⟩
    · rw [upd_ne (ne_of_none ha hZ)]
      exact t.un a o hm ha
    · obtain ⟨o', h'⟩ := t.th a o ha
      exact ⟨o', by rw [upd_ne (ne_of_none h' hp)]; exact h'⟩
    · rw [upd_ne (ne_of_none (t.le a o ha) hp)]
      exact t.le a o ha
    · rw [List.flatMap_cons, List.nodup_append]
      refine ⟨by simp [Res.lst], k2.1, fun a ha c hc e => ?_⟩
      have e1 : a = p := by simpa [Res.lst] using ha
      obtain ⟨r, hr, hc⟩ := List.mem_flatMap.mp hc
      exact ne r hr c hc (e ▸ e1)
    · obtain e | hr := List.mem_cons.mp hr
      · subst e
        exact ⟨hZ, fresh_back t.le hp, [u], upd_same, DAll.cons a2 DAll.nil⟩
      · exact (k2.wr ne).2 r hr⟩
end
end Lh
namespace Lh
open PySem L2
open Evl (Ex ex_l ex_t ex_rd fresh_back)
section
variable {M : Addr → Prop} {Γ Γ' : Ct} {Rs : List Res} {X : Cx} {Z0 Z Hl : Hp} {D : Ends} {K : PySem.W.Frag} {rest : List Stmt} {a b c e : Expr} {es : List Expr} {pos p : Pos} {i j k : Int}
/-- x, y = a, [c], where x or y is also read further in: the pair is made, then taken apart -/
theorem xs_parC (i j : Nat) {x y : Str} {P Q : Pd} {px py pt pl : Pos} {kt k2 pt2} (ha : XE M Γ Rs X a P) (hq : XE M Γ Rs X c Q) (h : ∀ q, XS M ((Γ.set i (some P)).set j (some (PV (.ref q)))) (Res.lst Z q [Q] :: Rs) X Z0 Z Hl D rest) (hN : X.N.Nodup) (hc : X.calm = true := by rfl) (hx : X.N[i]? = some x := by rfl) (hy : X.N[j]? = some y := by rfl)
    (hl : Loc X.env.scope x := by first | exact Or.inl rfl | exact Or.inr rfl) (hl2 : Loc X.env.scope y := by first | exact Or.inl rfl | exact Or.inr rfl)
    (hf : X.fn x = true ∨ X.env.scope.names.lookup x = some .local := by first | exact .inl rfl | exact .inr rfl) (hf2 : X.fn y = true ∨ X.env.scope.names.lookup y = some .local := by first | exact .inl rfl | exact .inr rfl)
    (hs : swapsWithSole [.Tuple [.Name x px, .Name y py] kt pt] (.Tuple [a, .List [c] pl] k2 pt2) pos.line X.env = pure false := by rfl) (hw : swappedStores [.Tuple [.Name x px, .Name y py] kt pt] (.Tuple [a, .List [c] pl] k2 pt2) X.env = pure none := by rfl)
    (h1 : (assignEach [.Tuple [.Name x px, .Name y py] kt pt] X.env).map (·.2) = [assign (.Tuple [.Name x px, .Name y py] kt pt) X.env] := by rfl)
    (he : starEach [a, .List [c] pl] X.env = (false, eval a X.env) :: starEach [.List [c] pl] X.env := by rfl) (he2 : starEach [.List [c] pl] X.env = (false, eval (.List [c] pl) X.env) :: starEach [] X.env := by rfl)
    (he3 : starEach [c] X.env = (false, eval c X.env) :: starEach [] X.env := by rfl) : XS M Γ Rs X Z0 Z Hl D (.Assign [.Tuple [.Name x px, .Name y py] kt pt] (.Tuple [a, .List [c] pl] k2 pt2) pos :: rest) :=
  xs_cons (ps_asg (pe_tup (pa_cons pe_wp (pa_cons (pe_lst (pa_cons pe_wp pa_nil he3)) pa_nil he2) he)) (pg_tup hc (pgs_cons (pg_name hN hx hl hf) (pgs_cons (pg_name hN hy hl2 hf2) pgs_nil))) hs hw h1) fun σ H0 H l s b r => ha σ H0 H l s.le r _ fun v H1 G1 s1 k1 a1 => hq σ H1 G1 (l.ex s1.ex) s1.le k1 _ fun u H2 G2 s2 k2 a2 => ⟨show 1 ≤ sizeLine by decide, fun p hp => ⟨show 2 ≤ sizeLine by decide, fun t ht => by
    have t2 := (s.trans s1).trans s2
    have ne : ∀ r ∈ Rs, ∀ a ∈ r.ad, a ≠ p := fun r hr a ha e => by
      obtain ⟨⟨o, h1⟩, _⟩ := r.tr (k2.2 r hr) a ha
      rw [e, hp] at h1
      cases h1
    have hZ : Z p = none := by
      cases e : Z p with
      | none => rfl
      | some o =>
        obtain ⟨o', h'⟩ := t2.th p o e
        rw [hp] at h'
        cases h'
    have t3 : Step M Z0 Z H2 (upd G2 p (.lst [u])) := ⟨fun a o hm ha => by
        rw [upd_ne (ne_of_none ha hZ)]
        exact t2.un a o hm ha, fun a o ha => by
        obtain ⟨o', h'⟩ := t2.th a o ha
        exact ⟨o', by rw [upd_ne (ne_of_none h' hp)]; exact h'⟩, t2.ex, fun a o ha => by
        rw [upd_ne (ne_of_none (t2.le a o ha) hp)]
        exact t2.le a o ha, t2.nw⟩
    have k3 : Rok (Res.lst Z p [Q] :: Rs) H2 (upd G2 p (.lst [u])) := ⟨by
        rw [List.flatMap_cons, List.nodup_append]
        refine ⟨by simp [Res.lst], k2.1, fun a ha c hc e => ?_⟩
        have e1 : a = p := by simpa [Res.lst] using ha
        obtain ⟨r, hr, hc⟩ := List.mem_flatMap.mp hc
        exact ne r hr c hc (e ▸ e1), fun r hr => by
        obtain e | hr := List.mem_cons.mp hr
        · subst e
          exact ⟨hZ, fresh_back t2.le hp, [u], upd_same, DAll.cons a2 DAll.nil⟩
        · exact (k2.wr ne).2 r hr⟩
    have s4 := Step.new (M := M) (o := .tup [v, .ref p]) t3.le ht
    have s4' := Step.new (M := M0) (o := .tup [v, .ref p]) t3.le ht
    exact gv_pair (P := P) (Q := PV (.ref p)) (.ref t) σ _ _ (l.ex ((s1.ex.trans s2.ex).trans s4.ex)) s4.le ⟨t, v, .ref p, rfl, SqT.of upd_same, P.m (s2.ex.trans s4.ex) a1, rfl⟩ _ fun σ' l' => h p σ' _ _ l' (t3.trans s4) (b.trans ((s1.ex.trans s2.ex).trans s4.ex)) (k3.step0 s4')⟩⟩
end
end Lh
namespace Lh
open PySem L2
open Evl (Ex ex_l ex_t ex_rd fresh_back)
/-! ### the other box of drawings: its state, its cells, how many were drawn -/
def Res.mixC (b l : Addr) (u : Int) (ns : List Int) (n : Int) : Res where
  ad := [b, l]
  p := fun H0 H => H0 b = none ∧ H0 l = none ∧ H b = some (.lst [.int u, .ref l, .int n]) ∧ H l = some (.lst (ns.map V.int))
  st := fun {H0 H H0' H'} e f q ⟨_, _, h2, h3⟩ => ⟨f b (by simp), f l (by simp), by rw [q b (by simp)]; exact h2, by rw [q l (by simp)]; exact h3⟩
  tr := fun {H0 H} ⟨h0, h1, h2, h3⟩ a ha => by
    obtain e | ha := List.mem_cons.mp ha
    · subst e
      exact ⟨⟨_, h2⟩, h0⟩
    · have e : a = l := by simpa using ha
      subst e
      exact ⟨⟨_, h3⟩, h1⟩
def Res.mix (b l : Addr) : Res where
  ad := [b, l]
  p := fun H0 H => ∃ u ns n, ns.length ≤ 63 ∧ (Res.mixC b l u ns n).p H0 H
  st := fun {H0 H H0' H'} e f q ⟨u, ns, n, hl, h⟩ => ⟨u, ns, n, hl, (Res.mixC b l u ns n).st e f q h⟩
  tr := fun {H0 H} ⟨u, ns, n, hl, h⟩ a ha => (Res.mixC b l u ns n).tr h a ha
/-- a new one, all else as it was -/
def NewMix (v : V) (H H' : Hp) : Prop := ∃ (b l : Addr) (u : Int) (ns : List Int) (n : Int), v = .ref b ∧ b ≠ l ∧ ns.length ≤ 63 ∧ H b = none ∧ H l = none ∧ Ex H H' ∧ H' b = some (.lst [.int u, .ref l, .int n]) ∧ H' l = some (.lst (ns.map V.int))
section
variable {M M' : Addr → Prop} {Γ Γ' : Ct} {Rs : List Res} {X : Cx} {Z0 Z Hl : Hp} {D : Ends} {K : PySem.W.Frag} {rest : List Stmt} {a o c e f i : Expr} {es : List Expr} {pos p : Pos} {k : Int} {b l : Addr} {ns ns' : List Int} {u u' n n' : Int}
theorem cov_mix : Cov (MB b l) (Res.mix b l :: Rs) := fun H0 H k a ha => by
  obtain ⟨u, ns, n, _, _, _, h2, h3⟩ := k.2 _ List.mem_cons_self
  rcases ha with e | e
  · subst e
    exact ⟨_, h2⟩
  · subst e
    exact ⟨_, h3⟩
theorem mix_ne {H0 H : Hp} (k : Rok (Res.mixC b l u ns n :: Rs) H0 H) : b ≠ l := fun e => by
  have nd := k.1
  rw [List.flatMap_cons, List.nodup_append] at nd
  have := nd.1
  simp [Res.mixC, e] at this
theorem mix_wr {H0 H H' : Hp} (k : Rok (Res.mixC b l u ns n :: Rs) H0 H) (s : Step M Z0 Z H0 H) (hb : H' b = some (.lst [.int u', .ref l, .int n'])) (hl : H' l = some (.lst (ns'.map V.int))) (ho : ∀ a, a ≠ b → a ≠ l → H' a = H a) (mb : M b ∨ Z b = none) (ml : M l ∨ Z l = none) :
    Rok (Res.mixC b l u' ns' n' :: Rs) H0 H' ∧ Step M Z0 Z H0 H' := by
  obtain ⟨h0, h1, h2, h3⟩ := k.2 _ List.mem_cons_self
  have nd := k.1
  rw [List.flatMap_cons, List.nodup_append] at nd
  have ne : ∀ r ∈ Rs, ∀ a ∈ r.ad, ∀ c ∈ [b, l], a ≠ c := fun r hr a ha c hc e => nd.2.2 c hc a (List.mem_flatMap.mpr ⟨r, hr, ha⟩) e.symm
  refine ⟨⟨k.1, fun r hr => ?_⟩, ⟨fun a w hm ha => ?_, fun a w ha => ?_, s.ex, fun a w ha => ?_, s.nw⟩⟩
  · obtain e | hr := List.mem_cons.mp hr
    · subst e
      exact ⟨h0, h1, hb, hl⟩
    · have hr' := k.2 r (List.mem_cons_of_mem _ hr)
      exact r.st (Ex.refl _) (fun a ha => (r.tr hr' a ha).2) (fun a ha => ho a (ne r hr a ha b (by simp)) (ne r hr a ha l (by simp))) hr'
  · by_cases e : a = b
    · subst e
      rcases mb with m | m
      · exact absurd m hm
      · rw [m] at ha
        cases ha
    · by_cases e2 : a = l
      · subst e2
        rcases ml with m | m
        · exact absurd m hm
        · rw [m] at ha
          cases ha
      · rw [ho a e e2]
        exact s.un a w hm ha
  · by_cases e : a = b
    · subst e
      exact ⟨_, hb⟩
    · by_cases e2 : a = l
      · subst e2
        exact ⟨_, hl⟩
      · rw [ho a e e2]
        exact s.th a w ha
  · have n1 : a ≠ b := fun e => by
      subst e
      rw [h0] at ha
      cases ha
    have n2 : a ≠ l := fun e => by
      subst e
      rw [h1] at ha
      cases ha
    rw [ho a n1 n2]
    exact s.le a w ha
/-! reading -/
theorem xe_mx0 (ho : XE M Γ (Res.mixC b l u ns n :: Rs) X o (PV (.ref b))) {kc : Nat} {pc : Pos} : XE M Γ (Res.mixC b l u ns n :: Rs) X (.Subscript o (.Constant (.int 0) kc pc) pos) (PD K (.int u)) :=
  YE.wp (pe_ix ix_list pe_wp pe_wp (fun _ _ => rfl)) (ye_op ho (xe_int (K := X.K)) fun x y H0 H hx hy e r => by
    obtain ⟨_, _, h2, h3⟩ := r.2 _ List.mem_cons_self
    exact Yld.val (z := .int u) e rfl fun Q k => ⟨b, _, 0, _, hx, hy, SqL.of h2, rfl, k⟩)
theorem xe_mx1 (ho : XE M Γ (Res.mixC b l u ns n :: Rs) X o (PV (.ref b))) {kc : Nat} {pc : Pos} : XE M Γ (Res.mixC b l u ns n :: Rs) X (.Subscript o (.Constant (.int 1) kc pc) pos) (PV (.ref l)) :=
  YE.wp (pe_ix ix_list pe_wp pe_wp (fun _ _ => rfl)) (ye_op ho (xe_int (K := X.K)) fun x y H0 H hx hy e r => by
    obtain ⟨_, _, h2, h3⟩ := r.2 _ List.mem_cons_self
    exact Yld.val (z := .ref l) e rfl fun Q k => ⟨b, _, 1, _, hx, hy, SqL.of h2, rfl, k⟩)
theorem xe_mx2 (ho : XE M Γ (Res.mixC b l u ns n :: Rs) X o (PV (.ref b))) {kc : Nat} {pc : Pos} : XE M Γ (Res.mixC b l u ns n :: Rs) X (.Subscript o (.Constant (.int 2) kc pc) pos) (PD K (.int n)) :=
  YE.wp (pe_ix ix_list pe_wp pe_wp (fun _ _ => rfl)) (ye_op ho (xe_int (K := X.K)) fun x y H0 H hx hy e r => by
    obtain ⟨_, _, h2, h3⟩ := r.2 _ List.mem_cons_self
    exact Yld.val (z := .int n) e rfl fun Q k => ⟨b, _, 2, _, hx, hy, SqL.of h2, rfl, k⟩)
theorem xe_mxLen (hm : X.mg "len" = none) (ha : XE M Γ (Res.mixC b l u ns n :: Rs) X a (PV (.ref l))) (hg : Gl X "len" := by rfl) (he : starEach [a] X.env = (false, eval a X.env) :: starEach [] X.env := by rfl) : XE M Γ (Res.mixC b l u ns n :: Rs) X (.Call (.Name "len" p) [a] [] pos) (PD X.K (.int (ns.length : Int))) :=
  xe_callB call_len_seq hm PySem.boot_len (xa_1 ha he) (fun xs H0 H hx e r => by
    obtain ⟨x, e1, h1⟩ := da1 hx
    obtain ⟨_, _, h2, h3⟩ := r.2 _ List.mem_cons_self
    have h1' : x = .ref l := h1
    subst e1 h1'
    exact Yld.val (z := .int ((ns.map V.int).length : Int)) e (by rw [List.length_map]; rfl) fun Q k => ⟨l, _, rfl, .inl (SqL.of h3), k⟩) hg (by decide) (by decide) he rfl
/-- the cells and one more -/
theorem xe_mxCat {ms : List Int} (hz : ns.length + ms.length ≤ 1000000) (ha : XE M Γ (Res.mixC b l u ns n :: Rs) X a (PV (.ref l))) (hb : XE M Γ (Res.mixC b l u ns n :: Rs) X c (PD X.K (.list (li ms)))) : XE M Γ (Res.mixC b l u ns n :: Rs) X (.BinOp a .Add c pos) (PD X.K (.list (li (ns ++ ms)))) :=
  xe_bin op_cat ha hb fun x y H0 H hx hy e r => by
    obtain ⟨_, _, h2, h3⟩ := r.2 _ List.mem_cons_self
    obtain ⟨q, ys, ey, h4, h5⟩ := hy
    have hx' : x = .ref l := hx
    have el : li (ns ++ ms) = li ns ++ li ms := by simp [li]
    rw [el]
    exact Yld.newL e (DdAll.app (DdAll.of_ints ns) h5) fun Q k => ⟨l, q, _, ys, hx', ey, h3, e _ _ h4, by rw [List.length_map, h5.len]; exact sl_big (by simpa [li] using hz), k⟩
/-! writing -/
theorem xs_mx0 {kc : Nat} {pc p2 : Pos} (he : XE M Γ (Res.mixC b l u ns n :: Rs) X e (PD X.K (.int u'))) (ho : XE M Γ (Res.mixC b l u ns n :: Rs) X o (PV (.ref b))) (mb : M b ∨ Z b = none) (ml : M l ∨ Z l = none) (h : XS M Γ (Res.mixC b l u' ns n :: Rs) X Z0 Z Hl D rest)
    (hs : swapsWithSole [.Subscript o (.Constant (.int 0) kc pc) p2] e pos.line X.env = pure false := by rfl) (hw : swappedStores [.Subscript o (.Constant (.int 0) kc pc) p2] e X.env = pure none := by rfl)
    (h1 : (assignEach [.Subscript o (.Constant (.int 0) kc pc) p2] X.env).map (·.2) = [assign (.Subscript o (.Constant (.int 0) kc pc) p2) X.env] := by rfl) : XS M Γ (Res.mixC b l u ns n :: Rs) X Z0 Z Hl D (.Assign [.Subscript o (.Constant (.int 0) kc pc) p2] e pos :: rest) :=
  xs_cons (ps_asg pe_wp (pg_sub pe_wp pe_wp set_list) hs hw h1) fun σ H0 H l' s b' r => he σ H0 H l' s.le r _ fun v H1 G1 s1 k1 hv => ho σ H1 G1 (l'.ex s1.ex) s1.le k1 _ fun v2 H2 G2 s2 k2 hv2 => (xe_int (K := X.K)) σ H2 G2 (l'.ex (s1.ex.trans s2.ex)) s2.le k2 _ fun v3 H3 G3 s3 k3 hv3 => by
    have t := ((s.trans s1).trans s2).trans s3
    have hne := mix_ne k3
    obtain ⟨_, _, h2, h3⟩ := k3.2 _ List.mem_cons_self
    have hv' : v = .int u' := hv
    have hv2' : v2 = .ref b := hv2
    have hv3' : v3 = .int 0 := hv3
    subst hv' hv2' hv3'
    refine ⟨b, _, 0, 0, rfl, rfl, h2, rfl, ?_⟩
    obtain ⟨k4, s4⟩ := mix_wr (H' := upd G3 b (.lst ([V.int u, .ref l, .int n].set 0 (.int u')))) k3 t upd_same (by rw [upd_ne hne.symm]; exact h3) (fun a n1 n2 => upd_ne n1) mb ml
    exact h _ H3 _ (l'.ex ((s1.ex.trans s2.ex).trans s3.ex)) s4 (b'.trans ((s1.ex.trans s2.ex).trans s3.ex)) k4
theorem xs_mx2 {kc : Nat} {pc p2 : Pos} (he : XE M Γ (Res.mixC b l u ns n :: Rs) X e (PD X.K (.int n'))) (ho : XE M Γ (Res.mixC b l u ns n :: Rs) X o (PV (.ref b))) (mb : M b ∨ Z b = none) (ml : M l ∨ Z l = none) (h : XS M Γ (Res.mixC b l u ns n' :: Rs) X Z0 Z Hl D rest)
    (hs : swapsWithSole [.Subscript o (.Constant (.int 2) kc pc) p2] e pos.line X.env = pure false := by rfl) (hw : swappedStores [.Subscript o (.Constant (.int 2) kc pc) p2] e X.env = pure none := by rfl)
    (h1 : (assignEach [.Subscript o (.Constant (.int 2) kc pc) p2] X.env).map (·.2) = [assign (.Subscript o (.Constant (.int 2) kc pc) p2) X.env] := by rfl) : XS M Γ (Res.mixC b l u ns n :: Rs) X Z0 Z Hl D (.Assign [.Subscript o (.Constant (.int 2) kc pc) p2] e pos :: rest) :=
  xs_cons (ps_asg pe_wp (pg_sub pe_wp pe_wp set_list) hs hw h1) fun σ H0 H l' s b' r => he σ H0 H l' s.le r _ fun v H1 G1 s1 k1 hv => ho σ H1 G1 (l'.ex s1.ex) s1.le k1 _ fun v2 H2 G2 s2 k2 hv2 => (xe_int (K := X.K)) σ H2 G2 (l'.ex (s1.ex.trans s2.ex)) s2.le k2 _ fun v3 H3 G3 s3 k3 hv3 => by
    have t := ((s.trans s1).trans s2).trans s3
    have hne := mix_ne k3
    obtain ⟨_, _, h2, h3⟩ := k3.2 _ List.mem_cons_self
    have hv' : v = .int n' := hv
    have hv2' : v2 = .ref b := hv2
    have hv3' : v3 = .int 2 := hv3
    subst hv' hv2' hv3'
    refine ⟨b, _, 2, 2, rfl, rfl, h2, rfl, ?_⟩
    obtain ⟨k4, s4⟩ := mix_wr (H' := upd G3 b (.lst ([V.int u, .ref l, .int n].set 2 (.int n')))) k3 t upd_same (by rw [upd_ne hne.symm]; exact h3) (fun a n1 n2 => upd_ne n1) mb ml
    exact h _ H3 _ (l'.ex ((s1.ex.trans s2.ex).trans s3.ex)) s4 (b'.trans ((s1.ex.trans s2.ex).trans s3.ex)) k4
theorem xs_mxl {m : Int} {p2 : Pos} (he : XE M Γ (Res.mixC b l u ns n :: Rs) X e (PD X.K (.int m))) (ho : XE M Γ (Res.mixC b l u ns n :: Rs) X o (PV (.ref l))) (hi : XE M Γ (Res.mixC b l u ns n :: Rs) X i (PD X.K (.int k))) (hk : 0 ≤ k ∧ k < ns.length) (mb : M b ∨ Z b = none) (ml : M l ∨ Z l = none) (h : XS M Γ (Res.mixC b l u (ns.set k.toNat m) n :: Rs) X Z0 Z Hl D rest)
    (hs : swapsWithSole [.Subscript o i p2] e pos.line X.env = pure false := by rfl) (hw : swappedStores [.Subscript o i p2] e X.env = pure none := by rfl)
    (h1 : (assignEach [.Subscript o i p2] X.env).map (·.2) = [assign (.Subscript o i p2) X.env] := by rfl) 
    (ha : ∀ v, assign (.Subscript o i p2) X.env v = (do let ob ← holding [v] (eval o X.env); let at_ ← holding [v, ob] (eval i X.env); standAt p2; holding [v, ob, at_] (setItem ob at_ v); release [v, ob, at_] []) := by intros; rfl) : XS M Γ (Res.mixC b l u ns n :: Rs) X Z0 Z Hl D (.Assign [.Subscript o i p2] e pos :: rest) :=
  xs_cons (ps_asg pe_wp (pg_sub pe_wp pe_wp set_list ha) hs hw h1) fun σ H0 H l' s b' r => he σ H0 H l' s.le r _ fun v H1 G1 s1 k1 hv => ho σ H1 G1 (l'.ex s1.ex) s1.le k1 _ fun v2 H2 G2 s2 k2 hv2 => hi σ H2 G2 (l'.ex (s1.ex.trans s2.ex)) s2.le k2 _ fun v3 H3 G3 s3 k3 hv3 => by
    have t := ((s.trans s1).trans s2).trans s3
    have hne := mix_ne k3
    obtain ⟨_, _, h2, h3⟩ := k3.2 _ List.mem_cons_self
    have hv' : v = .int m := hv
    have hv2' : v2 = .ref l := hv2
    have hv3' : v3 = .int k := hv3
    subst hv' hv2' hv3'
    have ek : k = (k.toNat : Int) := by omega
    refine ⟨l, _, k, k.toNat, rfl, rfl, h3, ?_, ?_⟩
    · rw [ek]
      exact Evl.ixN_nat (by rw [List.length_map]; omega)
    have eset : (ns.map V.int).set k.toNat (V.int m) = (ns.set k.toNat m).map V.int := (List.map_set ..).symm
    rw [eset]
    obtain ⟨k4, s4⟩ := mix_wr (H' := upd G3 l (.lst ((ns.set k.toNat m).map V.int))) (ns' := ns.set k.toNat m) k3 t (by rw [upd_ne hne]; exact h2) upd_same (fun a n1 n2 => upd_ne n2) mb ml
    exact h _ H3 _ (l'.ex ((s1.ex.trans s2.ex).trans s3.ex)) s4 (b'.trans ((s1.ex.trans s2.ex).trans s3.ex)) k4
/-- return [e, list(script), f] -/
theorem xs_retMix {p1 p2 p3 : Pos} (hm : X.mg "list" = none) (hl : ns.length ≤ 63) (he : XE M0 Γ [] X e (PD X.K (.int u))) (ha : XE M0 Γ [] X a (PSc X.K ns)) (hf : XE M0 Γ [] X f (PD X.K (.int n))) (h : ∀ v H, NewMix v Z H → D.rt v H) (hg : Gl X "list" := by rfl) (hs : starEach [a] X.env = (false, eval a X.env) :: starEach [] X.env := by rfl)
    (hs1 : starEach [e, .Call (.Name "list" p1) [a] [] p2, f] X.env = (false, eval e X.env) :: starEach [.Call (.Name "list" p1) [a] [] p2, f] X.env := by rfl) (hs2 : starEach [.Call (.Name "list" p1) [a] [] p2, f] X.env = (false, eval (.Call (.Name "list" p1) [a] [] p2) X.env) :: starEach [f] X.env := by rfl)
    (hs3 : starEach [f] X.env = (false, eval f X.env) :: starEach [] X.env := by rfl) : XS M0 Γ [] X Z0 Z Hl D (.Return (some (.List [e, .Call (.Name "list" p1) [a] [] p2, f] p3)) pos :: rest) :=
  xs_cons (ps_ret (pe_lst (pa_cons pe_wp (pa_cons (pe_callTy call_list_of hg hm (by decide +kernel) (pa_cons pe_wp pa_nil hs) (by decide) (by decide) hs rfl) (pa_cons pe_wp pa_nil hs3) hs2) hs1))) fun σ H0 H l s b k => by
    refine he σ H0 H l s.le k _ fun v0 G0 G0' s0 k0 hv0 => ?_
    have hv0' : v0 = .int u := hv0
    subst hv0'
    have t0 := s.trans s0
    refine ha σ G0 G0' (l.ex s0.ex) s0.le k0 _ fun v H1 G1 s1 k1 hv => ?_
    obtain ⟨q, e1, h1⟩ := hv
    subst e1
    refine ⟨q, _, rfl, .inl (ex_l s1.le h1), fun c hc => ?_⟩
    have t1 := t0.trans s1
    have t2 := t1.trans (Step.new (M := M0) (o := HO.lst (ns.map V.int)) t1.le hc)
    refine hf σ _ _ (l.ex ((s0.ex.trans s1.ex).trans (Ex.new (fresh_back t1.le hc)))) t2.le (k1.step0 (Step.new t1.le hc)) _ fun v2 H2 G2 s2 k2 hv2 => ?_
    have hv2' : v2 = .int n := hv2
    subst hv2'
    refine ⟨by simp; decide, fun d hd => h _ _ ⟨d, c, u, ns, n, rfl, ?_, hl, ?_, ?_, ?_, upd_same, ?_⟩⟩
    · intro e
      subst e
      obtain ⟨u, hu⟩ := s2.th d _ upd_same
      rw [hd] at hu
      cases hu
    · cases hz : Z d with
      | none => rfl
      | some u =>
        obtain ⟨u', hu⟩ := (t2.trans s2).th d u hz
        rw [hd] at hu
        cases hu
    · cases hz : Z c with
      | none => rfl
      | some u =>
        obtain ⟨u', hu⟩ := t1.th c u hz
        rw [hc] at hu
        cases hu
    · intro x u hx
      have := (t2.trans s2).un x u (fun z => z) hx
      rw [upd_ne (ne_of_none this hd)]
      exact this
    · have := s2.un c _ (fun z => z) upd_same
      rw [upd_ne (ne_of_none this hd)]
      exact this
/-- box = mixed(script, seed) -/
theorem xs_mixed {P' : Program} {w' : World} {K' : PySem.W.Frag} {mg' : Str → Option Value} {base' : Heap} (m : Nat) {x fn : Str} {g : Addr} {fd : FuncData} {ps : List Str} {kk : Nat} {pf p2 p3 : Pos} (F : FnOk P' w' K' mg' base' CX0 kk g fd ps (SpG (α := { q : List Int × Int // q.1.length ≤ 63 }) (fun q => [PSc K' q.1.1, PD K' (.int q.1.2)]) (fun _ => NewMix))) (hr : Room kk X.A) (hm : mg' fn = some (.ref g)) (hk : PySem.W.keepIn K' (.ref g) = true)
    (hb : Binds K' fd ps []) (hl : ns.length ≤ 63) (ha : XE M0 Γ [] X a (PSc K' ns)) (hf : XE M0 Γ [] X f (PD K' (.int n))) (h : ∀ b l, b ≠ l → Z b = none → Z l = none → XS M0 (Γ.set m (some (PV (.ref b)))) [Res.mix b l] X Z0 Z Hl D rest) (hN : X.N.Nodup) (hi : X.N[m]? = some x := by rfl) (hx : Loc X.env.scope x := by first | exact Or.inl rfl | exact Or.inr rfl)
    (hg : Gl X fn := by rfl) (hdb : (fn == ("__debug__" : Str)) = false := by decide) (he : starEach [a, f] X.env = (false, eval a X.env) :: starEach [f] X.env := by rfl) (he2 : starEach [f] X.env = (false, eval f X.env) :: starEach [] X.env := by rfl) (hpl : (backTo p2 (starEach [f] X.env)).any (·.1) = false := by rfl)
    (hs : swapsWith (.Call (.Name fn pf) [a, f] [] p2) (some (.Name x p3)) pos.line X.env = pure false := by rfl) (hfn : X.fn x = true ∨ X.env.scope.names.lookup x = some .local := by first | exact .inl rfl | exact .inr rfl)
    (eP : X.prog = P' := by rfl) (ew : X.w = w' := by rfl) (eK : X.K = K' := by rfl) (em : X.mg = mg' := by rfl) (eb : X.base = base' := by rfl) : XS M0 Γ [] X Z0 Z Hl D (.Assign [.Name x p3] (.Call (.Name fn pf) [a, f] [] p2) pos :: rest) := by
  subst eP ew eK em eb
  refine xs_cons (ps_set hN hi hx (pe_call F hr hg hm hk hb (dvs := []) .nil pass0 (pa_cons pe_wp (pa_cons pe_wp pa_nil he2) he) hdb he hpl) hs hfn) fun σ H0 H l s b k => ha σ H0 H l s.le k _ fun v H1 G1 s1 k1 hv => hf σ H1 G1 (l.ex s1.ex) s1.le k1 _ fun v2 H1' G1' s1' k1' hv2 => ?_
  have t := (s.trans s1).trans s1'
  refine ⟨⟨(ns, n), hl⟩, H1', s1'.le, ?_, fun u G2 nb => ?_⟩
  · exact DAll.cons ((PSc X.K ns).m s1'.ex hv) (DAll.cons hv2 DAll.nil)
  · obtain ⟨q, c, u2, ns2, n2, e1, hne, hl2, hq, hc, ex2, g1, g2⟩ := nb
    subst e1
    have fr : ∀ a, G1' a = none → Z a = none := fun a ha => by
      cases hz : Z a with
      | none => rfl
      | some u =>
        obtain ⟨u', hu⟩ := t.th a u hz
        rw [ha] at hu
        cases hu
    refine h q c hne (fr q hq) (fr c hc) _ H1' G2 ((l.ex (s1.ex.trans s1'.ex)).set rfl) ⟨fun a u hm ha => ex2 a u (t.un a u hm ha), fun a u ha => ?_, t.ex, fun a u ha => ex2 a u (t.le a u ha), t.nw⟩ (b.trans (s1.ex.trans s1'.ex)) ⟨?_, fun r hr => ?_⟩
    · obtain ⟨u', hu⟩ := t.th a u ha
      exact ⟨u', ex2 a u' hu⟩
    · simp [Res.mix, hne]
    · have e : r = Res.mix q c := by simpa using hr
      subst e
      exact ⟨u2, ns2, n2, hl2, fresh_back t.le hq, fresh_back t.le hc, g1, g2⟩
/-- the box is opened, and closed -/
theorem xs_openMix (h : ∀ u ns n, ns.length ≤ 63 → XS M Γ (Res.mixC b l u ns n :: Rs) X Z0 Z Hl D rest) : XS M Γ (Res.mix b l :: Rs) X Z0 Z Hl D rest := fun σ H0 H l' s b' k => by
  obtain ⟨u, ns, n, hl, q⟩ := k.2 _ List.mem_cons_self
  exact h u ns n hl σ H0 H l' s b' ⟨k.1, fun r hr => by
    obtain e | hr := List.mem_cons.mp hr
    · subst e
      exact q
    · exact k.2 r (List.mem_cons_of_mem _ hr)⟩
theorem Rok.closeMix {H0 H : Hp} (hl : ns.length ≤ 63) (k : Rok (Res.mixC b l u ns n :: Rs) H0 H) : Rok (Res.mix b l :: Rs) H0 H := ⟨k.1, fun r hr => by
  obtain e | hr := List.mem_cons.mp hr
  · subst e
    exact ⟨u, ns, n, hl, k.2 _ List.mem_cons_self⟩
  · exact k.2 r (List.mem_cons_of_mem _ hr)⟩
/-- i ** j, both small -/
theorem xe_powS {x y : Int} (ha : XE M Γ Rs X a (PD K (.int x))) (hb : XE M Γ Rs X c (PD K (.int y))) (h : CPow x y) : XE M Γ Rs X (.BinOp a .Pow c pos) (PD K (.int (x ^ y.toNat))) := xe_bin op_pow ha hb fun x y H0 H hx hy e _ => yl_I h (fun _ => rfl) hx hy e
end
section
variable {K : PySem.W.Frag} {mg : Str → Option Value} {base : Heap} {P : Program} {w : World}
/-- the law, its script no longer than 63 -/
theorem fn_L63 {x qual : Str} {st : Stmt} {f : Addr} {fd : FuncData} {N ps : List Str} {k : Nat} (F : Fun K x qual st f fd) (S : FnScope N ps (defScope st)) (len : ps.length = 1)
    (hb : ∀ (ns : List Int) (hl : ns.length ≤ 63) (Z0 Z : Hp) (Q : VK) (X : Cx) (qX : ∃ (cdv : Value) (A : Around) (outer : List Env) (s : Shared) (E : XK), X = (cxOf CX0 P w K mg base N qual (defScope st) f cdv A outer s Z E).nox ∧ Room k X.A), (∀ H', Q (.bl true) H') →
      XS M0 (ctOf N [PSc K ns]) [] X Z0 Z Z0 { nx := fun _ H' => Q .non H', rt := Q } (defBody st)) : FnOk P w K mg base CX0 (k + 1) f fd ps (spLaw K) := by
  refine F.ok S (fun vs H Q E h => ?_) (fun cdv A outer s H vs Q E hr h => ?_)
  · obtain ⟨a, ns, e, _⟩ := h
    rw [e, len]
    rfl
  · obtain ⟨a, ns, e, h1, hl, _, q⟩ := h
    subst e
    exact ⟨_, pss_wp, hb ns hl H H Q _ ⟨cdv, A, outer, s, E, rfl, hr⟩ q _ H H (sl_start (DAll.cons ⟨a, rfl, h1⟩ DAll.nil)) (Step.rfl (Ex.refl _)) (Ex.refl _) Rok.nil⟩
end
end Lh
namespace K33
open PySem L2 Lh
section
variable {K : PySem.W.Frag} {mg : Str → Option Value} {base : Heap} {P : Program} {w : World}
abbrev spMix (K : PySem.W.Frag) : Sp := SpG (α := { q : List Int × Int // q.1.length ≤ 63 }) (fun q => [PSc K q.1.1, PD K (.int q.1.2)]) (fun _ => NewMix)
theorem ok_law_mix (T : Txt K mg) : FnOk P w K mg base CX0 1 T.f__law_mix T.d__law_mix ["_law_script", "_law_seed"] (spMix K) := by
  refine fn_G T.F__law_mix sc__law_mix (fun _ => rfl) fun ⟨⟨ns, sd⟩, hl⟩ Z0 Z Q X qX hQ => ?_
  obtain ⟨cdv, A, outer, s, E, rfl, hr⟩ := qX
  refine xs_asg 2 (P := PD K (.int sd)) (xe_var 1) ?_ sc__law_mix.nd
  refine xs_forN 3 (xi_sc (ns := ns) (xe_var 0)) (fun _ Γ1 Rs1 => Rs1 = [] ∧ ∃ (n : Int) (a : Option Pd), Γ1 = [some (PSc K ns), some (PD K (.int sd)), some (PD K (.int n)), a]) ⟨rfl, sd, none, rfl⟩ ?_ ?_ sc__law_mix.nd
  · rintro t Qt Γ1 Rs1 hq ⟨rfl, n, a, rfl⟩ Hs
    obtain ⟨d, hd, rfl⟩ := map_at hq
    obtain ⟨c, hc, rfl⟩ := li_at hd
    refine xs_asg 2 (xe_mod (xe_intI T.z_int (xe_add (xe_add (xe_mulB (xe_var 2) (xe_int (K := K)) (by decide)) (xe_mod (xe_intI T.z_int (xe_var 3)) xe_int (by decide))) xe_int)) xe_int (by decide)) (xs_turn (fun σ H h => h) ⟨rfl, _, _, rfl⟩) sc__law_mix.nd
  · rintro Γ1 Rs1 ⟨rfl, n, a, rfl⟩
    exact xs_retMix T.z_list hl (xe_var 2) (xe_var 0) xe_int fun v H h => hQ v H h
abbrev spMNext (K : PySem.W.Frag) : Sp := SpF (α := { p : (Addr × Addr) × Int // 1 ≤ p.2 ∧ p.2.natAbs.log2 < 9000 }) (fun p => MB p.1.1.1 p.1.1.2) (fun p => [Res.mix p.1.1.1 p.1.1.2]) (fun p => [PV (.ref p.1.1.1), PD K (.int p.1.2)]) (fun p => PIn K 0 p.1.2)
theorem ok_law_next (T : Txt K mg) : FnOk P w K mg base CX0 1 T.f__law_next T.d__law_next ["_law_h", "_law_limit"] (spMNext K) := by
  refine fn_F T.F__law_next sc__law_next (fun _ => rfl) fun ⟨⟨⟨b, l⟩, m⟩, h1, h2⟩ Z0 Z Q X qX hQ => ?_
  obtain ⟨cdv, A, outer, s, E, rfl, hr⟩ := qX
  have h1' : 1 ≤ m := h1
  have h2' : m.natAbs.log2 < 9000 := h2
  have hd : ∀ i : Int, CDivW i m := fun i => ⟨by omega, h2'⟩
  have hin : ∀ i : Int, 0 ≤ i % m ∧ i % m < m := fun i => ⟨Int.emod_nonneg _ (by omega), Int.emod_lt_of_pos _ (by omega)⟩
  refine xs_openMix fun u ns n hl => ?_
  obtain ⟨k, hk⟩ : ∃ k : Int, k = n % max 1 (ns.length : Int) := ⟨_, rfl⟩
  have k0 : 0 ≤ k := by rw [hk]; exact Int.emod_nonneg _ (by omega)
  have k1 : k < max 1 (ns.length : Int) := by rw [hk]; exact Int.emod_lt_of_pos _ (by omega)
  have hkl : k.toNat < (ns ++ [0]).length := by rw [List.length_append, List.length_singleton]; omega
  obtain ⟨cell, hc⟩ : ∃ cell : Int, (ns ++ [0])[k.toNat]? = some cell := ⟨_, List.getElem?_eq_getElem hkl⟩
  have hat : atI (li (ns ++ [0])) k = some (.int cell) := by
    have ek : k = (k.toNat : Int) := by omega
    rw [ek]
    refine atI_nat ?_
    rw [li, List.getElem?_map, hc]
    rfl
  refine xs_asg 2 (P := PD K (.int cell)) (xe_ixL (xe_mxCat (ms := [0]) (by simp; omega) (xe_mx1 (xe_var 0)) (xe_lst (ds := [.int 0]) (xa_1 (xe_int (K := K))) (by simp))) (xe_mod (xe_intI T.z_int (xe_mx2 (xe_var 0))) (xe_max2 T.z_max (xe_int (K := K)) (xe_mxLen T.z_len (xe_mx1 (xe_var 0)))) (by omega)) (by rw [← hk]; exact hat)) ?_ sc__law_next.nd
  refine xs_if (xt_ge (K := K) (xe_var 2) (xe_powS (x := 10) (y := 18) xe_int xe_int ⟨by decide, by decide, by decide⟩)) (fun hb => ?_) fun hb => xs_then ?_
  · have hge : (10 : Int) ^ (18 : Int).toNat ≤ cell := of_decide_eq_true (show decide ((10 : Int) ^ (18 : Int).toNat ≤ cell) = true from hb.symm)
    have hpos : 0 < (ns.length : Int) := by
      cases ns with
      | nil =>
        have e : k.toNat = 0 := by
          have h : k < max 1 (([] : List Int).length : Int) := k1
          simp at h
          omega
        rw [e] at hc
        have e2 : (0 : Int) = cell := Option.some.inj hc
        rw [← e2] at hge
        exact absurd hge (by decide)
      | cons x xs => simp
    refine xs_mxl (m := cell / m) (k := n % (ns.length : Int)) (xe_fdiv (xe_var 2) (xe_var 1) (hd cell)) (xe_mx1 (xe_var 0)) (xe_mod (xe_intI T.z_int (xe_mx2 (xe_var 0))) (xe_mxLen T.z_len (xe_mx1 (xe_var 0))) hpos) ⟨Int.emod_nonneg _ (by omega), Int.emod_lt_of_pos _ hpos⟩ (.inl (.inl rfl)) (.inl (.inr rfl)) ?_
    exact xs_ret (xe_mod (K := K) (xe_intI T.z_int (xe_var 2)) (xe_var 1) (by show 0 < m; omega)) fun v H0 H s k hv => hQ v H0 H s (k.closeMix (by rw [List.length_set]; exact hl)) ⟨_, hin _, hv⟩
  · refine xs_mx0 (xe_mod (xe_intI T.z_int (xe_add (xe_add (xe_mulB (xe_mx0 (xe_var 0)) (xe_int (K := K)) (by decide)) (xe_mulB (xe_var 2) xe_int (by decide))) xe_int)) xe_int (by decide)) (xe_var 0) (.inl (.inl rfl)) (.inl (.inr rfl)) ?_
    refine xs_mx2 (xe_add (xe_mx2 (K := K) (xe_var 0)) xe_int) (xe_var 0) (.inl (.inl rfl)) (.inl (.inr rfl)) ?_
    exact xs_ret (xe_mod (xe_intI T.z_int (xe_fdiv (xe_mx0 (K := K) (xe_var 0)) xe_int (wide_div (b := 30) (by decide) (by decide) (by decide) (by decide)))) (xe_var 1) (by show 0 < m; omega)) fun v H0 H s k hv => hQ v H0 H s (k.closeMix hl) ⟨_, hin _, hv⟩
end
end K33
namespace K33
open PySem L2 Lh
section
variable {M : Addr → Prop} {Γ : Ct} {Rs : List Res} {X : Cx} {Z0 Z Hl : Hp} {D : Ends} {rest : List Stmt}
theorem xs_yes {c : Expr} {a b : List Stmt} {pos : Pos} (hc : XT M Γ Rs X c (Is true)) (h : XS M Γ Rs X Z0 Z Hl { D with nx := wpB X rest D } a) : XS M Γ Rs X Z0 Z Hl D (.If c a b pos :: rest) := xs_if hc (fun _ => h) fun q => Bool.noConfusion q
end
theorem rep_bool (f : Int) (t : Bool) : (List.replicate (b2n t).toNat [PyData.int f]).flatten = li (if t = true then [f] else []) := by
  cases t <;> rfl
/-- what a drawing among the floors may have made so far -/
def SubR (f : Int) (every : List Int) (i : Nat) (ds : List PyData) : Prop := ∃ x : List Int, ds = li x ∧ x.Sublist (every.take i) ∧ (f ∈ every.take i → f ∈ x)
theorem SubR.yes {f : Int} {every : List Int} {i : Nat} {ds : List PyData} {n : Int} (hn : every[i]? = some n) (h : SubR f every i ds) : SubR f every (i + 1) (ds ++ [.int n]) := by
  obtain ⟨x, rfl, h1, h2⟩ := h
  have e : every.take (i + 1) = every.take i ++ [n] := by rw [List.take_add_one, hn]; rfl
  refine ⟨x ++ [n], by simp [li], ?_, ?_⟩
  · rw [e]
    exact h1.append (List.Sublist.refl _)
  · rw [e]
    intro hf
    rcases List.mem_append.mp hf with hf | hf
    · exact List.mem_append_left _ (h2 hf)
    · exact List.mem_append_right _ hf
theorem SubR.no {f : Int} {every : List Int} {i : Nat} {ds : List PyData} {n : Int} (hn : every[i]? = some n) (hne : ¬ n = f) (h : SubR f every i ds) : SubR f every (i + 1) ds := by
  obtain ⟨x, rfl, h1, h2⟩ := h
  have e : every.take (i + 1) = every.take i ++ [n] := by rw [List.take_add_one, hn]; rfl
  refine ⟨x, rfl, ?_, ?_⟩
  · rw [e]
    exact h1.trans (List.sublist_append_left _ _)
  · rw [e]
    intro hf
    rcases List.mem_append.mp hf with hf | hf
    · exact h2 hf
    · have : f = n := by simpa using hf
      exact absurd this.symm hne
theorem SubR.zero {f : Int} {every : List Int} : SubR f every 0 [] := ⟨[], rfl, List.Sublist.slnil, fun h => by simp at h⟩
theorem SubR.fin {f : Int} {every : List Int} {ds : List PyData} {i : Nat} (hi : i = every.length) (h : SubR f every i ds) : ∃ x : List Int, ds = li x ∧ x.Sublist every ∧ (f ∈ every → f ∈ x) := by
  subst hi
  obtain ⟨x, h1, h2, h3⟩ := h
  rw [List.take_length] at h2 h3
  exact ⟨x, h1, h2, h3⟩
/-- a place among the ints of a list -/
theorem ixE_li {ns : List Int} {k : Int} (h : 0 ≤ k ∧ k < ns.length) : ∃ d, atI (li ns) k = some d ∧ ∃ f, d = .int f ∧ f ∈ ns := by
  have hlt : k.toNat < ns.length := by omega
  have e : k = (k.toNat : Int) := by omega
  have q : (li ns)[k.toNat]? = some (.int ns[k.toNat]) := by simp [li, hlt]
  have r := atI_nat q
  rw [← e] at r
  exact ⟨_, r, _, rfl, List.getElem_mem _⟩
theorem rgI_up (n : Nat) : (rgI 0 n).Pairwise (· < ·) := by
  unfold rgI
  rw [List.pairwise_map]
  exact List.Pairwise.imp (fun h => by omega) List.pairwise_lt_range
theorem bells_of {b : List Int} {n : Nat} (h : b.Sublist (rgI 0 n)) : BellsOk b (rgI 0 n) where
  among := fun x hx => h.subset hx
  up := fun t m k hm hk => by
    have p := List.pairwise_iff_getElem.mp ((rgI_up n).sublist h)
    obtain ⟨l1, e1⟩ := List.getElem?_eq_some_iff.mp hm
    obtain ⟨l2, e2⟩ := List.getElem?_eq_some_iff.mp hk
    rw [← e1, ← e2]
    exact p t (t + 1) l1 l2 (by omega)
def GapR (wd : Int) (i : Nat) (ds : List PyData) : Prop := ∃ g : List Int, ds = li g ∧ g.length = i ∧ ∀ x ∈ g, 1 ≤ x ∧ x ≤ wd
theorem GapR.step {wd : Int} {i : Nat} {ds : List PyData} {n : Int} (hn : 1 ≤ n ∧ n ≤ wd) (h : GapR wd i ds) : GapR wd (i + 1) (ds ++ [.int n]) := by
  obtain ⟨g, rfl, h1, h2⟩ := h
  refine ⟨g ++ [n], by simp [li], by simp [h1], fun x hx => ?_⟩
  rcases List.mem_append.mp hx with hx | hx
  · exact h2 x hx
  · have e : x = n := by simpa using hx
    subst e
    exact hn
abbrev drawnD (g b : List Int) : PyData := .tuple [.tuple (li g), .tuple (li b)]
theorem far_self (g : List Int) (f : Int) : far g f f = 0 := by
  unfold far
  have e : (max f f).toNat - (min f f).toNat = 0 := by omega
  rw [e]
  rfl
section
variable {K : PySem.W.Frag} {mg : Str → Option Value} {base : Heap} {P : Program} {w : World}
/-- a drawing -/
theorem xe_next (T : Txt K mg) {M : Addr → Prop} {Γ : Ct} {Rs2 : List Res} {X : Cx} {o e : Expr} {p pos : Pos} {b l : Addr} {m : Int} (hr : Room 1 X.A) (ho : XE M Γ (Res.mix b l :: Rs2) X o (PV (.ref b))) (he : XE M Γ (Res.mix b l :: Rs2) X e (PD K (.int m))) (h1 : 1 ≤ m) (h2 : m < 1000000) (hm : ∀ a, MB b l a → M a)
    (hg : Gl X "_law_next" := by rfl) (hs : starEach [o, e] X.env = (false, eval o X.env) :: starEach [e] X.env := by rfl) (hs2 : starEach [e] X.env = (false, eval e X.env) :: starEach [] X.env := by rfl) (hpl : (backTo pos (starEach [e] X.env)).any (·.1) = false := by rfl)
    (eK : X.K = K := by rfl) (em : X.mg = mg := by rfl) : XE M Γ (Res.mix b l :: Rs2) X (.Call (.Name "_law_next" p) [o, e] [] pos) (PIn K 0 m) :=
  xe_callM (ok_law_next (P := X.prog) (w := X.w) (base := X.base) T) hr T.g__law_next T.F__law_next.kp T.b__law_next (xa_cons ho (xa_1 he hs2) hs) (fun vs H h => ⟨⟨((b, l), m), h1, (wide_div (i := 0) (b := 30) (by omega) (by omega) (by decide) (by decide)).2⟩, h, rfl, hm, fun a ha => by
    have ha' : a = b ∨ a = l := ha
    simpa [Res.mix] using ha', fun _ _ h => h⟩) hg (by decide) hs hpl rfl rfl eK em rfl
/-- a drawing below what was drawn -/
theorem xe_nextE (T : Txt K mg) {M : Addr → Prop} {Γ : Ct} {Rs2 : List Res} {X : Cx} {o e : Expr} {p pos : Pos} {b l : Addr} {A : Int → Prop} {hi : Int} (hr : Room 1 X.A) (ho : XE M Γ (Res.mix b l :: Rs2) X o (PV (.ref b))) (he : XE M Γ (Res.mix b l :: Rs2) X e (PEx A fun m => PD K (.int m))) (h1 : ∀ m, A m → 1 ≤ m ∧ m ≤ hi) (h2 : hi < 1000000) (hm : ∀ a, MB b l a → M a)
    (hg : Gl X "_law_next" := by rfl) (hs : starEach [o, e] X.env = (false, eval o X.env) :: starEach [e] X.env := by rfl) (hs2 : starEach [e] X.env = (false, eval e X.env) :: starEach [] X.env := by rfl) (hpl : (backTo pos (starEach [e] X.env)).any (·.1) = false := by rfl)
    (eK : X.K = K := by rfl) (em : X.mg = mg := by rfl) : XE M Γ (Res.mix b l :: Rs2) X (.Call (.Name "_law_next" p) [o, e] [] pos) (PIn K 0 hi) :=
  xe_callM (ok_law_next (P := X.prog) (w := X.w) (base := X.base) T) hr T.g__law_next T.F__law_next.kp T.b__law_next (xa_cons ho (xa_1 he hs2) hs) (fun vs H h => by
    obtain ⟨v1, r, e1, q1, h3⟩ := h.inv
    obtain ⟨v2, r', e2, ⟨m, hA, q2⟩, h4⟩ := h3.inv
    have e3 := h4.nil_inv
    subst e1 e2 e3
    obtain ⟨m1, m2⟩ := h1 m hA
    refine ⟨⟨((b, l), m), m1, (wide_div (i := 0) (b := 30) (by omega) (by omega) (by decide) (by decide)).2⟩, DAll.cons q1 (DAll.cons q2 DAll.nil), rfl, hm, fun a ha => ?_, fun v H ⟨k, hk, hv⟩ => ⟨k, ⟨hk.1, ?_⟩, hv⟩⟩
    · have ha' : a = b ∨ a = l := ha
      simpa [Res.mix] using ha'
    · have h : k < m := hk.2
      omega) hg (by decide) hs hpl rfl rfl eK em rfl
abbrev spFar (K : PySem.W.Frag) : Sp := SpP (α := { p : List Int × Int × Int // 0 ≤ p.2.1 ∧ 0 ≤ p.2.2 }) (fun p => [PD K (.tuple (li p.1.1)), PD K (.int p.1.2.1), PD K (.int p.1.2.2)]) (fun p => PD K (.int (far p.1.1 p.1.2.1 p.1.2.2)))
theorem ok_law_far (T : Txt K mg) : FnOk P w K mg base CX0 1 T.f__law_far T.d__law_far ["_law_gaps", "_law_one", "_law_other"] (spFar K) := by
  refine fn_F T.F__law_far sc__law_far (fun _ => rfl) fun ⟨⟨g, i, j⟩, hi, hj⟩ Z0 Z Q X qX hQ => ?_
  obtain ⟨cdv, A, outer, s, E, rfl, hr⟩ := qX
  have hi' : 0 ≤ i := hi
  have hj' : 0 ≤ j := hj
  have h0 : 0 ≤ min i j := by omega
  have h1 : 0 ≤ max i j := by omega
  exact xs_ret (xe_sumT T.z_sum (YE.to (xe_slT2 (xe_var 0) (xe_min2 T.z_min (xe_var 1) (xe_var 2)) (xe_max2 T.z_max (xe_var 1) (xe_var 2)) h0 h1) (by rw [li_cut]))) fun v H0 H s k hv => hQ v H0 H s k hv
abbrev spLNext (K : PySem.W.Frag) : Sp := SpP (α := { p : (List Int × List Int) × Int × Row // (0 ≤ p.2.1 ∧ p.2.1 ≤ p.1.1.length) ∧ p.1.1.length ≤ 9 ∧ p.2.2.Ok p.1.1 }) (fun p => [PD K (drawnD p.1.1.1 p.1.1.2), PD K (.int p.1.2.1), PD K (.tuple p.1.2.2.ds)]) (fun p => PD K (.list (li (nextF p.1.1.1 p.1.1.2 p.1.2.2 p.1.2.1))))
theorem ok_law_next_floors (T : Txt K mg) : FnOk P w K mg base CX0 2 T.f__law_next_floors T.d__law_next_floors ["_law_drawn", "_law_floor", "_law_row_here"] (spLNext K) := by
  refine fn_F T.F__law_next_floors sc__law_next_floors (fun _ => rfl) fun ⟨⟨⟨g, b⟩, f, r⟩, hf, h9, hok⟩ Z0 Z Q X qX hQ => ?_
  obtain ⟨cdv, A, outer, s, E, rfl, hr⟩ := qX
  have hf' : 0 ≤ f ∧ f ≤ g.length := hf
  have h9' : g.length ≤ 9 := h9
  refine xs_asg 3 (YE.dat (d' := .list (li (rgI 0 (g.length + 1)))) (xe_listRg T.z_list T.z_range (xe_add (xe_lenT T.z_len (xe_ixT (d := .tuple (li g)) (xe_var 0) xe_int rfl)) xe_int) (by simp [li]; omega)) (by
    have e : (((li g).length : Int) + 1).toNat = g.length + 1 := by simp [li]
    show PyData.list (li (rgI 0 (((li g).length : Int) + 1).toNat)) = _
    rw [e])) ?_ sc__law_next_floors.nd
  cases r with
  | go s =>
    have hs1 : 1 ≤ s := (show 1 ≤ s ∧ s ≤ 81 from hok).1
    refine xs_yes (YT.eq (xt_eqS (K := K) (s := "go") (xe_ixT (d := .str "go") (xe_var 2) xe_int rfl) xe_str) (by decide +kernel)) ?_
    refine xs_ret (YE.dat (xe_filtI 4 (fun n => .int n) (fun o => !decide (o = f) && decide (far g f o = s)) (xi_list (xe_var 3))
      (fun n hn s0 H0 C cl fp => ?_)
      (fun n hn _ s0 H0 C cl fp => xe_var 4) sc__law_next_floors.nd (blkOk_by rfl) (by simp only [rgI_len]; omega) cov0 (fun _ _ _ _ _ => pg_name (i := 4) sc__law_next_floors.nd rfl (Or.inl rfl))) ?_) fun v H0 H s k hv => hQ v H0 H s k hv
    · refine xt_andB ?_ fun _ => ?_
      · exact xt_neI (K := K) (xe_var 4) (xe_var 1)
      · refine xt_eqI (K := K) (i := far g f n) (j := s) ?_ ?_
        · exact xe_callD (ok_law_far T) ⟨(g, f, n), hf'.1, (fl_in hn).1⟩ hr T.g__law_far T.F__law_far.kp T.b__law_far (xa_cons (xe_ixT (d := .tuple (li g)) (xe_var 0) xe_int rfl) (xa_cons (xe_var 1) (xa_1 (xe_var 4))))
        · exact xe_ixT (xe_var 2) xe_int rfl
    · show PyData.list (((rgI 0 (g.length + 1)).filter fun o => !decide (o = f) && decide (far g f o = s)).map fun n => .int n) = .list (li ((rgI 0 (g.length + 1)).filter fun o => decide (far g f o = s)))
      rw [List.filter_congr (q := fun o => decide (far g f o = s)) fun o _ => ?_]
      by_cases h : o = f
      · subst h
        rw [far_self]
        have e : decide ((0 : Int) = s) = false := decide_eq_false (by omega)
        rw [e, Bool.and_false]
      · rw [decide_eq_false h]
        rfl
  | gap =>
    refine xs_skip (YT.eq (xt_eqS (K := K) (s := "gap") (xe_ixT (d := .str "gap") (xe_var 2) xe_int rfl) xe_str) (by decide +kernel)) ?_
    refine xs_yes (YT.eq (xt_eqS (K := K) (s := "gap") (xe_ixT (d := .str "gap") (xe_var 2) xe_int rfl) xe_str) (by decide +kernel)) ?_
    exact xs_ret (xe_var 3) fun v H0 H s k hv => hQ v H0 H s k hv
  | bell u =>
    refine xs_skip (YT.eq (xt_eqS (K := K) (s := "bell") (xe_ixT (d := .str "bell") (xe_var 2) xe_int rfl) xe_str) (by decide +kernel)) ?_
    refine xs_skip (YT.eq (xt_eqS (K := K) (s := "bell") (xe_ixT (d := .str "bell") (xe_var 2) xe_int rfl) xe_str) (by decide +kernel)) ?_
    refine xs_yes (YT.eq (xt_eqS (K := K) (s := "bell") (xe_ixT (d := .str "bell") (xe_var 2) xe_int rfl) xe_str) (by decide +kernel)) ?_
    refine xs_ret (YE.dat (xe_repL (xe_lst (ds := [.int f]) (xa_1 (xe_var 1)) (by simp)) (xe_intB T.z_int (xe_eqB (K := K) (xe_inT (xe_var 1) (xe_ixT (d := .tuple (li b)) (xe_var 0) xe_int rfl)) (xe_ixT (d := .bool u) (xe_var 2) xe_int rfl))) ?_ ?_) ?_) fun v H0 H s k hv => hQ v H0 H s k hv
    · generalize decide (decide (f ∈ b) = u) = t
      cases t <;> decide
    · show 1 * (b2n (decide (decide (f ∈ b) = u))).toNat ≤ 1000000
      generalize decide (decide (f ∈ b) = u) = t
      cases t <;> decide
    · show PyData.list (List.replicate (b2n (decide (decide (f ∈ b) = u))).toNat [PyData.int f]).flatten = .list (li (if decide (f ∈ b) = u then [f] else []))
      rw [rep_bool]
      by_cases h : decide (f ∈ b) = u
      · rw [if_pos h, if_pos (decide_eq_true h)]
      · rw [if_neg h, if_neg (by simpa using h)]
  | door =>
    refine xs_skip (YT.eq (xt_eqS (K := K) (s := "door") (xe_ixT (d := .str "door") (xe_var 2) xe_int rfl) xe_str) (by decide +kernel)) ?_
    refine xs_skip (YT.eq (xt_eqS (K := K) (s := "door") (xe_ixT (d := .str "door") (xe_var 2) xe_int rfl) xe_str) (by decide +kernel)) ?_
    refine xs_skip (YT.eq (xt_eqS (K := K) (s := "door") (xe_ixT (d := .str "door") (xe_var 2) xe_int rfl) xe_str) (by decide +kernel)) ?_
    exact xs_ret (YE.dat (xe_repL (k := 1) (xe_lst (ds := [.int f]) (xa_1 (xe_var 1)) (by simp)) (YE.dat (xe_intB T.z_int (xe_orB (K := K) (v := true) (YE.dat (d' := .bool true) (xe_eqS (K := K) (s := "door") (t := "door") (xe_ixT (d := .str "door") (xe_var 2) xe_int rfl) xe_str) (congrArg PyData.bool (by decide +kernel))) (fun h => Bool.noConfusion h))) rfl) (by decide) (by show 1 * (1 : Int).toNat ≤ 1000000; decide)) rfl) fun v H0 H s k hv => hQ v H0 H s k hv
  | look l =>
    refine xs_skip (YT.eq (xt_eqS (K := K) (s := "look") (xe_ixT (d := .str "look") (xe_var 2) xe_int rfl) xe_str) (by decide +kernel)) ?_
    refine xs_skip (YT.eq (xt_eqS (K := K) (s := "look") (xe_ixT (d := .str "look") (xe_var 2) xe_int rfl) xe_str) (by decide +kernel)) ?_
    refine xs_skip (YT.eq (xt_eqS (K := K) (s := "look") (xe_ixT (d := .str "look") (xe_var 2) xe_int rfl) xe_str) (by decide +kernel)) ?_
    refine xs_ret (YE.dat (xe_repL (xe_lst (ds := [.int f]) (xa_1 (xe_var 1)) (by simp)) (xe_intB T.z_int (xe_orB (K := K) (v := decide (f ∈ l)) (YE.dat (d' := .bool false) (xe_eqS (K := K) (s := "look") (t := "door") (xe_ixT (d := .str "look") (xe_var 2) xe_int rfl) xe_str) (congrArg PyData.bool (by decide +kernel))) (fun h => xe_inT (xe_var 1) (xe_ixT (d := .tuple (li l)) (xe_var 2) xe_int rfl)))) ?_ ?_) ?_) fun v H0 H s k hv => hQ v H0 H s k hv
    · generalize decide (f ∈ l) = t
      cases t <;> decide
    · show 1 * (b2n (false || decide (f ∈ l))).toNat ≤ 1000000
      generalize decide (f ∈ l) = t
      cases t <;> decide
    · show PyData.list (List.replicate (b2n (false || decide (f ∈ l))).toNat [PyData.int f]).flatten = .list (li (if f ∈ l then [f] else []))
      rw [rep_bool]
      by_cases h : f ∈ l
      · rw [if_pos h, if_pos (by simpa using h)]
      · rw [if_neg h, if_neg (by simpa using h)]
end
end K33
namespace K33
open PySem L2 Lh
section
variable {K : PySem.W.Frag} {mg : Str → Option Value} {base : Heap} {P : Program} {w : World}
abbrev spLHouse (K : PySem.W.Frag) : Sp := SpF (α := { p : (Addr × Addr) × Int // 1 ≤ p.2 ∧ p.2 ≤ 9 }) (fun p => MB p.1.1.1 p.1.1.2) (fun p => [Res.mix p.1.1.1 p.1.1.2]) (fun p => [PV (.ref p.1.1.1), PD K (.int p.1.2)])
  (fun p => PEx (fun q : List Int × List Int => HouseOk q.1 q.2 ∧ (q.1.length : Int) ≤ p.1.2 ∧ ∀ x ∈ q.1, x ≤ 4) fun q => PD K (drawnD q.1 q.2))
theorem ok_law_house (T : Txt K mg) : FnOk P w K mg base CX0 2 T.f__law_house T.d__law_house ["_law_h", "_law_most"] (spLHouse K) := by
  refine fn_F T.F__law_house sc__law_house (fun _ => rfl) fun ⟨⟨⟨bx, l⟩, mo⟩, h1, h2⟩ Z0 Z Q X qX hQ => ?_
  obtain ⟨cdv, A, outer, s, E, rfl, hr⟩ := qX
  have h1' : 1 ≤ mo := h1
  have h2' : mo ≤ 9 := h2
  refine xs_asgE (A := fun g : List Int => GapsOk g ∧ (g.length : Int) ≤ mo ∧ ∀ x ∈ g, x ≤ 4) (P := fun g => PD K (.tuple (li g))) 2 (xe_tupLE T.z_tuple (YE.imp (xe_lcE (K := K) 3 (xi_rangeE T.z_range (xe_addIn xe_int (xe_next T hr (xe_var 0) (xe_var 1) h1' (by show mo < 1000000; omega) (fun _ h => h))) (fun n hn => by
      obtain ⟨a, b⟩ := hn
      constructor <;> omega)) (GapR 4) ⟨[], rfl, rfl, fun x hx => by cases hx⟩ (fun n hn i Q hq s0 H0 C cl fp => ?_) sc__law_house.nd (blkOk_by rfl) (fun n hn => ?_) cov_mix (fun _ _ _ _ _ => pg_name (i := 3) sc__law_house.nd rfl (Or.inl rfl))) (fun v H h => ?_))) (fun g hg => ?_) sc__law_house.nd
  · refine YE.imp (xe_addIn (lo := 0) (hi := 4) xe_int (xe_nextE T (A := fun m => 1 ≤ m ∧ m ≤ 4) hr (xe_var 0) ?_ (fun m h => h) (by decide) (fun _ h => h))) fun v H ⟨m, hm, hv⟩ => ⟨.int m, fun ds _ hR => hR.step (by
      obtain ⟨a, b⟩ := hm
      constructor <;> omega), hv⟩
    refine YE.imp (xe_ixLE (B := fun d => ∃ m : Int, d = .int m ∧ 1 ≤ m ∧ m ≤ 4) (xe_lst (ds := [.int 2, .int 4]) (xa_cons xe_int (xa_1 xe_int)) (by simp)) (xe_next T hr (xe_var 0) (xe_int (K := K)) (by decide) (by decide) (fun _ h => h)) (fun k hk => ?_)) fun v H h => ?_
    · obtain ⟨k0, k1⟩ := hk
      have e : k = 0 ∨ k = 1 := by omega
      rcases e with rfl | rfl
      · exact ⟨_, rfl, 2, rfl, by decide, by decide⟩
      · exact ⟨_, rfl, 4, rfl, by decide, by decide⟩
    · obtain ⟨d, ⟨m, rfl, hm⟩, hv⟩ := h
      exact ⟨m, hm, hv⟩
  · obtain ⟨a, b⟩ := hn
    simp only [li, List.length_map, rgI_len]
    omega
  · obtain ⟨ds, ⟨n, hn, hR, _⟩, hv⟩ := h
    obtain ⟨g, rfl, e1, e2⟩ := hR
    obtain ⟨a, b⟩ := hn
    have e3 : g.length = n.toNat := by rw [e1]; simp [li, rgI_len]
    exact ⟨g, ⟨⟨by omega, by omega, fun x hx => by
      have := e2 x hx
      omega⟩, by omega, fun x hx => (e2 x hx).2⟩, hv⟩
  · obtain ⟨hg, hgm, hgw⟩ := hg
    have h9 := hg.nine
    have hlen : (((li g).length : Int) + 1).toNat = g.length + 1 := by simp [li]
    refine xs_ret (YE.imp (xe_tupP (K := K) (Ps := [PD K (.tuple (li g)), PEx (fun x : List Int => x.Sublist (rgI 0 (g.length + 1))) fun x => PD K (.tuple (li x))]) (xa_cons (xe_var 2) (xa_1 (xe_tupLE T.z_tuple (YE.imp (xe_lcIf (K := K) 4 (xi_range1 T.z_range (xe_add (xe_lenT T.z_len (xe_var 2)) xe_int) (by simp [li]; omega)) (SubR (-1) (rgI 0 (g.length + 1))) SubR.zero (fun i Q hq => ?_) sc__law_house.nd (blkOk_by rfl) (by simp only [li, List.length_map, rgI_len]; omega) cov_mix (fun _ _ _ _ _ => pg_name (i := 4) sc__law_house.nd rfl (Or.inl rfl))) (fun v H h => ?_))))) (by simp)) (fun v H h => ?_)) fun v H0 H s k hv => hQ v H0 H s k hv
    · rw [hlen] at hq
      obtain ⟨d, hd, rfl⟩ := map_at hq
      obtain ⟨n, hn, rfl⟩ := li_at hd
      refine ⟨fun _ => True, fun s0 H0 C cl fp => ?_, fun _ s0 H0 C cl fp => ?_, fun hb ds hR => ?_⟩
      · exact xt_eqIn (xe_next T hr (xe_var 0) xe_int (by decide) (by decide) (fun _ h => h)) (xe_int (K := K))
      · exact YE.imp (xe_var 4) fun v H h => ⟨.int n, fun ds _ hR => hR.yes hn, h⟩
      · refine hR.no hn ?_
        have := mem_rgI.mp (List.mem_of_getElem? hn)
        omega
    · obtain ⟨ds, ⟨hR, _⟩, hv⟩ := h
      obtain ⟨x, rfl, h1, _⟩ := hR.fin (by rw [hlen]; simp [li])
      exact ⟨x, h1, hv⟩
    · obtain ⟨a, x, y, e, q1, q2, ⟨xs, hxs, q3⟩⟩ := PTs.two h
      exact ⟨(g, xs), ⟨⟨hg, bells_of hxs⟩, hgm, hgw⟩, a, [x, y], e, q1, x, [y], rfl, q2, y, [], rfl, q3, rfl⟩
abbrev spLStart (K : PySem.W.Frag) : Sp := SpF (α := { p : (Addr × Addr) × List Int × List Int // p.2.1.length ≤ 9 }) (fun p => MB p.1.1.1 p.1.1.2) (fun p => [Res.mix p.1.1.1 p.1.1.2]) (fun p => [PV (.ref p.1.1.1), PD K (drawnD p.1.2.1 p.1.2.2)])
  (fun p => PEx (fun st : List Int => st.Sublist (rgI 0 (p.1.2.1.length + 1)) ∧ st ≠ []) fun st => PD K (.tuple (li st)))
theorem ok_law_start (T : Txt K mg) : FnOk P w K mg base CX0 2 T.f__law_start T.d__law_start ["_law_h", "_law_drawn"] (spLStart K) := by
  refine fn_F T.F__law_start sc__law_start (fun _ => rfl) fun ⟨⟨⟨bx, l⟩, g, b⟩, h9⟩ Z0 Z Q X qX hQ => ?_
  obtain ⟨cdv, A, outer, s, E, rfl, hr⟩ := qX
  have h9' : g.length ≤ 9 := h9
  have hlen : ((li g).length : Int) + 1 = g.length + 1 := by simp [li]
  refine xs_asg 2 (P := PD K (.int ((g.length : Int) + 1))) (YE.dat (xe_add (xe_lenT T.z_len (xe_ixT (d := .tuple (li g)) (xe_var 1) xe_int rfl)) xe_int) (congrArg PyData.int hlen)) ?_ sc__law_start.nd
  have hcnt : ((g.length : Int) + 1).toNat = g.length + 1 := by omega
  refine xs_asgE 3 (A := fun x : List Int => x.Sublist (rgI 0 (g.length + 1))) (P := fun x => PD K (.tuple (li x))) (xe_tupLE T.z_tuple (YE.imp (xe_lcIf (K := K) 4 (xi_range1 T.z_range (xe_var 2) (by omega)) (SubR (-1) (rgI 0 (g.length + 1))) SubR.zero (fun i Q hq => ?_) sc__law_start.nd (blkOk_by rfl) (by simp only [li, List.length_map, rgI_len]; omega) cov_mix (fun _ _ _ _ _ => pg_name (i := 4) sc__law_start.nd rfl (Or.inl rfl))) (fun v H h => ?_))) (fun x hx => ?_) sc__law_start.nd
  · rw [hcnt] at hq
    obtain ⟨d, hd, rfl⟩ := map_at hq
    obtain ⟨n, hn, rfl⟩ := li_at hd
    refine ⟨fun _ => True, fun s0 H0 C cl fp => ?_, fun _ s0 H0 C cl fp => ?_, fun hb ds hR => ?_⟩
    · exact xt_eqIn (xe_next T hr (xe_var 0) xe_int (by decide) (by decide) (fun _ h => h)) (xe_int (K := K))
    · exact YE.imp (xe_var 4) fun v H h => ⟨.int n, fun ds _ hR => hR.yes hn, h⟩
    · refine hR.no hn ?_
      have := mem_rgI.mp (List.mem_of_getElem? hn)
      omega
  · obtain ⟨ds, ⟨hR, _⟩, hv⟩ := h
    obtain ⟨x, rfl, h1, _⟩ := hR.fin (by rw [hcnt]; simp [li])
    exact ⟨x, h1, hv⟩
  · refine xs_ret (xe_ifx (P := PEx (fun st : List Int => st.Sublist (rgI 0 (g.length + 1)) ∧ st ≠ []) fun st => PD K (.tuple (li st))) (xt_neTu hr (xe_var 3) (YE.dat (d' := .tuple (li [])) (xe_tup (ds := []) xa_nil (by simp)) rfl)) (fun hb => ?_) fun hb => ?_) fun v H0 H s k hv => hQ v H0 H s k hv
    · exact YE.imp (xe_var 3) fun v H h => ⟨x, ⟨hx, fun e => by
        have hb' : true = !decide (x = []) := hb
        rw [e] at hb'
        cases hb'⟩, h⟩
    · refine YE.imp (xe_tupP (K := K) (Ps := [PIn K 0 ((g.length : Int) + 1)]) (xa_1 (xe_next T hr (xe_var 0) (xe_var 2) (by omega) (by omega) (fun _ h => h))) (by simp)) fun v H h => ?_
      obtain ⟨a, xs, e, q1, q2⟩ := h
      obtain ⟨y, r, e1, ⟨m, hm, hy⟩, h3⟩ := q2.inv
      have e3 := h3.nil_inv
      subst e1 e3
      refine ⟨[m], ⟨?_, by simp⟩, a, [y], e, q1, y, [], rfl, hy, rfl⟩
      refine List.singleton_sublist.mpr (mem_rgI.mpr ?_)
      obtain ⟨m0, m1⟩ := hm
      omega
end
end K33
namespace K33
open PySem L2 Lh
section
variable {M : Addr → Prop} {Γ : Ct} {Rs : List Res} {X : Cx} {Z0 Z Hl : Hp} {D : Ends} {rest : List Stmt}
theorem Rok.swap {r1 r2 : Res} {H0 H : Hp} (k : Rok (r1 :: r2 :: Rs) H0 H) : Rok (r2 :: r1 :: Rs) H0 H := by
  refine ⟨?_, fun r hr => k.2 r ?_⟩
  · have h := k.1
    rw [List.flatMap_cons, List.flatMap_cons] at h ⊢
    refine (List.Perm.nodup_iff ?_).mp h
    simp only [← List.append_assoc]
    exact (List.perm_append_comm (l₁ := _) (l₂ := _)).append_right _
  · obtain e | hr := List.mem_cons.mp hr
    · subst e
      simp
    · obtain e | hr := List.mem_cons.mp hr
      · subst e
        simp
      · simp [hr]
theorem xs_swap {r1 r2 : Res} (h : XS M Γ (r2 :: r1 :: Rs) X Z0 Z Hl D rest) : XS M Γ (r1 :: r2 :: Rs) X Z0 Z Hl D rest := fun σ H0 H l s b k => h σ H0 H l s b (Rok.swap k)
end
theorem sum_bounds : ∀ {l : List Int}, (∀ x ∈ l, 1 ≤ x ∧ x ≤ 9) → (l.length : Int) ≤ l.sum ∧ l.sum ≤ 9 * l.length
  | [], _ => by simp
  | x :: l, h => by
    have h1 := h x List.mem_cons_self
    have h2 := sum_bounds (l := l) fun y hy => h y (List.mem_cons_of_mem _ hy)
    simp only [List.sum_cons, List.length_cons]
    omega
theorem far_bounds {g : List Int} (hg : GapsOk g) {i j : Int} (hi : 0 ≤ i ∧ i ≤ g.length) (hj : 0 ≤ j ∧ j ≤ g.length) (hne : ¬ j = i) : 1 ≤ far g i j ∧ far g i j ≤ 81 := by
  have h9 := hg.nine
  have hl : ((g.drop (min i j).toNat).take ((max i j).toNat - (min i j).toNat)).length = (max i j).toNat - (min i j).toNat := by
    simp only [List.length_take, List.length_drop]
    omega
  have hb := sum_bounds (l := (g.drop (min i j).toNat).take ((max i j).toNat - (min i j).toNat)) fun x hx => hg.each x (List.mem_of_mem_drop (List.mem_of_mem_take hx))
  rw [hl] at hb
  unfold far
  omega
/-- drawn houses: their gaps are small -/
def LowHouse (g b : List Int) : Prop := HouseOk g b ∧ ∀ x ∈ g, x ≤ 4
def Row.Lo (g : List Int) : Row → Prop
  | .go s => 1 ≤ s ∧ s ≤ 40
  | r => r.Ok g
theorem Row.Lo.ok {g : List Int} {r : Row} (h : r.Lo g) : r.Ok g := by
  cases r with
  | go s =>
    have h' : 1 ≤ s ∧ s ≤ 40 := h
    exact ⟨h'.1, by omega⟩
  | bell _ => exact h
  | door => exact h
  | look _ => exact h
  | gap => exact h
theorem sum_low : ∀ {l : List Int}, (∀ x ∈ l, x ≤ 4) → l.sum ≤ 4 * l.length
  | [], _ => by simp
  | x :: l, h => by
    have h1 := h x List.mem_cons_self
    have h2 := sum_low (l := l) fun y hy => h y (List.mem_cons_of_mem _ hy)
    simp only [List.sum_cons, List.length_cons]
    omega
theorem far_low {g b : List Int} (h : LowHouse g b) {i j : Int} (hi : 0 ≤ i ∧ i ≤ g.length) (hj : 0 ≤ j ∧ j ≤ g.length) (hne : ¬ j = i) : 1 ≤ far g i j ∧ far g i j ≤ 40 := by
  refine ⟨(far_bounds h.1.gaps hi hj hne).1, ?_⟩
  have h9 := h.1.gaps.nine
  have hs := sum_low (l := (g.drop (min i j).toNat).take ((max i j).toNat - (min i j).toNat)) fun x hx => h.2 x (List.mem_of_mem_drop (List.mem_of_mem_take hx))
  have hl : ((g.drop (min i j).toNat).take ((max i j).toNat - (min i j).toNat)).length ≤ 9 := by
    simp only [List.length_take, List.length_drop]
    omega
  unfold far
  omega
theorem filt_split (p : Int → Bool) : ∀ l : List Int, l.length = (l.filter p).length + (l.filter fun o => !p o).length
  | [] => rfl
  | x :: l => by
    have := filt_split p l
    cases e : p x <;> simp [List.filter_cons, e] <;> omega
theorem others_len {f : Int} {n : Nat} : n - 1 ≤ ((rgI 0 n).filter fun o => !decide (o = f)).length := by
  have h1 := filt_split (fun o => decide (o = f)) (rgI 0 n)
  have h2 : ((rgI 0 n).filter fun o => decide (o = f)).length ≤ 1 := by
    have nd : (rgI 0 n).Nodup := (rgI_up n).imp fun h e => by omega
    have := List.nodup_iff_count.mp nd f
    rw [List.count_eq_length_filter] at this
    have e : ((rgI 0 n).filter fun o => decide (o = f)) = (rgI 0 n).filter (fun o => o == f) := by
      congr 1
    rw [e]
    exact this
  rw [rgI_len] at h1
  omega
section
variable {M : Addr → Prop} {Γ : Ct} {Rs : List Res} {X : Cx} {K : PySem.W.Frag} {a b : Expr} {pos : Pos} {lo hi j : Int}
theorem xt_gtIn (ha : XE M Γ Rs X a (PIn K lo hi)) (hb : XE M Γ Rs X b (PD K (.int j))) : XT M Γ Rs X (.Compare a [.Gt] [b] pos) (fun _ => True) :=
  xt_cmp (K := K) op_gt ha hb (fun x y H0 H ⟨n, hn, hx⟩ hy e _ => fun Q q => (yl_I0 (g := fun i j => .bl (decide (j < i))) (d := .bool (decide (j < n))) (fun _ => rfl) hx hy e) Q fun v H0' H' s p => q v H0' H' s ⟨_, True.intro, p⟩) (nomark _)
theorem xe_gtIn (ha : XE M Γ Rs X a (PIn K lo hi)) (hb : XE M Γ Rs X b (PD K (.int j))) : XE M Γ Rs X (.Compare a [.Gt] [b] pos) (PB K fun _ => True) :=
  xe_cmp op_gt ha hb (fun x y H0 H ⟨n, hn, hx⟩ hy e _ => fun Q q => (yl_I0 (g := fun i j => .bl (decide (j < i))) (d := .bool (decide (j < n))) (fun _ => rfl) hx hy e) Q fun v H0' H' s p => q v H0' H' s ⟨_, True.intro, p⟩) (nomark _)
theorem xe_eqBE {u : Bool} (ha : XE M Γ Rs X a (PD K (.bool u))) (hb : XE M Γ Rs X b (PB K fun _ => True)) : XE M Γ Rs X (.Compare a [.Eq] [b] pos) (PB K fun _ => True) :=
  xe_cmp op_eq ha hb (fun x y H0 H hx ⟨n, hn, hy⟩ e _ => fun Q q => (yl_eqB hx hy e) Q fun v H0' H' s p => q v H0' H' s ⟨_, True.intro, p⟩) (nomark _)
end
section
variable {K : PySem.W.Frag} {mg : Str → Option Value} {base : Heap} {P : Program} {w : World}
abbrev POk (K : PySem.W.Frag) (g : List Int) : Pd := PEx (fun r : Row => r.Lo g) fun r => PD K (.tuple r.ds)
theorem one_row {g : List Int} {f : Int} {v : V} {H : Hp} (hf : 0 ≤ f ∧ f ≤ g.length) (h : (PTs K [POk K g, PD K (.int f)]).p v H) : (PEx (fun q : Row × Int => q.1.Lo g ∧ 0 ≤ q.2 ∧ q.2 ≤ g.length) fun q => PT2 K (PD K (.tuple q.1.ds)) (PD K (.int q.2))).p v H := by
  obtain ⟨a, x, y, e, q1, ⟨r, hr, q2⟩, q3⟩ := PTs.two h
  exact ⟨(r, f), ⟨hr, hf⟩, a, x, y, e, q1, q2, q3⟩
abbrev spLRow (K : PySem.W.Frag) : Sp := SpF (α := { p : ((Addr × Addr) × List Int × List Int) × Int // LowHouse p.1.2.1 p.1.2.2 ∧ 0 ≤ p.2 ∧ p.2 ≤ p.1.2.1.length }) (fun p => MB p.1.1.1.1 p.1.1.1.2) (fun p => [Res.mix p.1.1.1.1 p.1.1.1.2]) (fun p => [PV (.ref p.1.1.1.1), PD K (drawnD p.1.1.2.1 p.1.1.2.2), PD K (.int p.1.2)])
  (fun p => PEx (fun q : Row × Int => q.1.Lo p.1.1.2.1 ∧ 0 ≤ q.2 ∧ q.2 ≤ p.1.1.2.1.length) fun q => PT2 K (PD K (.tuple q.1.ds)) (PD K (.int q.2)))
theorem ok_law_row (T : Txt K mg) : FnOk P w K mg base CX0 2 T.f__law_row T.d__law_row ["_law_h", "_law_drawn", "_law_floor"] (spLRow K) := by
  refine fn_F T.F__law_row sc__law_row (fun _ => rfl) fun ⟨⟨⟨⟨bx, l⟩, g, b⟩, f⟩, hh, hf⟩ Z0 Z Q X qX hQ => ?_
  obtain ⟨cdv, A, outer, s, E, rfl, hr⟩ := qX
  have hh2 : LowHouse g b := hh
  have hh' : HouseOk g b := hh2.1
  have hf' : 0 ≤ f ∧ f ≤ g.length := hf
  have h9 := hh'.gaps.nine
  have h1 := hh'.gaps.one
  have hcnt : ((g.length : Int) + 1).toNat = g.length + 1 := by omega
  have hlen : ((li g).length : Int) + 1 = g.length + 1 := by simp [li]
  refine xs_par 3 4 (P := PD K (.int ((g.length : Int) + 1))) (Q := PIn K 0 12) (xa_cons (YE.dat (xe_add (xe_lenT T.z_len (xe_ixT (d := .tuple (li g)) (xe_var 1) xe_int rfl)) xe_int) (congrArg PyData.int hlen)) (xa_1 (xe_next T hr (xe_var 0) xe_int (by decide) (by decide) (fun _ h => h)))) ?_ sc__law_row.nd
  refine xs_slot 4 rfl fun kd hkd => ?_
  refine xs_if (xt_lt (K := K) (xe_var 4) xe_int) (fun _ => ?_) fun _ => xs_then ?_
  · refine xs_asgE 5 (xe_ixLE (B := fun d => ∃ o, d = .int o ∧ o ∈ (rgI 0 (g.length + 1)).filter fun o => !decide (o = f)) (YE.dat (xe_filtI 6 (fun n => .int n) (fun o => !decide (o = f)) (xi_range1 T.z_range (xe_var 3) (by omega)) (fun n hn s0 H0 C cl fp => by
        exact xt_neI (K := K) (xe_var 6) (xe_var 2)) (fun n hn _ s0 H0 C cl fp => by exact xe_var 6) sc__law_row.nd (blkOk_by rfl) (by simp only [rgI_len]; omega) cov_mix (fun _ _ _ _ _ => pg_name (i := 6) sc__law_row.nd rfl (Or.inl rfl))) (by rw [hcnt] : _ = PyData.list (li ((rgI 0 (g.length + 1)).filter fun o => !decide (o = f))))) (xe_next T hr (xe_var 0) (xe_sub (xe_var 3) xe_int) (by omega) (by omega) (fun _ h => h)) (fun k hk => ixE_li ⟨hk.1, by
          have q1 : k < (g.length : Int) + 1 - 1 := hk.2
          have q2 := others_len (f := f) (n := g.length + 1)
          omega⟩)) (fun d hd => ?_) sc__law_row.nd
    obtain ⟨o, rfl, ho⟩ := hd
    obtain ⟨ho1, ho2⟩ := List.mem_filter.mp ho
    have ho3 := fl_in ho1
    have hb := far_low hh2 hf' ho3 (by simpa using ho2)
    refine xs_asg 7 (P := PD K (.int (far g f o))) (xe_callD (ok_law_far T) ⟨(g, f, o), hf'.1, ho3.1⟩ hr T.g__law_far T.F__law_far.kp T.b__law_far (xa_cons (xe_ixT (d := .tuple (li g)) (xe_var 1) xe_int rfl) (xa_cons (xe_var 2) (xa_1 (xe_var 5))))) ?_ sc__law_row.nd
    refine xs_ret (YE.imp (xe_tupP (K := K) (Ps := [POk K g, PD K (.int o)]) (xa_cons (YE.imp (xe_tupP (K := K) (Ps := [PD K (.str "go"), PIn K 1 41]) (xa_cons xe_str (xa_1 (xe_ifx (xt_gtIn (xe_next T hr (xe_var 0) xe_int (by decide) (by decide) (fun _ h => h)) (xe_int (K := K))) (fun _ => YE.imp (xe_var 7) fun v H h => ⟨far g f o, ⟨hb.1, by have := hb.2; omega⟩, h⟩) fun _ => YE.imp (xe_addIn xe_int (xe_next T hr (xe_var 0) xe_int (by decide) (by decide) (fun _ h => h))) fun v H ⟨k, hk, hv⟩ => ⟨k, ⟨by have := hk.1; omega, by have := hk.2; omega⟩, hv⟩))) (by simp)) fun v H h => ?_) (xa_1 (xe_var 5))) (by simp)) fun v H h => one_row ho3 h) fun v H0 H s k hv => hQ v H0 H s k hv
    obtain ⟨a, x, y, e, q1, q2, ⟨k, hk, q3⟩⟩ := PTs.two h
    exact ⟨.go k, ⟨by have := hk.1; omega, by have := hk.2; omega⟩, a, [x, y], e, q1, x, [y], rfl, q2, y, [], rfl, q3, rfl⟩
  refine xs_if (xt_lt (K := K) (xe_var 4) xe_int) (fun _ => ?_) fun _ => xs_then ?_
  · refine xs_ret (YE.imp (xe_tupP (K := K) (Ps := [POk K g, PD K (.int f)]) (xa_cons (YE.imp (xe_tupP (K := K) (Ps := [PD K (.str "bell"), PB K fun _ => True]) (xa_cons xe_str (xa_1 (xe_eqBE (xe_inT (xe_var 2) (xe_ixT (d := .tuple (li b)) (xe_var 1) xe_int rfl)) (xe_gtIn (xe_next T hr (xe_var 0) xe_int (by decide) (by decide) (fun _ h => h)) (xe_int (K := K)))))) (by simp)) fun v H h => ?_) (xa_1 (xe_var 2))) (by simp)) fun v H h => one_row hf' h) fun v H0 H s k hv => hQ v H0 H s k hv
    obtain ⟨a, x, y, e, q1, q2, ⟨u, _, q3⟩⟩ := PTs.two h
    exact ⟨.bell u, True.intro, a, [x, y], e, q1, x, [y], rfl, q2, y, [], rfl, q3, rfl⟩
  refine xs_if (xt_lt (K := K) (xe_var 4) xe_int) (fun _ => ?_) fun _ => xs_then ?_
  · refine xs_ret (YE.imp (xe_tupP (K := K) (Ps := [POk K g, PD K (.int f)]) (xa_cons (YE.imp (xe_tup (K := K) (ds := [.str "door"]) (xa_1 xe_str) (by simp)) fun v H h => ⟨.door, True.intro, h⟩) (xa_1 (xe_var 2))) (by simp)) fun v H h => one_row hf' h) fun v H0 H s k hv => hQ v H0 H s k hv
  refine xs_if (xt_eqI (K := K) (xe_var 4) xe_int) (fun _ => ?_) fun _ => xs_then ?_
  · refine xs_asgE 8 (A := fun x : List Int => x.Sublist (rgI 0 (g.length + 1))) (P := fun x => PD K (.tuple (li x))) (xe_tupLE T.z_tuple (YE.imp (xe_lcIf (K := K) 6 (xi_range1 T.z_range (xe_var 3) (by omega)) (SubR (-1) (rgI 0 (g.length + 1))) SubR.zero (fun i Q hq => ?_) sc__law_row.nd (blkOk_by rfl) (by simp only [li, List.length_map, rgI_len]; omega) cov_mix (fun _ _ _ _ _ => pg_name (i := 6) sc__law_row.nd rfl (Or.inl rfl))) (fun v H h => ?_))) (fun x hx => ?_) sc__law_row.nd
    · rw [hcnt] at hq
      obtain ⟨d, hd, rfl⟩ := map_at hq
      obtain ⟨n, hn, rfl⟩ := li_at hd
      refine ⟨fun _ => True, fun s0 H0 C cl fp => ?_, fun _ s0 H0 C cl fp => ?_, fun hb ds hR => ?_⟩
      · exact YT.imp (xt_or (xt_and (xt_eqI (K := K) (xe_var 6) (xe_var 2)) fun _ => xt_gtIn (xe_next T hr (xe_var 0) xe_int (by decide) (by decide) (fun _ h => h)) (xe_int (K := K))) fun _ => xt_eqIn (xe_next T hr (xe_var 0) xe_int (by decide) (by decide) (fun _ h => h)) (xe_int (K := K))) fun _ _ => True.intro
      · exact YE.imp (xe_var 6) fun v H h => ⟨.int n, fun ds _ hR => hR.yes hn, h⟩
      · refine hR.no hn ?_
        have := mem_rgI.mp (List.mem_of_getElem? hn)
        omega
    · obtain ⟨ds, ⟨hR, _⟩, hv⟩ := h
      obtain ⟨x, rfl, h1, _⟩ := hR.fin (by rw [hcnt]; simp [li])
      exact ⟨x, h1, hv⟩
    · have hxl : x.length ≤ 10 := by
        have := hx.length_le
        rw [rgI_len] at this
        omega
      refine xs_ret (YE.imp (xe_tupP (K := K) (Ps := [POk K g, PD K (.int f)]) (xa_cons (YE.imp (xe_tupP (K := K) (Ps := [PD K (.str "look"), PEx (fun y : List Int => (∀ z ∈ y, 0 ≤ z ∧ z ≤ (g.length : Int)) ∧ y.length ≤ 1000) fun y => PD K (.tuple (li y))]) (xa_cons xe_str (xa_1 (xe_ifx (xt_neTu hr (xe_var 8) (YE.dat (d' := .tuple (li [])) (xe_tup (ds := []) xa_nil (by simp)) rfl)) (fun _ => YE.imp (xe_var 8) fun v H h => ⟨x, ⟨fun z hz => fl_in (hx.subset hz), by omega⟩, h⟩) fun _ => YE.imp (xe_tup (K := K) (ds := [.int f]) (xa_1 (xe_var 2)) (by simp)) fun v H h => ⟨[f], ⟨fun z hz => by
          have e : z = f := by simpa using hz
          rw [e]
          exact hf', by simp⟩, h⟩))) (by simp)) fun v H h => ?_) (xa_1 (xe_var 2))) (by simp)) fun v H h => one_row hf' h) fun v H0 H s k hv => hQ v H0 H s k hv
      obtain ⟨a, x', y, e, q1, q2, ⟨xs, hxs, q3⟩⟩ := PTs.two h
      exact ⟨Row.look xs, hxs, a, [x', y], e, q1, x', [y], rfl, q2, y, [], rfl, q3, rfl⟩
  · refine xs_ret (YE.imp (xe_tupP (K := K) (Ps := [POk K g, PIn K 0 ((g.length : Int) + 1)]) (xa_cons (YE.imp (xe_tup (K := K) (ds := [.str "gap"]) (xa_1 xe_str) (by simp)) fun v H h => ⟨.gap, True.intro, h⟩) (xa_1 (xe_next T hr (xe_var 0) (xe_var 3) (by omega) (by omega) (fun _ h => h)))) (by simp)) fun v H h => ?_) fun v H0 H s k hv => hQ v H0 H s k hv
    obtain ⟨a, x, y, e, q1, ⟨r, hr', q2⟩, ⟨k, hk, q3⟩⟩ := PTs.two h
    have k1 : k < (g.length : Int) + 1 := hk.2
    have k2 : k ≤ (g.length : Int) := by omega
    exact ⟨(r, k), ⟨hr', hk.1, k2⟩, a, x, y, e, q1, q2, q3⟩
end
end K33
namespace K33
open PySem L2 Lh
open Evl (Ex ex_l ex_t ex_rd fresh_back)
abbrev rowD (r : Row) : PyData := .tuple r.ds
theorem canLay_row (r : Row) : PyData.canLay0 (rowD r) = true ∧ PyData.depth (rowD r) ≤ 10 := by
  cases r with
  | look l =>
    have hx := shaped_li l
    have hx1 : PyData.canLay0 (.tuple (li l)) = true := SeqAt.canLay_of_shaped (d := .tuple (li l)) hx
    have hx2 : PyData.depthAll (li l) ≤ 1 := PySem.W.depthAll_ints l
    refine ⟨?_, ?_⟩
    · simp only [rowD, Row.ds, PyData.canLay0, PyData.canLayAll0] at hx1 ⊢
      simp [hx1, (by decide +kernel : PyData.strOk (Str.ofString "look") = true)]
    · simp only [rowD, Row.ds, PyData.depth, PyData.depthAll]
      omega
  | go s => exact ⟨by simp [rowD, Row.ds, PyData.canLay0, PyData.canLayAll0, (by decide +kernel : PyData.strOk (Str.ofString "go") = true)], by simp [rowD, Row.ds, PyData.depth, PyData.depthAll]⟩
  | bell u => exact ⟨by simp [rowD, Row.ds, PyData.canLay0, PyData.canLayAll0, (by decide +kernel : PyData.strOk (Str.ofString "bell") = true)], by simp [rowD, Row.ds, PyData.depth, PyData.depthAll]⟩
  | door => exact ⟨by simp [rowD, Row.ds, PyData.canLay0, PyData.canLayAll0, (by decide +kernel : PyData.strOk (Str.ofString "door") = true)], by simp [rowD, Row.ds, PyData.depth, PyData.depthAll]⟩
  | gap => exact ⟨by simp [rowD, Row.ds, PyData.canLay0, PyData.canLayAll0, (by decide +kernel : PyData.strOk (Str.ofString "gap") = true)], by simp [rowD, Row.ds, PyData.depth, PyData.depthAll]⟩
theorem canLay_rows : ∀ a : List Row, PyData.canLayAll0 (a.map rowD) = true ∧ PyData.depthAll (a.map rowD) ≤ 10
  | [] => by simp [PyData.canLayAll0, PyData.depthAll]
  | x :: xs => by
    obtain ⟨h1, h2⟩ := canLay_rows xs
    obtain ⟨h3, h4⟩ := canLay_row x
    refine ⟨?_, ?_⟩
    · simp only [List.map_cons, PyData.canLayAll0, h3, h1]
      rfl
    · simp only [List.map_cons, PyData.depthAll]
      omega
theorem shaped_rows (a : List Row) : SeqAt.shaped (.list (a.map rowD)) = true := by
  obtain ⟨h1, h2⟩ := canLay_rows a
  have h3 : PyData.depth (.list (a.map rowD)) ≤ 64 := by simp only [PyData.depth]; omega
  show (PyData.canLay0 (.list (a.map rowD)) && decide (PyData.depth (.list (a.map rowD)) ≤ 64)) = true
  rw [Bool.and_eq_true]
  exact ⟨by simp only [PyData.canLay0]; exact h1, decide_eq_true h3⟩
section
variable {M : Addr → Prop} {Γ Γ' : Ct} {Rs : List Res} {X : Cx} {Z0 Z Hl : Hp} {D : Ends} {K : PySem.W.Frag} {rest : List Stmt} {a b c e : Expr} {pos p : Pos}
theorem ye_swap {r1 r2 : Res} {t : TE} {P : Pd} (h : YE M Γ (r2 :: r1 :: Rs) t P) : YE M Γ (r1 :: r2 :: Rs) t P := fun σ H0 H l e k Q q => h σ H0 H l e (Rok.swap k) Q fun v H0' H' s k' p => q v H0' H' s (Rok.swap k') p
theorem yt_swap {r1 r2 : Res} {t : TT} {B : Bool → Prop} (h : YT M Γ (r2 :: r1 :: Rs) t B) : YT M Γ (r1 :: r2 :: Rs) t B := fun σ H0 H l e k Q q => h σ H0 H l e (Rok.swap k) Q fun v H0' H' s k' p => q v H0' H' s (Rok.swap k') p
/-- d in a list at hand -/
theorem xt_inM {q : Addr} {d : PyData} {ds : List PyData} {n : Nat} (hr : Room n X.A) (ha : XE M Γ (Res.lst Z q (ds.map (PD X.K)) :: Rs) X a (PD X.K d)) (hb : XE M Γ (Res.lst Z q (ds.map (PD X.K)) :: Rs) X b (PV (.ref q))) (h1 : SeqAt.shaped d = true) (h2 : SeqAt.shaped (.list ds) = true) (hm : behindInMarks .In b = false := by rfl) :
    XT M Γ (Res.lst Z q (ds.map (PD X.K)) :: Rs) X (.Compare a [.In] [b] pos) (fun _ => True) :=
  xt_cmp (K := X.K) (op_inD (by have := hr.un; omega)) ha hb (fun x y H0 H hx hy e r => by
    obtain ⟨_, _, xs, hq, hd⟩ := r.2 _ List.mem_cons_self
    have hy' : y = .ref q := hy
    have d2 : Dd X.K H (.list ds) y := ⟨q, xs, hy', hq, DdAll.ex e _ _ hd.dd⟩
    exact fun Q k => (Yld.val (z := .bl (ds.any fun z => PyData.eqv z d)) (C := PD X.K (.bool (ds.any fun z => PyData.eqv z d))) e rfl fun Q k => ⟨d, ds, Dd.dp d x (Dd.ex e _ _ hx), Dd.dp (.list ds) y d2, h1, h2, k⟩) Q fun v H0' H' s p => k v H0' H' s ⟨_, True.intro, p⟩) hm
/-- at a drawn place of a tuple -/
theorem xe_ixTE {ds : List PyData} {A : Int → Prop} {B : PyData → Prop} (ha : XE M Γ Rs X a (PD X.K (.tuple ds))) (hb : XE M Γ Rs X b (PEx A fun k => PD X.K (.int k))) (h : ∀ k, A k → ∃ d, atI ds k = some d ∧ B d) (hs : PlainIx b := by exact fun _ _ => rfl) : XE M Γ Rs X (.Subscript a b pos) (PEx B fun d => PD X.K d) :=
  YE.wp (pe_ix ix_tup pe_wp pe_wp hs) (ye_op ha hb fun x y H0 H hx ⟨k, hk, hy⟩ e _ => by
    obtain ⟨d, h1, h2⟩ := h k hk
    exact fun Q q => yl_ixT h1 hx hy e Q fun v A G s p => q v A G s ⟨d, h2, p⟩)
end
section
variable {K : PySem.W.Frag} {mg : Str → Option Value} {base : Heap} {P : Program} {w : World}
abbrev spLLog (K : PySem.W.Frag) : Sp := SpF (α := { p : ((Addr × Addr) × List Int × List Int) × List Int × Int // LowHouse p.1.2.1 p.1.2.2 ∧ (p.2.1.Sublist (rgI 0 (p.1.2.1.length + 1)) ∧ p.2.1 ≠ []) ∧ 0 ≤ p.2.2 ∧ p.2.2 ≤ 900 }) (fun p => MB p.1.1.1.1 p.1.1.1.2) (fun p => [Res.mix p.1.1.1.1 p.1.1.1.2]) (fun p => [PV (.ref p.1.1.1.1), PD K (drawnD p.1.1.2.1 p.1.1.2.2), PD K (.tuple (li p.1.2.1)), PD K (.int p.1.2.2)])
  (fun p => PEx (fun rows : List Row => (∀ r ∈ rows, r.Lo p.1.1.2.1) ∧ (rows.length : Int) ≤ p.1.2.2) fun rows => PD K (logD rows))
theorem ok_law_log (T : Txt K mg) : FnOk P w K mg base CX0 3 T.f__law_log T.d__law_log ["_law_h", "_law_drawn", "_law_start_here", "_law_many"] (spLLog K) := by
  refine fn_F T.F__law_log sc__law_log (fun _ => rfl) fun ⟨⟨⟨⟨bx, l⟩, g, b⟩, st, mo⟩, hh, hst, hm⟩ Z0 Z Q X qX hQ => ?_
  obtain ⟨cdv, A, outer, s, E, rfl, hr⟩ := qX
  have hh2 : LowHouse g b := hh
  have hh' : HouseOk g b := hh2.1
  have hst' : st.Sublist (rgI 0 (g.length + 1)) ∧ st ≠ [] := hst
  have hm' : 0 ≤ mo ∧ mo ≤ 900 := hm
  have h9 := hh'.gaps.nine
  have hsl : st.length ≤ 10 := by
    have := hst'.1.length_le
    rw [rgI_len] at this
    omega
  have hsp : 1 ≤ st.length := List.length_pos_iff.mpr hst'.2
  have hln : ((li st).length : Int) = st.length := by simp [li]
  refine xs_parL 4 5 (P := PEx (fun f : Int => 0 ≤ f ∧ f ≤ g.length) fun f => PD K (.int f)) (YE.imp (xe_ixTE (B := fun d => ∃ f, d = .int f ∧ f ∈ st) (xe_var 2) (xe_next T (hr.mono (by decide)) (xe_var 0) (xe_lenT T.z_len (xe_var 2)) (by rw [hln]; omega) (by rw [hln]; omega) (fun _ h => h)) (fun k hk => ixE_li ⟨hk.1, by have := hk.2; rw [hln] at this; exact this⟩)) fun v H h => ?_) (fun q => ?_) sc__law_log.nd
  · obtain ⟨d, ⟨f, rfl, hf⟩, hv⟩ := h
    exact ⟨f, fl_in (hst'.1.subset hf), hv⟩
  refine xs_slot 4 rfl fun f0 hf0 => ?_
  refine xs_swap (xs_forNE 6 (xi_rangeE T.z_range (xe_next T (hr.mono (by decide)) (xe_var 0) (xe_add (xe_var 3) xe_int) (by show 1 ≤ mo + 1; omega) (by show mo + 1 < 1000000; omega) (fun _ h => h)) (fun n hn => by
      obtain ⟨a, c⟩ := hn
      have c' : n < mo + 1 := c
      constructor <;> omega)) (fun t Γ1 Rs1 => ∃ (rows : List Row) (f : Int) (a6 a7 a8 : Option Pd), (∀ r ∈ rows, r.Lo g) ∧ rows.length = t ∧ (0 ≤ f ∧ f ≤ g.length) ∧
      Γ1 = [some (PV (.ref bx)), some (PD K (drawnD g b)), some (PD K (.tuple (li st))), some (PD K (.int mo)), some (PD K (.int f)), some (PV (.ref q)), a6, a7, a8] ∧ Rs1 = [Res.mix bx l, Res.lst Z q ((rows.map rowD).map (PD K))]) ⟨[], f0, none, none, none, (fun r hr => by cases hr), rfl, hf0, rfl, rfl⟩ ?_ ?_ sc__law_log.nd)
  · rintro n hn t Qt Γ1 Rs1 hq ⟨rows, f, a6, a7, a8, hok, hlen, hf, rfl, rfl⟩ Hs
    have htn : t < n.toNat := by
      have := (List.getElem?_eq_some_iff.mp hq).1
      simpa [li, rgI_len] using this
    obtain ⟨hn1, hn2⟩ := hn
    have hn2' : n < mo + 1 := hn2
    refine xs_unpE 7 8 (xe_callM (ok_law_row T) (C := PEx (fun q : Row × Int => q.1.Lo g ∧ 0 ≤ q.2 ∧ q.2 ≤ g.length) fun q => PT2 K (PD K (.tuple q.1.ds)) (PD K (.int q.2))) hr T.g__law_row T.F__law_row.kp T.b__law_row (xa_cons (xe_var 0) (xa_cons (xe_var 1) (xa_1 (xe_var 4)))) (fun vs H h => ⟨⟨(((bx, l), g, b), f), hh2, hf⟩, h, rfl, fun _ h => h, fun a ha => by
      have ha' : a = bx ∨ a = l := ha
      simpa [Res.mix] using ha', fun _ _ h => h⟩)) (fun q1 hq1 => ?_) sc__law_log.nd
    obtain ⟨r, f1⟩ := q1
    obtain ⟨hr1, hf1⟩ := hq1
    have hr1' : r.Lo g := hr1
    have hf1' : 0 ≤ f1 ∧ f1 ≤ g.length := hf1
    refine xs_unpE 7 4 (A := fun q : Row × Int => q.1.Lo g ∧ 0 ≤ q.2 ∧ q.2 ≤ g.length) (P := fun q => PD K (.tuple q.1.ds)) (Q := fun q => PD K (.int q.2)) (xe_ifx (B := fun _ => True) (YT.imp (xt_and (xt_eqS (K := K) (xe_ixT (xe_var 7) xe_int r.k0) xe_str) fun _ => yt_swap (xt_inM (ds := rows.map rowD) hr (xe_tup (K := K) (ds := [.str "gap"]) (xa_1 xe_str) (by simp)) (xe_var 5) (by decide +kernel) (shaped_rows rows))) fun _ _ => True.intro) (fun _ => ?_) fun _ => ?_) (fun q2 hq2 => ?_) sc__law_log.nd
    · refine YE.imp (xe_tupP (K := K) (Ps := [PD K (.tuple [.str "door"]), PD K (.int f)]) (xa_cons (xe_tup (K := K) (ds := [.str "door"]) (xa_1 xe_str) (by simp)) (xa_1 (xe_var 4))) (by simp)) fun v H h => ?_
      exact ⟨(.door, f), ⟨True.intro, hf⟩, PTs.two h⟩
    · refine YE.imp (xe_tupP (K := K) (Ps := [PD K (.tuple r.ds), PD K (.int f1)]) (xa_cons (xe_var 7) (xa_1 (xe_var 8))) (by simp)) fun v H h => ?_
      exact ⟨(r, f1), ⟨hr1', hf1'⟩, PTs.two h⟩
    obtain ⟨r2, f2⟩ := q2
    obtain ⟨hr2, hf2⟩ := hq2
    have hr2' : r2.Lo g := hr2
    refine xs_swap (xs_app (q := q) (P := PD K (rowD r2)) (xe_var 5) (xe_var 7) (by rw [List.length_map, List.length_map]; omega) (xs_swap (xs_turn (fun σ H h => h) ⟨rows ++ [r2], f2, _, _, _, fun r' hr => ?_, by simp [hlen], hf2, rfl, by simp⟩)) (pe_bm PySem.F.plainAttrs_list PySem.F.slot_list_append PySem.F.type_list_append mt_append pe_wp (pa_cons pe_wp pa_nil)))
    rcases List.mem_append.mp hr with h | h
    · exact hok r' h
    · have e : r' = r2 := by simpa using h
      subst e
      exact hr2'
  · rintro n hn Γ1 Rs1 ⟨rows, f, a6, a7, a8, hok, hlen, hf, rfl, rfl⟩
    obtain ⟨hn1, hn2⟩ := hn
    have hn2' : n < mo + 1 := hn2
    have hz : (rows.length : Int) ≤ mo := by
      rw [hlen]
      simp only [li, List.length_map, rgI_len]
      omega
    refine xs_swap (xs_frzK 5 rfl rfl ?_)
    exact xs_ret (xe_var 5) fun v H0 H s k hv => hQ v H0 H s k ⟨rows, ⟨hok, hz⟩, hv⟩
end
end K33
namespace K33
open PySem L2 Lh
/-- the floor in whose share the number lies, and what is left of the number -/
def pickM : List Int → List Int → Int → Int × Int
  | [], _, i => (0, i)
  | f :: fs, v, i => if gtI v f ≤ i then pickM fs v (i - gtI v f) else (f, i)
theorem sumAt_cons (v : List Int) (f : Int) (fs : List Int) : sumAt v (f :: fs) = gtI v f + sumAt v fs := by
  simp [sumAt]
theorem pickM_ok {v : List Int} : ∀ {fl : List Int} {i : Int}, 0 ≤ i → i < sumAt v fl → (pickM fl v i).1 ∈ fl ∧ 0 ≤ (pickM fl v i).2 ∧ (pickM fl v i).2 < gtI v (pickM fl v i).1
  | [], i, h0, h1 => by
    have : sumAt v [] = 0 := rfl
    omega
  | f :: fs, i, h0, h1 => by
    rw [sumAt_cons] at h1
    unfold pickM
    split
    · obtain ⟨a, b⟩ := pickM_ok (v := v) (fl := fs) (i := i - gtI v f) (by omega) (by omega)
      exact ⟨List.mem_cons_of_mem _ a, b⟩
    · have h : i < gtI v f := by omega
      exact ⟨List.mem_cons_self, h0, h⟩
abbrev rowAt (l : List (List Int)) (f : Int) : List Int := l.getD f.toNat []
/-- the way with a number, floor by floor -/
def wayM (n : Nat) : List (List (List Int)) → Int → Int → List Int
  | [], _, _ => []
  | l :: ls, f, i => (pickM (rowAt l f) ((numsM n ls).headD []) i).1 :: wayM n ls (pickM (rowAt l f) ((numsM n ls).headD []) i).1 (pickM (rowAt l f) ((numsM n ls).headD []) i).2
def numberedM (n : Nat) (st : List Int) (ls : List (List (List Int))) (i : Int) : List Int :=
  (pickM st ((numsM n ls).headD []) i).1 :: wayM n ls (pickM st ((numsM n ls).headD []) i).1 (pickM st ((numsM n ls).headD []) i).2
theorem stepM_at {l : List (List Int)} {beh : List Int} {f : Int} (h0 : 0 ≤ f) (h1 : f < l.length) : gtI (stepM l beh) f = sumAt beh (rowAt l f) := by
  have h : f.toNat < l.length := by omega
  unfold gtI stepM rowAt
  simp [h]
theorem numsM_at (n : Nat) : ∀ (ls : List (List (List Int))) (k : Nat), k ≤ ls.length → (numsM n ls)[k]? = some ((numsM n (ls.drop k)).headD [])
  | [], k, h => by
    have : k = 0 := by simpa using h
    subst this
    rfl
  | l :: ls, 0, _ => rfl
  | l :: ls, k + 1, h => by
    show (numsM n ls)[k]? = _
    rw [numsM_at n ls k (by simpa using h)]
    rfl
theorem rowAt_ok {n : Nat} {ls : List (List (List Int))} (h : LinksOk n ls) {l : List (List Int)} (hl : l ∈ ls) {f : Int} (h0 : 0 ≤ f) (h1 : f < n) : rowAt l f ∈ l := by
  have := h.wide l hl
  have h : f.toNat < l.length := by omega
  unfold rowAt
  rw [List.getD_eq_getElem?_getD, List.getElem?_eq_getElem h]
  exact List.getElem_mem h
theorem atI_row {l : List (List Int)} {f : Int} (h0 : 0 ≤ f) (h1 : f < l.length) : atI (l.map eL) f = some (eL (rowAt l f)) := by
  have hlt : f.toNat < l.length := by omega
  have e : f = (f.toNat : Int) := by omega
  have q : (l.map eL)[f.toNat]? = some (eL (rowAt l f)) := by simp [rowAt, hlt]
  have r := atI_nat q
  rw [← e] at r
  exact r
section
variable {K : PySem.W.Frag} {mg : Str → Option Value} {base : Heap} {P : Program} {w : World}
abbrev spNumberFrom (K : PySem.W.Frag) : Sp := SpP (α := { p : List Int × List Int × List (List Int) // p.1.length ≤ 1000 ∧ ∀ x ∈ p.1, 0 ≤ x ∧ x < p.2.1.length }) (fun p => [PD K (.tuple (li p.1.1)), PD K (eLL (p.1.2.1 :: p.1.2.2))]) (fun p => PD K (.int (sumAt p.1.2.1 p.1.1)))
abbrev spPicked (K : PySem.W.Frag) : Sp := SpP (α := { p : List Int × List Int × Int // (∀ x ∈ p.1, 0 ≤ x ∧ x < p.2.1.length) ∧ 0 ≤ p.2.2 ∧ p.2.2 < sumAt p.2.1 p.1 }) (fun p => [PSeq K (li p.1.1), PD K (eL p.1.2.1), PD K (.int p.1.2.2)]) (fun p => PD K (.tuple [.int (pickM p.1.1 p.1.2.1 p.1.2.2).1, .int (pickM p.1.1 p.1.2.1 p.1.2.2).2]))
abbrev spNumbered (K : PySem.W.Frag) (n : Nat) : Sp := SpP (α := { p : List Int × List (List (List Int)) × Int // LinksOk n p.2.1 ∧ (∀ x ∈ p.1, 0 ≤ x ∧ x < (n : Int)) ∧ 0 ≤ p.2.2 ∧ p.2.2 < sumAt ((numsM n p.2.1).headD []) p.1 }) (fun p => [PD K (.tuple (li p.1.1)), PD K (eLLL p.1.2.1), PD K (eLL (numsM n p.1.2.1)), PD K (.int p.1.2.2)]) (fun p => PD K (.tuple (li (numberedM n p.1.1 p.1.2.1 p.1.2.2))))
end
end K33
namespace K33
open PySem L2 Lh
structure HearOk (g : List Int) (st : List Int) (rows : List Row) : Prop where
  nine : g.length ≤ 9
  start : ∀ x ∈ st, 0 ≤ x ∧ x ≤ g.length
  size : st.length ≤ 1000
  log : ∀ r ∈ rows, r.Ok g
  rows : rows.length ≤ 1000
def headM (g b : List Int) (rows : List Row) : List Int := (numsM (g.length + 1) (linksM g b rows)).headD []
def countM (g b st : List Int) (rows : List Row) : Int := sumAt (headM g b rows) st
def atM (g b st : List Int) (rows : List Row) (i : Int) : List Int := numberedM (g.length + 1) st (linksM g b rows) i
theorem headM_len {g b : List Int} {rows : List Row} (h : rows.length ≤ 1000) : (headM g b rows).length = g.length + 1 := head_wide (linksM_ok h).wide
section
variable {K : PySem.W.Frag} {mg : Str → Option Value} {base : Heap} {P : Program} {w : World}
abbrev spCount (K : PySem.W.Frag) (C : Addr) : Sp := SpP (α := { p : (List Int × List Int) × List Int × List Row // HearOk p.1.1 p.2.1 p.2.2 }) (fun p => [PHo K C p.1.1.1 p.1.1.2, PD K (.tuple (li p.1.2.1)), PD K (logD p.1.2.2)]) (fun p => PD K (.int (countM p.1.1.1 p.1.1.2 p.1.2.1 p.1.2.2)))
abbrev spAt (K : PySem.W.Frag) (C : Addr) : Sp := SpP (α := { p : (List Int × List Int) × (List Int × List Row) × Int // HearOk p.1.1 p.2.1.1 p.2.1.2 ∧ 0 ≤ p.2.2 ∧ p.2.2 < countM p.1.1 p.1.2 p.2.1.1 p.2.1.2 }) (fun p => [PHo K C p.1.1.1 p.1.1.2, PD K (.tuple (li p.1.2.1.1)), PD K (logD p.1.2.1.2), PD K (.int p.1.2.2)]) (fun p => PD K (.tuple (li (atM p.1.1.1 p.1.1.2 p.1.2.1.1 p.1.2.1.2 p.1.2.2))))
end
end K33
namespace K33
open PySem L2 Lh
/-- the floors behind a row, from some floors -/
def behR (g b : List Int) (r : Row) (fl : List Int) : List Int := (rgI 0 (g.length + 1)).filter fun o => fl.any fun f => decide (o ∈ nextF g b r f)
def behM (g b : List Int) (rows : List Row) (fl : List Int) : List Int := rows.foldl (fun fl r => behR g b r fl) fl
theorem behR_in {g b : List Int} {r : Row} {fl : List Int} : ∀ x ∈ behR g b r fl, 0 ≤ x ∧ x ≤ g.length := fun x hx => fl_in (List.mem_filter.mp hx).1
theorem behR_len {g b : List Int} {r : Row} {fl : List Int} : (behR g b r fl).length ≤ g.length + 1 := by
  have := List.length_filter_le (fun o => fl.any fun f => decide (o ∈ nextF g b r f)) (rgI 0 (g.length + 1))
  rw [rgI_len] at this
  exact this
theorem behM_take {g b : List Int} {rows : List Row} {fl : List Int} {t : Nat} {r : Row} (h : rows[t]? = some r) : behM g b (rows.take (t + 1)) fl = behR g b r (behM g b (rows.take t) fl) := by
  unfold behM
  rw [List.take_add_one, h]
  simp
section
variable {K : PySem.W.Frag} {mg : Str → Option Value} {base : Heap} {P : Program} {w : World}
abbrev spBehR (K : PySem.W.Frag) (C : Addr) : Sp := SpP (α := { p : (List Int × List Int) × Row × List Int // p.1.1.length ≤ 9 ∧ p.2.2.length ≤ 1000 ∧ ∀ x ∈ p.2.2, 0 ≤ x ∧ x ≤ p.1.1.length }) (fun p => [PHo K C p.1.1.1 p.1.1.2, PD K (rowD p.1.2.1), PD K (eL p.1.2.2)]) (fun p => PD K (eL (behR p.1.1.1 p.1.1.2 p.1.2.1 p.1.2.2)))
abbrev spBeh (K : PySem.W.Frag) (C : Addr) : Sp := SpP (α := { p : (List Int × List Int) × List Int × List Row // HearOk p.1.1 p.2.1 p.2.2 }) (fun p => [PHo K C p.1.1.1 p.1.1.2, PD K (.tuple (li p.1.2.1)), PD K (logD p.1.2.2)]) (fun p => PD K (eL (behM p.1.1.1 p.1.1.2 p.1.2.2 p.1.2.1)))
/-- what the floors are on the way -/
theorem behM_ok {g b st : List Int} {rows : List Row} (hk : HearOk g st rows) : ∀ t, (behM g b (rows.take t) st).length ≤ 1000 ∧ ∀ x ∈ behM g b (rows.take t) st, 0 ≤ x ∧ x ≤ g.length
  | 0 => ⟨hk.size, hk.start⟩
  | t + 1 => by
    cases h : rows[t]? with
    | none =>
      have e : rows.take (t + 1) = rows.take t := by
        rw [List.take_add_one, h]
        simp
      rw [e]
      exact behM_ok hk t
    | some r =>
      rw [behM_take h]
      exact ⟨by have := behR_len (g := g) (b := b) (r := r) (fl := behM g b (rows.take t) st); have := hk.nine; omega, behR_in⟩
end
end K33
namespace K33
open PySem L2 Lh
theorem gtI_nn {v : List Int} (h : ∀ x ∈ v, 0 ≤ x) (i : Int) : 0 ≤ gtI v i := by
  unfold gtI
  rw [List.getD_eq_getElem?_getD]
  cases e : v[i.toNat]? with
  | none => simp
  | some x => exact h x (List.mem_of_getElem? e)
theorem sum_nn : ∀ {l : List Int}, (∀ x ∈ l, 0 ≤ x) → 0 ≤ l.sum
  | [], _ => by simp
  | x :: l, h => by
    have h1 := h x List.mem_cons_self
    have h2 := sum_nn (l := l) fun y hy => h y (List.mem_cons_of_mem _ hy)
    rw [List.sum_cons]
    omega
theorem sumAt_nn {v : List Int} (h : ∀ x ∈ v, 0 ≤ x) (fl : List Int) : 0 ≤ sumAt v fl := sum_nn fun x hx => by
  obtain ⟨f, _, rfl⟩ := List.mem_map.mp hx
  exact gtI_nn h f
theorem rowAt_map {n : Nat} (h : Int → List Int) {f : Int} (h0 : 0 ≤ f) (h1 : f < n) : rowAt ((rgI 0 n).map h) f = h f := by
  have hlt : f.toNat < n := by omega
  have e : max f 0 = f := by omega
  unfold rowAt rgI
  simp [hlt, h0, e]
theorem headM_cons {g b : List Int} {r : Row} {rs : List Row} : headM g b (r :: rs) = stepM ((rgI 0 (g.length + 1)).map fun f => nextF g b r f) (headM g b rs) := rfl
theorem headM_at {g b : List Int} {r : Row} {rs : List Row} {f : Int} (h0 : 0 ≤ f) (h1 : f ≤ g.length) : gtI (headM g b (r :: rs)) f = sumAt (headM g b rs) (nextF g b r f) := by
  rw [headM_cons, stepM_at h0 (by rw [List.length_map, rgI_len]; omega), rowAt_map _ h0 (by omega)]
theorem headM_nn {g b : List Int} : ∀ rows, ∀ x ∈ headM g b rows, 0 ≤ x
  | [], x, hx => by
    have := List.eq_of_mem_replicate (show x ∈ List.replicate (g.length + 1) (1 : Int) from hx)
    omega
  | r :: rs, x, hx => by
    rw [headM_cons] at hx
    obtain ⟨es, _, rfl⟩ := List.mem_map.mp hx
    exact sumAt_nn (headM_nn rs) es
theorem headM_nil_at {g b : List Int} {f : Int} (h0 : 0 ≤ f) (h1 : f ≤ g.length) : gtI (headM g b []) f = 1 := by
  have hlt : f.toNat < g.length + 1 := by omega
  show gtI (List.replicate (g.length + 1) 1) f = 1
  unfold gtI
  simp [hlt]
theorem nextF_sub {g b : List Int} {r : Row} {f : Int} (hf : 0 ≤ f ∧ f ≤ g.length) : (nextF g b r f).Sublist (rgI 0 (g.length + 1)) := by
  have hm : f ∈ rgI 0 (g.length + 1) := mem_rgI.mpr (by omega)
  have h1 : [f].Sublist (rgI 0 (g.length + 1)) := List.singleton_sublist.mpr hm
  cases r with
  | go s => exact List.filter_sublist
  | gap => exact List.Sublist.refl _
  | door => exact h1
  | bell u =>
    show (if decide (f ∈ b) = u then [f] else []).Sublist _
    split
    · exact h1
    · exact List.nil_sublist _
  | look l =>
    show (if f ∈ l then [f] else []).Sublist _
    split
    · exact h1
    · exact List.nil_sublist _
theorem nextF_up {g b : List Int} {r : Row} {f : Int} (hf : 0 ≤ f ∧ f ≤ g.length) : (nextF g b r f).Pairwise (· < ·) := (rgI_up _).sublist (nextF_sub hf)
theorem filter_of_sub : ∀ {s l : List Int}, s.Sublist l → l.Nodup → l.filter (fun x => decide (x ∈ s)) = s
  | _, _, .slnil, _ => rfl
  | s, x :: l, .cons _ h, nd => by
    obtain ⟨h1, h2⟩ := List.nodup_cons.mp nd
    have : x ∉ s := fun hx => h1 (h.subset hx)
    rw [List.filter_cons, if_neg (by simpa using this)]
    exact filter_of_sub h h2
  | x :: s, _ :: l, .cons₂ _ h, nd => by
    obtain ⟨h1, h2⟩ := List.nodup_cons.mp nd
    rw [List.filter_cons, if_pos (by simp)]
    congr 1
    have e : l.filter (fun y => decide (y ∈ x :: s)) = l.filter (fun y => decide (y ∈ s)) := by
      refine List.filter_congr fun y hy => ?_
      have : y ≠ x := fun e => h1 (e ▸ hy)
      simp [this]
    rw [e]
    exact filter_of_sub h h2
theorem sum_bits (S : Int → Int) (p : Int → Bool) : ∀ l : List Int, (l.map fun m => b2n (p m) * S m).sum = ((l.filter p).map S).sum
  | [] => rfl
  | x :: l => by
    rw [List.map_cons, List.sum_cons, sum_bits S p l, List.filter_cons]
    cases p x with
    | true =>
      rw [if_pos rfl, List.map_cons, List.sum_cons]
      show (1 : Int) * S x + _ = _
      omega
    | false =>
      rw [if_neg (by simp)]
      show (0 : Int) * S x + _ = _
      omega
theorem sum_add (f h : Int → Int) : ∀ l : List Int, (l.map fun x => f x + h x).sum = (l.map f).sum + (l.map h).sum
  | [] => rfl
  | x :: l => by
    rw [List.map_cons, List.map_cons, List.map_cons, List.sum_cons, List.sum_cons, List.sum_cons, sum_add f h l]
    omega
theorem sum_mul (c : Int) (f : Int → Int) : ∀ l : List Int, (l.map fun x => c * f x).sum = c * (l.map f).sum
  | [] => by simp
  | x :: l => by
    rw [List.map_cons, List.map_cons, List.sum_cons, List.sum_cons, sum_mul c f l, Int.mul_add]
theorem sum_zero : ∀ l : List Int, (l.map fun _ => (0 : Int)).sum = 0
  | [] => rfl
  | x :: l => by
    rw [List.map_cons, List.sum_cons, sum_zero l]
    rfl
theorem sum_swap (c : Int → Int) (d : Int → Int → Int) (ks : List Int) : ∀ ms : List Int, (ks.map fun k => (ms.map fun m => c m * d m k).sum).sum = (ms.map fun m => c m * (ks.map (d m)).sum).sum
  | [] => sum_zero ks
  | m :: ms => by
    have e : (ks.map fun k => ((m :: ms).map fun m => c m * d m k).sum) = ks.map fun k => c m * d m k + (ms.map fun m => c m * d m k).sum := by
      refine List.map_congr_left fun k _ => ?_
      rw [List.map_cons, List.sum_cons]
    rw [e, sum_add (fun k => c m * d m k), sum_mul, sum_swap c d ks ms, List.map_cons, List.sum_cons]
/-! ### the number of a way -/
def before (v fl : List Int) (f : Int) : Int := ((fl.filter fun x => decide (x < f)).map (gtI v)).sum
theorem before_nn {v : List Int} (hv : ∀ x ∈ v, 0 ≤ x) (fl : List Int) (f : Int) : 0 ≤ before v fl f := sumAt_nn hv _
theorem before_cons_lt {v fl : List Int} {x f : Int} (h : x < f) : before v (x :: fl) f = gtI v x + before v fl f := by
  unfold before
  rw [List.filter_cons, if_pos (decide_eq_true h), List.map_cons, List.sum_cons]
theorem before_ge {v : List Int} {f : Int} : ∀ {fl : List Int}, (∀ x ∈ fl, f ≤ x) → before v fl f = 0
  | [], _ => rfl
  | x :: fl, h => by
    have h1 := h x List.mem_cons_self
    unfold before
    rw [List.filter_cons, if_neg (by simp; omega)]
    exact before_ge fun y hy => h y (List.mem_cons_of_mem _ hy)
theorem pick_at {v : List Int} (hv : ∀ x ∈ v, 0 ≤ x) : ∀ {fl : List Int} {f i : Int}, fl.Pairwise (· < ·) → f ∈ fl → 0 ≤ i → i < gtI v f → pickM fl v (before v fl f + i) = (f, i) ∧ before v fl f + gtI v f ≤ sumAt v fl
  | [], f, i, _, hf, _, _ => by cases hf
  | x :: fl, f, i, hp, hf, h0, h1 => by
    obtain ⟨hp1, hp2⟩ := List.pairwise_cons.mp hp
    rcases List.mem_cons.mp hf with e | hf
    · subst e
      have hb : before v (f :: fl) f = 0 := before_ge fun y hy => by
        rcases List.mem_cons.mp hy with e | hy
        · omega
        · have := hp1 y hy
          omega
      have := sumAt_nn hv fl
      rw [hb, sumAt_cons]
      refine ⟨?_, by omega⟩
      show (if gtI v f ≤ 0 + i then _ else _) = _
      rw [if_neg (by omega)]
      congr 1
      omega
    · have hx := hp1 f hf
      obtain ⟨q1, q2⟩ := pick_at hv hp2 hf h0 h1
      have hb := before_nn hv fl f
      rw [before_cons_lt hx, sumAt_cons]
      refine ⟨?_, by omega⟩
      show (if gtI v x ≤ gtI v x + before v fl f + i then pickM fl v (gtI v x + before v fl f + i - gtI v x) else _) = _
      rw [if_pos (by omega), show gtI v x + before v fl f + i - gtI v x = before v fl f + i by omega]
      exact q1
theorem pick_next {v : List Int} : ∀ {fl : List Int} {i : Int}, fl.Pairwise (· < ·) → 0 ≤ i → i + 1 < sumAt v fl → ((pickM fl v (i + 1)).1 = (pickM fl v i).1 ∧ (pickM fl v (i + 1)).2 = (pickM fl v i).2 + 1) ∨ (pickM fl v i).1 < (pickM fl v (i + 1)).1
  | [], i, _, h0, h1 => by
    have : sumAt v [] = 0 := rfl
    omega
  | x :: fl, i, hp, h0, h1 => by
    obtain ⟨hp1, hp2⟩ := List.pairwise_cons.mp hp
    rw [sumAt_cons] at h1
    have e : ∀ j, pickM (x :: fl) v j = if gtI v x ≤ j then pickM fl v (j - gtI v x) else (x, j) := fun j => rfl
    rw [e, e]
    by_cases c : gtI v x ≤ i
    · rw [if_pos c, if_pos (by omega), show i + 1 - gtI v x = i - gtI v x + 1 by omega]
      exact pick_next hp2 (by omega) (by omega)
    · rw [if_neg c]
      by_cases c2 : gtI v x ≤ i + 1
      · rw [if_pos c2]
        refine .inr (hp1 _ (pickM_ok (v := v) (fl := fl) (i := i + 1 - gtI v x) (by omega) (by omega)).1)
      · rw [if_neg c2]
        exact .inl ⟨rfl, rfl⟩
theorem LexGt.cons {a : Int} {p q : List Int} (h : LexGt p q) : LexGt (a :: p) (a :: q) := by
  obtain ⟨j, h1, h2, h3, h4⟩ := h
  refine ⟨j + 1, by simpa using h1, by simpa using h2, fun i hi => ?_, by simpa using h4⟩
  cases i with
  | zero => rfl
  | succ i => simpa using h3 i (by omega)
theorem LexGt.head {a c : Int} {p q : List Int} (h : c < a) : LexGt (a :: p) (c :: q) := ⟨0, by simp, by simp, fun i hi => by omega, by simpa using h⟩
theorem wayM_cons {g b : List Int} {r : Row} {rs : List Row} {f j : Int} (h0 : 0 ≤ f) (h1 : f ≤ g.length) : wayM (g.length + 1) (linksM g b (r :: rs)) f j = (pickM (nextF g b r f) (headM g b rs) j).1 :: wayM (g.length + 1) (linksM g b rs) (pickM (nextF g b r f) (headM g b rs) j).1 (pickM (nextF g b r f) (headM g b rs) j).2 := by
  have e : rowAt ((rgI 0 (g.length + 1)).map fun f => nextF g b r f) f = nextF g b r f := rowAt_map _ h0 (by omega)
  show (pickM (rowAt ((rgI 0 (g.length + 1)).map fun f => nextF g b r f) f) (headM g b rs) j).1 :: _ = _
  rw [← e]
  rfl
theorem way_next {g b : List Int} : ∀ (rows : List Row) {f j : Int}, 0 ≤ f → f ≤ g.length → 0 ≤ j → j + 1 < gtI (headM g b rows) f → LexGt (wayM (g.length + 1) (linksM g b rows) f (j + 1)) (wayM (g.length + 1) (linksM g b rows) f j)
  | [], f, j, h0, h1, h2, h3 => by
    rw [headM_nil_at h0 h1] at h3
    omega
  | r :: rs, f, j, h0, h1, h2, h3 => by
    rw [headM_at h0 h1] at h3
    rw [wayM_cons h0 h1, wayM_cons h0 h1]
    have up := nextF_up (b := b) (r := r) ⟨h0, h1⟩
    have k1 := pickM_ok (v := headM g b rs) (fl := nextF g b r f) (i := j + 1) (by omega) h3
    rcases pick_next up h2 h3 with ⟨e1, e2⟩ | h
    · rw [e1, e2]
      have hr := nextF_in ⟨h0, h1⟩ k1.1
      rw [e1] at k1 hr
      rw [e2] at k1
      have k0 := pickM_ok (v := headM g b rs) (fl := nextF g b r f) (i := j) h2 (by omega)
      exact LexGt.cons (way_next rs hr.1 hr.2 k0.2.1 k1.2.2)
    · exact LexGt.head h
theorem at_next {g b st : List Int} {rows : List Row} (hs : st.Pairwise (· < ·)) (hr : ∀ x ∈ st, 0 ≤ x ∧ x ≤ g.length) {i : Int} (h0 : 0 ≤ i) (h1 : i + 1 < countM g b st rows) : LexGt (atM g b st rows (i + 1)) (atM g b st rows i) := by
  have h1' : i + 1 < sumAt (headM g b rows) st := h1
  have e : ∀ j, atM g b st rows j = (pickM st (headM g b rows) j).1 :: wayM (g.length + 1) (linksM g b rows) (pickM st (headM g b rows) j).1 (pickM st (headM g b rows) j).2 := fun j => rfl
  rw [e, e]
  have k1 := pickM_ok (v := headM g b rows) (fl := st) (i := i + 1) (by omega) h1'
  rcases pick_next hs h0 h1' with ⟨e1, e2⟩ | h
  · rw [e1, e2]
    have q := hr _ k1.1
    rw [e1] at k1 q
    rw [e2] at k1
    have k0 := pickM_ok (v := headM g b rows) (fl := st) (i := i) h0 (by omega)
    exact LexGt.cons (way_next rows q.1 q.2 k0.2.1 k1.2.2)
  · exact LexGt.head h
/-- what is known of a way that is drawn: its number so far -/
structure Trail (g b st : List Int) (rows : List Row) (t : Nat) (way : List Int) (w N : Int) : Prop where
  len : way.length = t + 1
  last : way.getLast? = some w
  rng : 0 ≤ w ∧ w ≤ g.length
  nn : 0 ≤ N
  pos : 0 < gtI (headM g b (rows.drop t)) w
  top : N + gtI (headM g b (rows.drop t)) w ≤ countM g b st rows
  num : ∀ i, 0 ≤ i → i < gtI (headM g b (rows.drop t)) w → atM g b st rows (N + i) = way ++ wayM (g.length + 1) (linksM g b (rows.drop t)) w i
theorem Trail.start {g b st : List Int} {rows : List Row} (hs : st.Pairwise (· < ·)) (hr : ∀ x ∈ st, 0 ≤ x ∧ x ≤ g.length) {w : Int} (hw : w ∈ st) (hp : 0 < gtI (headM g b rows) w) : Trail g b st rows 0 [w] w (before (headM g b rows) st w) where
  len := rfl
  last := rfl
  rng := hr w hw
  nn := before_nn (headM_nn rows) st w
  pos := hp
  top := (pick_at (headM_nn rows) hs hw (Int.le_refl 0) hp).2
  num := fun i h0 h1 => by
    have k := (pick_at (headM_nn rows) hs hw h0 h1).1
    show (pickM st (headM g b rows) (before (headM g b rows) st w + i)).1 :: wayM (g.length + 1) (linksM g b rows) (pickM st (headM g b rows) (before (headM g b rows) st w + i)).1 (pickM st (headM g b rows) (before (headM g b rows) st w + i)).2 = _
    rw [k]
    rfl
theorem Trail.step {g b st : List Int} {rows : List Row} {t : Nat} {way : List Int} {w N : Int} (T : Trail g b st rows t way w N) {r : Row} (hr : rows[t]? = some r) {x : Int} (hx : x ∈ nextF g b r w) (hp : 0 < gtI (headM g b (rows.drop (t + 1))) x) :
    Trail g b st rows (t + 1) (way ++ [x]) x (N + before (headM g b (rows.drop (t + 1))) (nextF g b r w) x) := by
  have hlt : t < rows.length := (List.getElem?_eq_some_iff.mp hr).1
  have hd : rows.drop t = r :: rows.drop (t + 1) := by
    rw [List.drop_eq_getElem_cons hlt]
    rw [List.getElem?_eq_getElem hlt] at hr
    rw [Option.some.inj hr]
  have hw := T.rng
  have up := nextF_up (b := b) (r := r) hw
  have hS : gtI (headM g b (rows.drop t)) w = sumAt (headM g b (rows.drop (t + 1))) (nextF g b r w) := by
    rw [hd, headM_at hw.1 hw.2]
  have nnv := headM_nn (g := g) (b := b) (rows.drop (t + 1))
  have hb := before_nn nnv (nextF g b r w) x
  have hk := (pick_at nnv up hx (Int.le_refl 0) hp).2
  refine ⟨by rw [List.length_append, T.len]; rfl, by simp, nextF_in hw hx, by have := T.nn; omega, hp, ?_, fun i h0 h1 => ?_⟩
  · have := T.top
    omega
  · have k := (pick_at nnv up hx h0 h1).1
    have q := T.num (before (headM g b (rows.drop (t + 1))) (nextF g b r w) x + i) (by omega) (by rw [hS]; omega)
    rw [hd, wayM_cons hw.1 hw.2, k] at q
    rw [Int.add_assoc, q, List.append_assoc]
    rfl
/-- those with no way left do not count -/
theorem before_some {v : List Int} (hv : ∀ x ∈ v, 0 ≤ x) (f : Int) : ∀ fl : List Int, before v (fl.filter fun x => decide (0 < gtI v x)) f = before v fl f
  | [] => rfl
  | x :: fl => by
    have ih := before_some hv f fl
    have hx := gtI_nn hv x
    rw [List.filter_cons]
    by_cases c : 0 < gtI v x
    · rw [if_pos (decide_eq_true c)]
      unfold before at ih ⊢
      rw [List.filter_cons, List.filter_cons]
      by_cases d : x < f
      · rw [if_pos (decide_eq_true d), if_pos (decide_eq_true d), List.map_cons, List.map_cons, List.sum_cons, List.sum_cons, ih]
      · rw [if_neg (by simpa using d), if_neg (by simpa using d), ih]
    · rw [if_neg (by simpa using c), ih]
      unfold before
      rw [List.filter_cons]
      by_cases d : x < f
      · rw [if_pos (decide_eq_true d), List.map_cons, List.sum_cons]
        omega
      · rw [if_neg (by simpa using d)]
theorem some_pos {v : List Int} : ∀ {fl : List Int}, 0 < sumAt v fl → fl.filter (fun x => decide (0 < gtI v x)) ≠ []
  | [], h, _ => by
    have : sumAt v [] = 0 := rfl
    omega
  | x :: fl, h, e => by
    rw [sumAt_cons] at h
    rw [List.filter_cons] at e
    by_cases c : 0 < gtI v x
    · rw [if_pos (decide_eq_true c)] at e
      cases e
    · rw [if_neg (by simpa using c)] at e
      exact some_pos (fl := fl) (by omega) e
end K33
namespace K33
open PySem L2 Lh
/-- the ways of a log from a floor -/
abbrev S (g b : List Int) (rows : List Row) (f : Int) : Int := gtI (headM g b rows) f
theorem sum_swap2 (a : Int → Int → Int) (c : Int → Int) (ms : List Int) : ∀ ls : List Int, (ls.map fun o => (ms.map fun m => a o m * c m).sum).sum = (ms.map fun m => (ls.map fun o => a o m).sum * c m).sum
  | [] => by
    have e : (ms.map fun m => (([] : List Int).map fun o => a o m).sum * c m) = ms.map fun _ => (0 : Int) := List.map_congr_left fun m _ => by simp
    rw [e, sum_zero]
    rfl
  | o :: ls => by
    rw [List.map_cons, List.sum_cons, sum_swap2 a c ms ls]
    have e : (ms.map fun m => ((o :: ls).map fun o => a o m).sum * c m) = ms.map fun m => a o m * c m + (ls.map fun o => a o m).sum * c m := List.map_congr_left fun m _ => by
      rw [List.map_cons, List.sum_cons, Int.add_mul]
    rw [e, sum_add (fun m => a o m * c m)]
theorem pick_one (c : Int → Int) {m : Int} : ∀ {l : List Int}, l.Nodup → m ∈ l → (l.map fun x => (if m = x then (1 : Int) else 0) * c x).sum = c m
  | [], _, h => by cases h
  | x :: l, nd, h => by
    obtain ⟨h1, h2⟩ := List.nodup_cons.mp nd
    rw [List.map_cons, List.sum_cons]
    by_cases e : m = x
    · subst e
      have z : (l.map fun x => (if m = x then (1 : Int) else 0) * c x) = l.map fun _ => (0 : Int) := List.map_congr_left fun y hy => by
        have : ¬ m = y := fun e => h1 (e ▸ hy)
        simp [this]
      rw [z, sum_zero, if_pos rfl]
      omega
    · rw [if_neg e, pick_one c h2 ((List.mem_cons.mp h).resolve_left e)]
      omega
/-- to look at one floor only -/
theorem S_look {g b : List Int} {m f : Int} (hf : 0 ≤ f ∧ f ≤ g.length) : S g b [.look [m]] f = if f = m then 1 else 0 := by
  show gtI (headM g b [.look [m]]) f = _
  rw [headM_at hf.1 hf.2]
  by_cases e : f = m
  · subst e
    have : nextF g b (.look [f]) f = [f] := by
      show (if f ∈ [f] then [f] else []) = _
      simp
    rw [this, if_pos rfl]
    show (([f] : List Int).map fun x => gtI (headM g b []) x).sum = 1
    simp only [List.map_cons, List.map_nil, List.sum_cons, List.sum_nil]
    rw [headM_nil_at hf.1 hf.2]
    rfl
  · have : nextF g b (.look [m]) f = [] := by
      show (if f ∈ [m] then [f] else []) = _
      simp [e]
    rw [this, if_neg e]
    rfl
/-- a log in two parts, by the floor between -/
theorem S_parts {g b : List Int} {other : List Row} : ∀ (one : List Row) {f : Int}, 0 ≤ f ∧ f ≤ g.length → S g b (one ++ other) f = ((rgI 0 (g.length + 1)).map fun m => S g b (one ++ [.look [m]]) f * S g b other m).sum
  | [], f, hf => by
    have e : ((rgI 0 (g.length + 1)).map fun m => S g b ([] ++ [.look [m]]) f * S g b other m) = (rgI 0 (g.length + 1)).map fun m => (if f = m then (1 : Int) else 0) * S g b other m := List.map_congr_left fun m _ => by
      show S g b [.look [m]] f * S g b other m = _
      rw [S_look hf]
    rw [e, pick_one (S g b other) ((rgI_up _).imp fun h e => by omega) (mem_rgI.mpr (by omega))]
    rfl
  | r :: one, f, hf => by
    show gtI (headM g b (r :: (one ++ other))) f = _
    rw [headM_at hf.1 hf.2]
    have e : ((nextF g b r f).map fun o => S g b (one ++ other) o) = (nextF g b r f).map fun o => ((rgI 0 (g.length + 1)).map fun m => S g b (one ++ [.look [m]]) o * S g b other m).sum := List.map_congr_left fun o ho => S_parts one (nextF_in hf ho)
    show ((nextF g b r f).map fun o => S g b (one ++ other) o).sum = _
    rw [e, sum_swap2]
    congr 1
    refine List.map_congr_left fun m _ => ?_
    have e2 : S g b (r :: one ++ [.look [m]]) f = ((nextF g b r f).map fun o => S g b (one ++ [.look [m]]) o).sum := by
      show gtI (headM g b (r :: (one ++ [.look [m]]))) f = _
      rw [headM_at hf.1 hf.2]
      rfl
    rw [e2]
theorem count_parts {g b st : List Int} {one other : List Row} (hs : ∀ x ∈ st, 0 ≤ x ∧ x ≤ g.length) : countM g b st (one ++ other) = ((rgI 0 (g.length + 1)).map fun m => countM g b st (one ++ [.look [m]]) * countM g b [m] other).sum := by
  have e : (st.map fun f => S g b (one ++ other) f) = st.map fun f => ((rgI 0 (g.length + 1)).map fun m => S g b (one ++ [.look [m]]) f * S g b other m).sum := List.map_congr_left fun f hf => S_parts one (hs f hf)
  show (st.map fun f => S g b (one ++ other) f).sum = _
  rw [e, sum_swap2]
  congr 1
  refine List.map_congr_left fun m _ => ?_
  have e2 : countM g b [m] other = S g b other m := by
    show (([m] : List Int).map fun f => S g b other f).sum = _
    simp
  rw [e2]
  rfl
end K33
namespace K33
open PySem L2 Lh
theorem far_comm (g : List Int) (i j : Int) : far g i j = far g j i := by
  unfold far
  rw [Int.min_comm, Int.max_comm]
theorem one_iff {P : Prop} [Decidable P] {o f : Int} : o ∈ (if P then [f] else []) ↔ o = f ∧ P := by
  by_cases h : P
  · rw [if_pos h]
    simp [h]
  · rw [if_neg h]
    simp [h]
theorem next_sym {g b : List Int} {r : Row} {f o : Int} (hf : 0 ≤ f ∧ f ≤ g.length) (ho : o ∈ nextF g b r f) : f ∈ nextF g b r o := by
  have hfm : f ∈ rgI 0 (g.length + 1) := mem_rgI.mpr (by omega)
  cases r with
  | go s =>
    obtain ⟨h1, h2⟩ := List.mem_filter.mp (show o ∈ (rgI 0 (g.length + 1)).filter fun o => decide (far g f o = s) from ho)
    refine List.mem_filter.mpr ⟨hfm, ?_⟩
    have h3 : far g f o = s := of_decide_eq_true h2
    show decide (far g o f = s) = true
    rw [far_comm, h3]
    simp
  | gap => exact hfm
  | door =>
    have e : o = f := by simpa [nextF] using ho
    subst e
    exact ho
  | bell u =>
    obtain ⟨e, h⟩ := one_iff.mp (show o ∈ (if decide (f ∈ b) = u then [f] else []) from ho)
    subst e
    exact one_iff.mpr ⟨rfl, h⟩
  | look l =>
    obtain ⟨e, h⟩ := one_iff.mp (show o ∈ (if f ∈ l then [f] else []) from ho)
    subst e
    exact one_iff.mpr ⟨rfl, h⟩
/-- the ways of a log from a floor to a floor -/
abbrev Pt (g b : List Int) (rows : List Row) (f m : Int) : Int := S g b (rows ++ [.look [m]]) f
theorem Pt_cons {g b : List Int} {r : Row} {rows : List Row} {f m : Int} (hf : 0 ≤ f ∧ f ≤ g.length) : Pt g b (r :: rows) f m = ((nextF g b r f).map fun o => Pt g b rows o m).sum := by
  show gtI (headM g b (r :: (rows ++ [.look [m]]))) f = _
  rw [headM_at hf.1 hf.2]
  rfl
/-- one row: is it a step -/
theorem Pt_one {g b : List Int} {r : Row} {f m : Int} (hf : 0 ≤ f ∧ f ≤ g.length) : Pt g b [r] f m = if m ∈ nextF g b r f then 1 else 0 := by
  rw [Pt_cons hf]
  have e : ((nextF g b r f).map fun o => Pt g b [] o m) = (nextF g b r f).map fun o => (if m = o then (1 : Int) else 0) * 1 := List.map_congr_left fun o ho => by
    show S g b [.look [m]] o = _
    rw [S_look (nextF_in hf ho)]
    by_cases h : o = m
    · rw [if_pos h, if_pos h.symm]
      rfl
    · rw [if_neg h, if_neg fun e => h e.symm]
      rfl
  rw [e]
  have nd : (nextF g b r f).Nodup := (nextF_up hf).imp fun h e => by omega
  by_cases h : m ∈ nextF g b r f
  · rw [if_pos h, pick_one (fun _ => 1) nd h]
  · rw [if_neg h]
    have z : ((nextF g b r f).map fun o => (if m = o then (1 : Int) else 0) * 1) = (nextF g b r f).map fun _ => (0 : Int) := List.map_congr_left fun o ho => by
      have : ¬ m = o := fun e => h (e ▸ ho)
      simp [this]
    rw [z, sum_zero]
theorem Pt_app {g b : List Int} {one other : List Row} {f m : Int} (hf : 0 ≤ f ∧ f ≤ g.length) : Pt g b (one ++ other) f m = ((rgI 0 (g.length + 1)).map fun o => Pt g b one f o * Pt g b other o m).sum := by
  show S g b (one ++ other ++ [.look [m]]) f = _
  rw [List.append_assoc]
  exact S_parts one hf
/-- the log from its end -/
theorem Pt_rev {g b : List Int} : ∀ (rows : List Row) {f m : Int}, 0 ≤ f ∧ f ≤ g.length → 0 ≤ m ∧ m ≤ g.length → Pt g b rows.reverse m f = Pt g b rows f m
  | [], f, m, hf, hm => by
    show S g b [.look [f]] m = S g b [.look [m]] f
    rw [S_look hm, S_look hf]
    by_cases h : m = f
    · rw [if_pos h, if_pos h.symm]
    · rw [if_neg h, if_neg fun e => h e.symm]
  | r :: rows, f, m, hf, hm => by
    rw [List.reverse_cons, Pt_app hm, Pt_cons hf]
    have e : ((rgI 0 (g.length + 1)).map fun o => Pt g b rows.reverse m o * Pt g b [r] o f) = (rgI 0 (g.length + 1)).map fun o => b2n (decide (o ∈ nextF g b r f)) * Pt g b rows o m := List.map_congr_left fun o ho => by
      have ho' := fl_in ho
      rw [Pt_rev rows ho' hm, Pt_one ho', Int.mul_comm]
      congr 1
      by_cases h : o ∈ nextF g b r f
      · rw [if_pos (next_sym hf h), decide_eq_true h]
        rfl
      · rw [if_neg fun q => h (next_sym ho' q), decide_eq_false h]
        rfl
    rw [e, sum_bits (fun o => Pt g b rows o m) (fun o => decide (o ∈ nextF g b r f)), filter_of_sub (nextF_sub hf) ((rgI_up _).imp fun h e => by omega)]
theorem S_Pt {g b : List Int} {rows : List Row} {f : Int} (hf : 0 ≤ f ∧ f ≤ g.length) : S g b rows f = ((rgI 0 (g.length + 1)).map fun m => Pt g b rows f m).sum := by
  have h := S_parts (g := g) (b := b) (other := []) rows hf
  rw [List.append_nil] at h
  rw [h]
  congr 1
  refine List.map_congr_left fun m hm => ?_
  have hm' := fl_in hm
  show Pt g b rows f m * gtI (headM g b []) m = _
  rw [headM_nil_at hm'.1 hm'.2]
  omega
theorem sum_comm2 (a : Int → Int → Int) (ms : List Int) : ∀ ls : List Int, (ls.map fun o => (ms.map fun m => a o m).sum).sum = (ms.map fun m => (ls.map fun o => a o m).sum).sum := fun ls => by
  have h := sum_swap2 a (fun _ => 1) ms ls
  simpa using h
/-- from all floors: as many ways from the end -/
theorem count_rev {g b : List Int} (rows : List Row) : countM g b (rgI 0 (g.length + 1)) rows.reverse = countM g b (rgI 0 (g.length + 1)) rows := by
  have e : ∀ rs : List Row, countM g b (rgI 0 (g.length + 1)) rs = ((rgI 0 (g.length + 1)).map fun f => ((rgI 0 (g.length + 1)).map fun m => Pt g b rs f m).sum).sum := fun rs => by
    show ((rgI 0 (g.length + 1)).map fun f => S g b rs f).sum = _
    congr 1
    exact List.map_congr_left fun f hf => S_Pt (fl_in hf)
  rw [e, e, sum_comm2]
  congr 1
  refine List.map_congr_left fun f hf => ?_
  congr 1
  exact List.map_congr_left fun m hm => Pt_rev rows (fl_in hf) (fl_in hm)
end K33
namespace K33
open PySem L2 Lh
theorem sum_pos {c : Int → Int} : ∀ {l : List Int}, (∀ x ∈ l, 0 ≤ c x) → (0 < (l.map c).sum ↔ ∃ x ∈ l, 0 < c x)
  | [], _ => by simp
  | x :: l, h => by
    have h1 := h x List.mem_cons_self
    have h2 := sum_pos (c := c) (l := l) fun y hy => h y (List.mem_cons_of_mem _ hy)
    have h3 : 0 ≤ (l.map c).sum := sum_nn fun y hy => by
      obtain ⟨z, hz, rfl⟩ := List.mem_map.mp hy
      exact h z (List.mem_cons_of_mem _ hz)
    rw [List.map_cons, List.sum_cons]
    constructor
    · intro q
      by_cases e : 0 < c x
      · exact ⟨x, List.mem_cons_self, e⟩
      · obtain ⟨y, hy, hp⟩ := h2.mp (by omega)
        exact ⟨y, List.mem_cons_of_mem _ hy, hp⟩
    · rintro ⟨y, hy, hp⟩
      rcases List.mem_cons.mp hy with e | hy2
      · subst e
        omega
      · have := h2.mpr ⟨y, hy2, hp⟩
        omega
theorem S_nn {g b : List Int} {rows : List Row} (f : Int) : 0 ≤ S g b rows f := gtI_nn (headM_nn rows) f
theorem behR_mem {g b : List Int} {r : Row} {fl : List Int} (hfl : ∀ f ∈ fl, 0 ≤ f ∧ f ≤ g.length) {o : Int} : o ∈ behR g b r fl ↔ ∃ f ∈ fl, o ∈ nextF g b r f := by
  unfold behR
  rw [List.mem_filter, List.any_eq_true]
  constructor
  · rintro ⟨_, f, hf, h⟩
    exact ⟨f, hf, of_decide_eq_true h⟩
  · rintro ⟨f, hf, h⟩
    have := nextF_in (hfl f hf) h
    exact ⟨mem_rgI.mpr (by omega), f, hf, decide_eq_true h⟩
/-- the floors behind a log are those to which a way leads -/
theorem beh_iff {g b : List Int} {m : Int} : ∀ (rows : List Row) {fl : List Int}, (∀ f ∈ fl, 0 ≤ f ∧ f ≤ g.length) → (m ∈ behM g b rows fl ↔ 0 < countM g b fl (rows ++ [.look [m]]))
  | [], fl, hfl => by
    show m ∈ fl ↔ 0 < (fl.map fun f => S g b [.look [m]] f).sum
    rw [sum_pos fun x _ => S_nn x]
    constructor
    · intro h
      refine ⟨m, h, ?_⟩
      show 0 < S g b [.look [m]] m
      rw [S_look (hfl m h), if_pos rfl]
      decide
    · rintro ⟨f, hf, hp⟩
      have hp' : 0 < S g b [.look [m]] f := hp
      rw [S_look (hfl f hf)] at hp'
      by_cases e : f = m
      · exact e ▸ hf
      · rw [if_neg e] at hp'
        exact absurd hp' (by decide)
  | r :: rows, fl, hfl => by
    have ih := beh_iff (g := g) (b := b) (m := m) rows (fl := behR g b r fl) behR_in
    have e1 : behM g b (r :: rows) fl = behM g b rows (behR g b r fl) := rfl
    rw [e1, ih]
    show 0 < ((behR g b r fl).map fun o => Pt g b rows o m).sum ↔ 0 < (fl.map fun f => Pt g b (r :: rows) f m).sum
    rw [sum_pos fun x _ => S_nn x, sum_pos fun x _ => S_nn x]
    constructor
    · rintro ⟨o, ho, hp⟩
      obtain ⟨f, hf, hn⟩ := (behR_mem hfl).mp ho
      refine ⟨f, hf, ?_⟩
      show 0 < Pt g b (r :: rows) f m
      rw [Pt_cons (hfl f hf), sum_pos fun x _ => S_nn x]
      exact ⟨o, hn, hp⟩
    · rintro ⟨f, hf, hp⟩
      have hp1 : 0 < Pt g b (r :: rows) f m := hp
      rw [Pt_cons (hfl f hf), sum_pos fun x _ => S_nn x] at hp1
      obtain ⟨o, hn, hp2⟩ := hp1
      exact ⟨o, (behR_mem hfl).mpr ⟨f, hf, hn⟩, hp2⟩
theorem beh_app {g b : List Int} {one other : List Row} {fl : List Int} : behM g b (one ++ other) fl = behM g b other (behM g b one fl) := by
  unfold behM
  rw [List.foldl_append]
end K33
namespace K33
open PySem L2 Lh
/-! ### the first row that cannot be -/
theorem behM_nil {g b : List Int} : ∀ rows : List Row, behM g b rows [] = []
  | [] => rfl
  | r :: rows => by
    have e : behR g b r [] = [] := by
      unfold behR
      simp
    show behM g b rows (behR g b r []) = []
    rw [e]
    exact behM_nil rows
theorem count_pos {g b st : List Int} {rows : List Row} (hs : ∀ x ∈ st, 0 ≤ x ∧ x ≤ g.length) : 0 < countM g b st rows ↔ behM g b rows st ≠ [] := by
  have nn : ∀ m, 0 ≤ countM g b st (rows ++ [.look [m]]) := fun m => sumAt_nn (headM_nn _) st
  have e := count_parts (g := g) (b := b) (st := st) (one := rows) (other := []) hs
  rw [List.append_nil] at e
  have e1 : ((rgI 0 (g.length + 1)).map fun m => countM g b st (rows ++ [.look [m]]) * countM g b [m] []) = (rgI 0 (g.length + 1)).map fun m => countM g b st (rows ++ [.look [m]]) := List.map_congr_left fun m hm => by
    have hm' := fl_in hm
    have : countM g b [m] [] = 1 := by
      show (([m] : List Int).map fun f => gtI (headM g b []) f).sum = 1
      simp only [List.sum_cons, List.sum_nil, List.map_cons, List.map_nil]
      rw [headM_nil_at hm'.1 hm'.2]
      rfl
    rw [this, Int.mul_one]
  rw [e1] at e
  rw [e, sum_pos fun m _ => nn m]
  constructor
  · rintro ⟨m, _, h⟩ z
    have := (beh_iff rows hs).2 h
    rw [z] at this
    cases this
  · intro h
    obtain ⟨m, hm⟩ := List.exists_mem_of_ne_nil _ h
    have h2 : 0 ≤ m ∧ m ≤ g.length := by
      cases rows with
      | nil => exact hs m hm
      | cons r rows =>
        rw [show r :: rows = (r :: rows).dropLast ++ [(r :: rows).getLast (by simp)] from (List.dropLast_concat_getLast (by simp)).symm, beh_app] at hm
        exact behR_in m hm
    exact ⟨m, mem_rgI.mpr (by omega), (beh_iff rows hs).1 hm⟩
/-! ### a way -/
/-- from a floor: the floors behind the rows, one by one -/
def Way (g b : List Int) : List Row → Int → List Int → Prop
  | [], _, l => l = []
  | r :: rs, f, l => ∃ o l', l = o :: l' ∧ o ∈ nextF g b r f ∧ Way g b rs o l'
theorem wayM_way {g b : List Int} : ∀ (rows : List Row) {f j : Int}, 0 ≤ f → f ≤ g.length → 0 ≤ j → j < gtI (headM g b rows) f → Way g b rows f (wayM (g.length + 1) (linksM g b rows) f j)
  | [], f, j, h0, h1, h2, h3 => rfl
  | r :: rs, f, j, h0, h1, h2, h3 => by
    rw [headM_at h0 h1] at h3
    rw [wayM_cons h0 h1]
    obtain ⟨q1, q2, q3⟩ := pickM_ok (v := headM g b rs) (fl := nextF g b r f) h2 h3
    have hr := nextF_in ⟨h0, h1⟩ q1
    exact ⟨_, _, rfl, q1, wayM_way rs hr.1 hr.2 q2 q3⟩
theorem at_way {g b st : List Int} {rows : List Row} (hs : ∀ x ∈ st, 0 ≤ x ∧ x ≤ g.length) {i : Int} (h0 : 0 ≤ i) (h1 : i < countM g b st rows) : ∃ f l, atM g b st rows i = f :: l ∧ f ∈ st ∧ Way g b rows f l := by
  have h1' : i < sumAt (headM g b rows) st := h1
  obtain ⟨q1, q2, q3⟩ := pickM_ok (v := headM g b rows) (fl := st) h0 h1'
  exact ⟨_, _, rfl, q1, wayM_way rows (hs _ q1).1 (hs _ q1).2 q2 q3⟩
theorem Way.len {g b : List Int} : ∀ {rows : List Row} {f : Int} {l : List Int}, Way g b rows f l → l.length = rows.length
  | [], _, _, h => by
    have h' : _ = [] := h
    rw [h']
    rfl
  | r :: rs, f, l, ⟨o, l', e, _, h⟩ => by
    rw [e, List.length_cons, h.len]
    rfl
/-- its floor at a moment lies in the floors behind the rows until then -/
theorem Way.beh {g b : List Int} : ∀ {rows : List Row} {f : Int} {l fl : List Int}, Way g b rows f l → f ∈ fl → (∀ x ∈ fl, 0 ≤ x ∧ x ≤ g.length) → ∀ (k : Nat) (x : Int), (f :: l)[k]? = some x → x ∈ behM g b (rows.take k) fl
  | rows, f, l, fl, _, hf, _, 0, x, h => by
    have e : f = x := Option.some.inj h
    rw [List.take_zero]
    exact e ▸ hf
  | [], f, l, fl, h, hf, _, k + 1, x, hk => by
    have h' : l = [] := h
    rw [h'] at hk
    simp at hk
  | r :: rs, f, l, fl, ⟨o, l', e, ho, h⟩, hf, hr, k + 1, x, hk => by
    rw [e] at hk
    have hk' : (o :: l')[k]? = some x := hk
    show x ∈ behM g b (rs.take k) (behR g b r fl)
    exact h.beh ((behR_mem hr).2 ⟨f, hf, ho⟩) behR_in k x hk'
theorem Way.pos {g b : List Int} : ∀ {rows : List Row} {f : Int} {l : List Int}, (0 ≤ f ∧ f ≤ g.length) → Way g b rows f l → 0 < S g b rows f
  | [], f, l, hf, _ => by
    show 0 < gtI (headM g b []) f
    rw [headM_nil_at hf.1 hf.2]
    decide
  | r :: rs, f, l, hf, ⟨o, l', _, ho, h⟩ => by
    show 0 < gtI (headM g b (r :: rs)) f
    rw [headM_at hf.1 hf.2]
    exact (sum_pos fun x _ => S_nn x).2 ⟨o, ho, h.pos (nextF_in hf ho)⟩
/-- back from its end -/
theorem Way.back {g b st : List Int} {rows : List Row} {f : Int} {l : List Int} (h : Way g b rows f l) (hf : 0 ≤ f ∧ f ≤ g.length) (hst : f ∈ st) {x : Int} (hx : (f :: l)[rows.length]? = some x) : 0 < countM g b [x] (rows.reverse ++ [.look st]) := by
  have hr1 : ∀ z ∈ [f], 0 ≤ z ∧ z ≤ g.length := fun z hz => by
    have e : z = f := by simpa using hz
    rw [e]
    exact hf
  have h1 := h.beh (fl := [f]) (by simp) hr1 _ _ hx
  rw [List.take_length] at h1
  have hxr : 0 ≤ x ∧ x ≤ g.length := by
    rcases Nat.eq_zero_or_pos rows.length with z | z
    · have e : rows = [] := List.length_eq_zero_iff.mp z
      subst e
      have : x ∈ [f] := h1
      exact hr1 x this
    · obtain ⟨r, rs, e⟩ : ∃ r rs, rows = rs ++ [r] := ⟨rows.getLast (List.length_pos_iff.mp z), rows.dropLast, (List.dropLast_concat_getLast _).symm⟩
      rw [e, beh_app] at h1
      exact behR_in x h1
  have h2 : 0 < Pt g b rows f x := by
    have := (beh_iff (m := x) rows hr1).1 h1
    have e : countM g b [f] (rows ++ [.look [x]]) = Pt g b rows f x := by
      show (([f] : List Int).map fun f => S g b (rows ++ [.look [x]]) f).sum = _
      simp
    rw [e] at this
    exact this
  have e : countM g b [x] (rows.reverse ++ [.look st]) = S g b (rows.reverse ++ [.look st]) x := by
    show (([x] : List Int).map fun f => S g b (rows.reverse ++ [.look st]) f).sum = _
    simp
  rw [e, S_parts rows.reverse hxr, sum_pos fun m _ => Int.mul_nonneg (S_nn _) (S_nn m)]
  refine ⟨f, mem_rgI.mpr (by omega), Int.mul_pos ?_ ?_⟩
  · have q := Pt_rev (b := b) rows hf hxr
    show 0 < Pt g b rows.reverse x f
    rw [q]
    exact h2
  · show 0 < gtI (headM g b [.look st]) f
    rw [headM_at hf.1 hf.2]
    have e : nextF g b (.look st) f = [f] := by
      show (if f ∈ st then [f] else []) = _
      rw [if_pos hst]
    rw [e]
    exact (sum_pos fun z _ => S_nn (g := g) (b := b) (rows := []) z).2 ⟨f, by simp, by
      show 0 < gtI (headM g b []) f
      rw [headM_nil_at hf.1 hf.2]
      decide⟩
theorem sum_le {c d : Int → Int} : ∀ {l : List Int}, (∀ x ∈ l, c x ≤ d x) → (l.map c).sum ≤ (l.map d).sum
  | [], _ => Int.le_refl _
  | x :: l, h => by
    have h1 := h x List.mem_cons_self
    have h2 := sum_le (l := l) fun y hy => h y (List.mem_cons_of_mem _ hy)
    rw [List.map_cons, List.map_cons, List.sum_cons, List.sum_cons]
    omega
theorem sum_lt {c d : Int → Int} {a : Int} : ∀ {l : List Int}, (∀ x ∈ l, c x ≤ d x) → a ∈ l → c a < d a → (l.map c).sum < (l.map d).sum
  | x :: l, h, ha, hlt => by
    have h1 := h x List.mem_cons_self
    have h2 := sum_le (l := l) fun y hy => h y (List.mem_cons_of_mem _ hy)
    rw [List.map_cons, List.map_cons, List.sum_cons, List.sum_cons]
    rcases List.mem_cons.mp ha with q | ha
    · subst q
      omega
    · have h3 := sum_lt (l := l) (fun y hy => h y (List.mem_cons_of_mem _ hy)) ha hlt
      omega
/-- without a floor: as a sum over all of them -/
theorem sum_without (c : Int → Int) (x : Int) : ∀ l : List Int, ((l.filter fun o => !decide (o = x)).map c).sum = (l.map fun o => if o = x then 0 else c o).sum
  | [] => rfl
  | o :: l => by
    have ih := sum_without c x l
    rw [List.filter_cons, List.map_cons, List.sum_cons, ← ih]
    by_cases e : o = x
    · rw [if_neg (by simp [e]), if_pos e]
      omega
    · rw [if_pos (by simp [e]), if_neg e, List.map_cons, List.sum_cons]
/-! ### how many there can be -/
theorem sum_cap {c : Int → Int} {m : Int} : ∀ {l : List Int}, (∀ x ∈ l, c x ≤ m) → (l.map c).sum ≤ l.length * m
  | [], _ => by simp
  | x :: l, h => by
    have h1 := h x List.mem_cons_self
    have h2 := sum_cap (l := l) fun y hy => h y (List.mem_cons_of_mem _ hy)
    rw [List.map_cons, List.sum_cons, List.length_cons]
    have e : ((l.length + 1 : Nat) : Int) * m = l.length * m + m := by
      rw [Int.natCast_add, Int.add_mul]
      simp
    rw [e]
    omega
theorem S_cap {g b : List Int} (h9 : g.length ≤ 9) : ∀ (rows : List Row) {f : Int}, (0 ≤ f ∧ f ≤ g.length) → S g b rows f ≤ (10 : Int) ^ rows.length
  | [], f, hf => by
    show gtI (headM g b []) f ≤ 1
    rw [headM_nil_at hf.1 hf.2]
    omega
  | r :: rs, f, hf => by
    show gtI (headM g b (r :: rs)) f ≤ _
    rw [headM_at hf.1 hf.2]
    have h1 := sum_cap (c := fun o => S g b rs o) (m := (10 : Int) ^ rs.length) (l := nextF g b r f) fun o ho => S_cap h9 rs (nextF_in hf ho)
    have h2 : (nextF g b r f).length ≤ 10 := by
      have := nextF_len (g := g) (b := b) (r := r) (f := f)
      omega
    have h3 : (0 : Int) ≤ (10 : Int) ^ rs.length := Int.pow_nonneg (by decide)
    rw [List.length_cons, Int.pow_succ, Int.mul_comm]
    exact Int.le_trans h1 (Int.mul_le_mul_of_nonneg_right (by omega) h3)
theorem count_cap {g b st : List Int} {rows : List Row} (h9 : g.length ≤ 9) (hs : ∀ x ∈ st, 0 ≤ x ∧ x ≤ g.length) (hz : st.length ≤ 10) : countM g b st rows ≤ (10 : Int) ^ (rows.length + 1) := by
  have h1 := sum_cap (c := fun o => S g b rows o) (m := (10 : Int) ^ rows.length) (l := st) fun o ho => S_cap h9 rows (hs o ho)
  have h3 : (0 : Int) ≤ (10 : Int) ^ rows.length := Int.pow_nonneg (by decide)
  rw [Int.pow_succ, Int.mul_comm]
  exact Int.le_trans h1 (Int.mul_le_mul_of_nonneg_right (by omega) h3)
theorem log_cap {c : Int} {n : Nat} (h0 : 0 < c) (h : c ≤ (10 : Int) ^ (n + 1)) (hn : n ≤ 2000) : c.natAbs.log2 < 9000 := by
  have h1 : c.natAbs < 2 ^ (4 * (n + 1)) := by
    have e : (2 : Nat) ^ (4 * (n + 1)) = 16 ^ (n + 1) := by rw [Nat.pow_mul]
    have h2 : (10 : Nat) ^ (n + 1) < 16 ^ (n + 1) := Nat.pow_lt_pow_left (by decide) (by omega)
    have h3 : c.natAbs ≤ 10 ^ (n + 1) := by
      have : (c.natAbs : Int) ≤ ((10 ^ (n + 1) : Nat) : Int) := by
        rw [Int.natCast_pow]
        have : (c.natAbs : Int) = c := by omega
        rw [this]
        exact h
      exact Int.ofNat_le.mp this
    omega
  exact (wide_div (i := 0) h0 h1 (by omega) (by omega)).2
end K33
namespace K33
open PySem L2 Lh
section
variable {K : PySem.W.Frag} {mg : Str → Option Value} {base : Heap} {P : Program} {w : World}
end
end K33
namespace K33
open PySem L2 Lh
/-! ### how many ways lead to each floor -/
def addAll (k : Int) (es : List Int) (v : List Int) : List Int := es.foldl (fun v e => v.set e.toNat (v.getD e.toNat 0 + k)) v
/-- behind a row: from the numbers v, by the ends l -/
def stepB (n : Nat) (ps : List (Int × List Int)) : List Int := ps.foldl (fun w p => addAll p.1 p.2 w) (List.replicate n 0)
theorem addAll_len (k : Int) : ∀ (es v : List Int), (addAll k es v).length = v.length
  | [], v => rfl
  | e :: es, v => by
    show (addAll k es (v.set e.toNat (v.getD e.toNat 0 + k))).length = _
    rw [addAll_len k es, List.length_set]
theorem addAll_snoc {k : Int} {es v : List Int} {e : Int} : addAll k (es ++ [e]) v = (addAll k es v).set e.toNat ((addAll k es v).getD e.toNat 0 + k) := by
  unfold addAll
  rw [List.foldl_append]
  rfl
theorem gt_set {v : List Int} {e x k : Int} (he : 0 ≤ e ∧ e < v.length) (hx : 0 ≤ x ∧ x < v.length) : gtI (v.set e.toNat k) x = if x = e then k else gtI v x := by
  have h1 : e.toNat < v.length := by omega
  have h2 : x.toNat < v.length := by omega
  unfold gtI
  rw [List.getD_eq_getElem?_getD, List.getD_eq_getElem?_getD, List.getElem?_set]
  by_cases h : x = e
  · subst h
    rw [if_pos rfl, if_pos rfl, if_pos h1]
    rfl
  · rw [if_neg (by omega), if_neg h]
theorem addAll_at {k : Int} : ∀ {es v : List Int} {x : Int}, es.Nodup → (∀ e ∈ es, 0 ≤ e ∧ e < v.length) → (0 ≤ x ∧ x < v.length) → gtI (addAll k es v) x = gtI v x + if x ∈ es then k else 0
  | [], v, x, _, _, _ => by
    show gtI v x = _
    rw [if_neg (by simp)]
    omega
  | e :: es, v, x, hn, he, hx => by
    obtain ⟨n1, n2⟩ := List.nodup_cons.mp hn
    have h1 := he e List.mem_cons_self
    have ih := addAll_at (k := k) (es := es) (v := v.set e.toNat (v.getD e.toNat 0 + k)) (x := x) n2 (fun y hy => by
      rw [List.length_set]
      exact he y (List.mem_cons_of_mem _ hy)) (by rw [List.length_set]; exact hx)
    show gtI (addAll k es (v.set e.toNat (v.getD e.toNat 0 + k))) x = _
    rw [ih, gt_set h1 hx]
    by_cases h : x = e
    · subst h
      rw [if_pos rfl, if_neg n1, if_pos List.mem_cons_self]
      show gtI v x + k + 0 = gtI v x + k
      omega
    · rw [if_neg h]
      by_cases h2 : x ∈ es
      · rw [if_pos h2, if_pos (List.mem_cons_of_mem _ h2)]
      · rw [if_neg h2, if_neg fun q => (List.mem_cons.mp q).elim h h2]
theorem foldB_len : ∀ (ps : List (Int × List Int)) (w : List Int), (ps.foldl (fun w p => addAll p.1 p.2 w) w).length = w.length
  | [], w => rfl
  | p :: ps, w => by
    show (ps.foldl (fun w p => addAll p.1 p.2 w) (addAll p.1 p.2 w)).length = _
    rw [foldB_len ps, addAll_len]
theorem stepB_len {n : Nat} {ps : List (Int × List Int)} : (stepB n ps).length = n := by
  unfold stepB
  rw [foldB_len, List.length_replicate]
theorem foldB_at {x : Int} : ∀ {ps : List (Int × List Int)} {w : List Int}, (∀ p ∈ ps, p.2.Nodup ∧ ∀ e ∈ p.2, 0 ≤ e ∧ e < w.length) → (0 ≤ x ∧ x < w.length) → gtI (ps.foldl (fun w p => addAll p.1 p.2 w) w) x = gtI w x + (ps.map fun p => if x ∈ p.2 then p.1 else 0).sum
  | [], w, _, _ => by
    show gtI w x = _
    simp
  | p :: ps, w, h, hx => by
    obtain ⟨h1, h2⟩ := h p List.mem_cons_self
    have ih := foldB_at (x := x) (ps := ps) (w := addAll p.1 p.2 w) (fun q hq => by
      rw [addAll_len]
      exact h q (List.mem_cons_of_mem _ hq)) (by rw [addAll_len]; exact hx)
    show gtI (ps.foldl (fun w p => addAll p.1 p.2 w) (addAll p.1 p.2 w)) x = _
    rw [ih, addAll_at h1 h2 hx, List.map_cons, List.sum_cons]
    omega
theorem gt_rep {n : Nat} {x : Int} : gtI (List.replicate n 0) x = 0 := by
  unfold gtI
  rw [List.getD_eq_getElem?_getD]
  by_cases h : x.toNat < n
  · simp [h]
  · rw [List.getElem?_eq_none (by simpa using h)]
    rfl
theorem as_map {n : Nat} {w : List Int} (h : w.length = n) : w = (rgI 0 n).map (gtI w) := by
  refine List.ext_getElem? fun i => ?_
  rw [List.getElem?_map]
  by_cases hi : i < n
  · have e : (rgI 0 n)[i]? = some (i : Int) := by
      unfold rgI
      simp [hi]
    rw [e, List.getElem?_eq_getElem (by omega)]
    show _ = some (gtI w (i : Int))
    unfold gtI
    rw [List.getD_eq_getElem?_getD, Int.toNat_natCast, List.getElem?_eq_getElem (by omega)]
    rfl
  · rw [List.getElem?_eq_none (by omega), List.getElem?_eq_none (by rw [rgI_len]; omega)]
    rfl
/-- the ways that lead to a floor at a moment -/
def upM (g b st : List Int) (rows : List Row) (t : Nat) (f : Int) : Int := countM g b st (rows.take t ++ [Row.look [f]])
def upL (g b st : List Int) (rows : List Row) (t : Nat) : List Int := (rgI 0 (g.length + 1)).map (upM g b st rows t)
theorem upL_len {g b st : List Int} {rows : List Row} {t : Nat} : (upL g b st rows t).length = g.length + 1 := by
  unfold upL
  rw [List.length_map, rgI_len]
theorem rg_at {n : Nat} {h : Int → Int} {f : Int} (h0 : 0 ≤ f) (h1 : f < n) : gtI ((rgI 0 n).map h) f = h f := by
  have hlt : f.toNat < n := by omega
  have e : (rgI 0 n)[f.toNat]? = some f := by
    unfold rgI
    simp [hlt]
    omega
  unfold gtI
  rw [List.getD_eq_getElem?_getD, List.getElem?_map, e]
  rfl
theorem upL_at {g b st : List Int} {rows : List Row} {t : Nat} {f : Int} (h0 : 0 ≤ f) (h1 : f ≤ g.length) : gtI (upL g b st rows t) f = upM g b st rows t f := rg_at h0 (by omega)
theorem up_zero {g b st : List Int} {rows : List Row} {f : Int} (hs : ∀ x ∈ st, 0 ≤ x ∧ x ≤ g.length) (nd : st.Nodup) (hf : 0 ≤ f ∧ f ≤ g.length) : upM g b st rows 0 f = if f ∈ st then 1 else 0 := by
  show (st.map fun x => S g b [Row.look [f]] x).sum = _
  have e : (st.map fun x => S g b [Row.look [f]] x) = st.map fun x => (if f = x then (1 : Int) else 0) * 1 := List.map_congr_left fun x hx => by
    rw [S_look (hs x hx)]
    by_cases h : x = f
    · rw [if_pos h, if_pos h.symm]
      rfl
    · rw [if_neg h, if_neg fun q => h q.symm]
      rfl
  rw [e]
  by_cases h : f ∈ st
  · rw [if_pos h, pick_one (fun _ => 1) nd h]
  · rw [if_neg h]
    have z : (st.map fun x => (if f = x then (1 : Int) else 0) * 1) = st.map fun _ => (0 : Int) := List.map_congr_left fun x hx => by
      have : ¬ f = x := fun q => h (q ▸ hx)
      simp [this]
    rw [z, sum_zero]
theorem up_step {g b st : List Int} {rows : List Row} {t : Nat} {r : Row} (hs : ∀ x ∈ st, 0 ≤ x ∧ x ≤ g.length) (hr : rows[t]? = some r) {f : Int} : upM g b st rows (t + 1) f = ((rgI 0 (g.length + 1)).map fun m => if f ∈ nextF g b r m then upM g b st rows t m else 0).sum := by
  unfold upM
  rw [List.take_add_one, hr, List.append_assoc, count_parts hs]
  congr 1
  refine List.map_congr_left fun m hm => ?_
  have hm' := fl_in hm
  have e : countM g b [m] ((some r).toList ++ [Row.look [f]]) = Pt g b [r] m f := by
    show (([m] : List Int).map fun x => S g b [r, Row.look [f]] x).sum = S g b ([r] ++ [Row.look [f]]) m
    simp
  rw [e, Pt_one hm']
  by_cases h : f ∈ nextF g b r m
  · rw [if_pos h, if_pos h, Int.mul_one]
  · rw [if_neg h, if_neg h, Int.mul_zero]
theorem upL_step {g b st : List Int} {rows : List Row} {t : Nat} {r : Row} (hs : ∀ x ∈ st, 0 ≤ x ∧ x ≤ g.length) (hr : rows[t]? = some r) : stepB (g.length + 1) ((upL g b st rows t).zip ((rgI 0 (g.length + 1)).map fun f => nextF g b r f)) = upL g b st rows (t + 1) := by
  rw [as_map (stepB_len (n := g.length + 1) (ps := (upL g b st rows t).zip ((rgI 0 (g.length + 1)).map fun f => nextF g b r f)))]
  unfold upL
  refine List.map_congr_left fun f hf => ?_
  have hf' := fl_in hf
  rw [up_step hs hr, List.zip_map']
  unfold stepB
  rw [foldB_at (fun p hp => ?_) (by rw [List.length_replicate]; omega), gt_rep, List.map_map, Int.zero_add]
  · congr 1
  · obtain ⟨m, hm, rfl⟩ := List.mem_map.mp hp
    refine ⟨(nextF_up (fl_in hm)).imp fun h e => by omega, fun e he => ?_⟩
    have := nextF_in (fl_in hm) he
    rw [List.length_replicate]
    omega
end K33
namespace K33
open PySem L2 Lh
/-- the numbers so far -/
def upLs (g b st : List Int) (rows : List Row) (n : Nat) : List (List Int) := (List.range n).map fun t => upL g b st rows t
theorem upLs_snoc {g b st : List Int} {rows : List Row} {n : Nat} : upLs g b st rows (n + 1) = upLs g b st rows n ++ [upL g b st rows n] := by
  unfold upLs
  rw [List.range_succ, List.map_append]
  rfl
theorem links_at {g b : List Int} {rows : List Row} {t : Nat} {l : List (List Int)} (h : (linksM g b rows)[t]? = some l) : ∃ r, rows[t]? = some r ∧ l = (rgI 0 (g.length + 1)).map fun f => nextF g b r f := by
  unfold linksM at h
  rw [List.getElem?_map] at h
  obtain ⟨r, h1, h2⟩ := Option.map_eq_some_iff.mp h
  exact ⟨r, h1, h2.symm⟩
structure UpOk (g st : List Int) (rows : List Row) : Prop where
  nine : g.length ≤ 9
  size : rows.length ≤ 1000
  start : ∀ x ∈ st, 0 ≤ x ∧ x ≤ g.length
  once : st.Nodup
  few : st.length ≤ 10
section
variable {K : PySem.W.Frag} {mg : Str → Option Value} {base : Heap} {P : Program} {w : World}
abbrev spNB (K : PySem.W.Frag) (C : Addr) : Sp := SpP (α := { p : (List Int × List Int) × List Int × List Row // UpOk p.1.1 p.2.1 p.2.2 }) (fun p => [PHo K C p.1.1.1 p.1.1.2, PD K (.tuple (li p.1.2.1)), PD K (eLLL (linksM p.1.1.1 p.1.1.2 p.1.2.2))]) (fun p => PD K (eLL (upLs p.1.1.1 p.1.1.2 p.1.2.1 p.1.2.2 (p.1.2.2.length + 1))))
theorem ok_numbers_behind (T : Txt K mg) : FnOk P w K mg base CX0 3 T.f_numbers_behind T.d_numbers_behind ["house", "start", "links"] (spNB K T.C_House) := by
  refine fn_F T.F_numbers_behind sc_numbers_behind (fun _ => rfl) fun ⟨⟨⟨g, b⟩, st, rows⟩, hok⟩ Z0 Z Q X qX hQ => ?_
  obtain ⟨cdv, A, outer, s, E, rfl, hr⟩ := qX
  have hk : UpOk g st rows := hok
  have h9 := hk.nine
  refine xs_newL 3 (ds := [eL (upL g b st rows 0)]) (xa_1 (YE.dat (xe_mapI 4 (fun f => .int (upM g b st rows 0 f)) (xi_tup (xe_prop (ok_House_floors T) (g, b) (xe_var 0) rfl T.c_House T.m_House_floors (hr.mono (by decide)) T.b_House_floors)) (fun f hf s0 H0 C cl fp => by
      have hf' := fl_in hf
      have e := up_zero (b := b) (rows := rows) hk.start hk.once hf'
      refine xe_ifx (xt_inT (xe_var 4) (xe_var 1)) (fun h => ?_) fun h => ?_
      · have h' : f ∈ st := of_decide_eq_true h.symm
        exact YE.dat xe_int (congrArg PyData.int (by rw [e, if_pos h']))
      · have h' : ¬ f ∈ st := of_decide_eq_false h.symm
        exact YE.dat xe_int (congrArg PyData.int (by rw [e, if_neg h']))) sc_numbers_behind.nd (blkOk_by rfl) (by simp only [rgI_len]; omega) cov0 (fun _ _ _ _ _ => pg_name (i := 4) sc_numbers_behind.nd rfl (Or.inl rfl))) ?_)) (by simp) (fun qn => ?_) cov0 sc_numbers_behind.nd
  · show PyData.list _ = PyData.list _
    unfold upL li
    rw [List.map_map]
    rfl
  refine xs_forN 5 (xi_list (xe_var 2)) (fun t Γ1 Rs1 => (∃ a4 a5 a6 a7 a8 a9, Γ1 = [some (PHo K T.C_House g b), some (PD K (.tuple (li st))), some (PD K (eLLL (linksM g b rows))), some (PV (.ref qn)), a4, a5, a6, a7, a8, a9]) ∧ Rs1 = [Res.lst Z qn (((upLs g b st rows (t + 1)).map eL).map (PD K))]) ⟨⟨none, none, none, none, none, none, rfl⟩, rfl⟩ ?_ ?_ sc_numbers_behind.nd
  · rintro t Qt Γ1 Rs1 hq ⟨⟨a4, a5, a6, a7, a8, a9, rfl⟩, rfl⟩ Hs
    obtain ⟨d, hd, rfl⟩ := map_at hq
    obtain ⟨l, hl, rfl⟩ := enc_at hd
    obtain ⟨r, hrt, el⟩ := links_at hl
    have hlt : t < rows.length := (List.getElem?_eq_some_iff.mp hrt).1
    have hlen : l.length = g.length + 1 := by rw [el, List.length_map, rgI_len]
    have hl1000 : rows.length ≤ 1000 := hk.size
    have hz : ∀ v : List Int, v = upL g b st rows t → v.length = g.length + 1 := fun v e => by rw [e, upL_len]
    obtain ⟨v, hv⟩ : ∃ v, v = upL g b st rows t := ⟨_, rfl⟩
    have hvl := hz v hv
    have hes : ∀ (m : Nat) (es : List Int), l[m]? = some es → es.Nodup ∧ ∀ e ∈ es, 0 ≤ e ∧ e ≤ g.length := fun m es hm => by
      rw [el] at hm
      rw [List.getElem?_map] at hm
      obtain ⟨f, hf, e⟩ := Option.map_eq_some_iff.mp hm
      have hf' := fl_in (List.mem_of_getElem? hf)
      rw [← e]
      exact ⟨(nextF_up hf').imp fun h e => by omega, fun x hx => nextF_in hf' hx⟩
    refine xs_newF 6 (fe_rep (k := (g.length : Int) + 1) (xe_lst (ds := [.int 0]) (xa_1 xe_int) (by simp)) (xe_lenO (ok_House_len T) (g, b) T.z_len (xe_var 0) rfl rfl (by omega) T.m_House_len.at_ T.m_House_len.fn (hr.mono (by decide)) T.b_House_len) (by omega) (by simp; omega)) (fun qb => ?_) cov0 sc_numbers_behind.nd
    have hrep : ((List.replicate ((g.length : Int) + 1).toNat [PyData.int 0]).flatten.map (PD K)) = (li (List.replicate (g.length + 1) 0)).map (PD K) := by
      have e : ((g.length : Int) + 1).toNat = g.length + 1 := by omega
      rw [e, rep_one]
      simp [li]
    refine xs_swap ?_
    refine xs_forP 7 8 (xi_zip T.z_zip (YE.dat (d' := eL v) (xe_ixM (q := qn) (P := PD K (eL (upL g b st rows t))) (xe_var 3) (xe_neg xe_int) ?_) (by rw [hv])) (xe_var 5)) (fun u Γ2 Rs2 => (∃ a7 a8 a9, Γ2 = [some (PHo K T.C_House g b), some (PD K (.tuple (li st))), some (PD K (eLLL (linksM g b rows))), some (PV (.ref qn)), a4, some (PD K (eLL l)), some (PV (.ref qb)), a7, a8, a9]) ∧ Rs2 = [Res.lst Z qn (((upLs g b st rows (t + 1)).map eL).map (PD K)), Res.lst Z qb ((li (stepB (g.length + 1) ((v.zip l).take u))).map (PD K))]) ⟨⟨_, _, _, rfl⟩, ?_⟩ ?_ ?_ sc_numbers_behind.nd
    · rw [upLs_snoc, List.map_append, List.map_append]
      exact atI_last _ _
    · exact congrArg (fun z => [Res.lst Z qn (((upLs g b st rows (t + 1)).map eL).map (PD K)), Res.lst Z qb z]) hrep
    · rintro u Qu Γ2 Rs2 hq2 ⟨⟨a7, a8, a9, rfl⟩, rfl⟩
      obtain ⟨d1, d2, hd1, hd2, rfl⟩ := zip_at hq2
      obtain ⟨k, hk1, rfl⟩ := li_at hd1
      obtain ⟨es, hk2, rfl⟩ := enc_at hd2
      refine ⟨_, _, rfl, fun Hs2 => ?_⟩
      obtain ⟨hnd, hrg⟩ := hes u es hk2
      have hwl : (stepB (g.length + 1) ((v.zip l).take u)).length = g.length + 1 := stepB_len
      have hzip : (v.zip l).take (u + 1) = (v.zip l).take u ++ [(k, es)] := by
        have e : (v.zip l)[u]? = some (k, es) := by rw [List.getElem?_zip_eq_some]; exact ⟨hk1, hk2⟩
        rw [List.take_add_one, e]
        rfl
      have hnx : addAll k es (stepB (g.length + 1) ((v.zip l).take u)) = stepB (g.length + 1) ((v.zip l).take (u + 1)) := by
        rw [hzip]
        unfold stepB
        rw [List.foldl_append]
        rfl
      generalize stepB (g.length + 1) ((v.zip l).take u) = w0 at hwl hnx
      refine xs_swap ?_
      refine xs_forN 9 (xi_list (xe_var 8)) (fun c Γ3 Rs3 => (∃ a9, Γ3 = [some (PHo K T.C_House g b), some (PD K (.tuple (li st))), some (PD K (eLLL (linksM g b rows))), some (PV (.ref qn)), a4, some (PD K (eLL l)), some (PV (.ref qb)), some (PD K (.int k)), some (PD K (eL es)), a9]) ∧ Rs3 = [Res.lst Z qb ((li (addAll k (es.take c) w0)).map (PD K)), Res.lst Z qn (((upLs g b st rows (t + 1)).map eL).map (PD K))]) ⟨⟨_, rfl⟩, rfl⟩ ?_ ?_ sc_numbers_behind.nd
      · rintro c Qc Γ3 Rs3 hq3 ⟨⟨a9, rfl⟩, rfl⟩ Hs3
        obtain ⟨d3, hd3, rfl⟩ := map_at hq3
        obtain ⟨e, he, rfl⟩ := li_at hd3
        have her := hrg e (List.mem_of_getElem? he)
        refine xs_addS (k := e) (n := k) rfl (xe_var 6) (xe_var 9) (xe_var 7) (by rw [addAll_len, hwl]; omega) (xs_turn (fun σ H h => h) ⟨⟨_, rfl⟩, ?_⟩)
        rw [List.take_add_one, he]
        show _ = [Res.lst Z qb ((li (addAll k (es.take c ++ [e]) w0)).map (PD K)), _]
        rw [addAll_snoc]
        rfl
      · rintro Γ3 Rs3 ⟨⟨a9, rfl⟩, rfl⟩
        refine xs_swap (xs_turn (fun σ H h => h) ⟨⟨_, _, _, rfl⟩, ?_⟩)
        have e : ((li es).map (PD K)).length = es.length := by simp [li]
        show [_, Res.lst Z qb ((li (addAll k (es.take ((li es).map (PD K)).length) w0)).map (PD K))] = _
        rw [e, List.take_length, hnx]
    · rintro Γ2 Rs2 ⟨⟨a7, a8, a9, rfl⟩, rfl⟩
      have e : (List.zipWith (fun d e => PT2 K (PD K d) (PD K e)) (li v) (l.map eL)).length = g.length + 1 := by
        rw [List.length_zipWith, List.length_map, List.length_map, hvl, hlen]
        omega
      have hfin : stepB (g.length + 1) ((v.zip l).take (List.zipWith (fun d e => PT2 K (PD K d) (PD K e)) (li v) (l.map eL)).length) = upL g b st rows (t + 1) := by
        rw [e, List.take_of_length_le (by rw [List.length_zip, hvl, hlen]; omega), hv, el]
        exact upL_step hk.start hrt
      refine xs_swap (xs_frzK 6 rfl rfl ?_)
      refine xs_app (q := qn) (P := PD K (eL (upL g b st rows (t + 1)))) (xe_var 3) (YE.dat (xe_var 6) (congrArg eL hfin)) (by rw [List.length_map, List.length_map]; unfold upLs; rw [List.length_map, List.length_range]; omega) (xs_turn (fun σ H h => h) ⟨⟨_, _, _, _, _, _, rfl⟩, ?_⟩) (pe_bm PySem.F.plainAttrs_list PySem.F.slot_list_append PySem.F.type_list_append mt_append pe_wp (pa_cons pe_wp pa_nil))
      rw [upLs_snoc (n := t + 1)]
      simp
  · rintro Γ1 Rs1 ⟨⟨a4, a5, a6, a7, a8, a9, rfl⟩, rfl⟩
    refine xs_frzK 3 rfl rfl ?_
    refine xs_ret (YE.dat (xe_var 3) ?_) fun v H0 H s k hv => hQ v H0 H s k hv
    have e : (((linksM g b rows).map eLL).map (PD K)).length = rows.length := by
      unfold linksM
      simp
    show PyData.list ((upLs g b st rows ((((linksM g b rows).map eLL).map (PD K)).length + 1)).map eL) = _
    rw [e]
end
end K33
namespace K33
open PySem L2 Lh
theorem count_log {g b st : List Int} {rows : List Row} (h9 : g.length ≤ 9) (hs : ∀ x ∈ st, 0 ≤ x ∧ x ≤ g.length) (hz : st.length ≤ 10) (hn : rows.length ≤ 2000) : (countM g b st rows).natAbs.log2 < 9000 := by
  have h0 : 0 ≤ countM g b st rows := sumAt_nn (headM_nn rows) st
  by_cases h : countM g b st rows = 0
  · rw [h]
    decide
  · exact log_cap (by omega) (count_cap h9 hs hz) hn
/-- the ways through a floor at a moment -/
def thrM (g b st : List Int) (rows : List Row) (t : Nat) (f : Int) : Int := upM g b st rows t f * S g b (rows.drop t) f
def thrL (g b st : List Int) (rows : List Row) (t : Nat) : List Int := (rgI 0 (g.length + 1)).map (thrM g b st rows t)
def thrLs (g b st : List Int) (rows : List Row) (n : Nat) : List (List Int) := (List.range n).map fun t => thrL g b st rows t
theorem thrLs_snoc {g b st : List Int} {rows : List Row} {n : Nat} : thrLs g b st rows (n + 1) = thrLs g b st rows n ++ [thrL g b st rows n] := by
  unfold thrLs
  rw [List.range_succ, List.map_append]
  rfl
theorem ahead_at {g b : List Int} {rows : List Row} {t : Nat} (h : t ≤ rows.length) : (numsM (g.length + 1) (linksM g b rows))[t]? = some (headM g b (rows.drop t)) := by
  have e := numsM_at (g.length + 1) (linksM g b rows) t (by unfold linksM; rw [List.length_map]; exact h)
  rw [e]
  have e2 : (linksM g b rows).drop t = linksM g b (rows.drop t) := by
    unfold linksM
    rw [List.map_drop]
  rw [e2]
  rfl
theorem one_count {g b : List Int} {rows : List Row} {f : Int} : countM g b [f] rows = S g b rows f := by
  show (([f] : List Int).map fun x => S g b rows x).sum = _
  simp
section
variable {K : PySem.W.Frag} {mg : Str → Option Value} {base : Heap} {P : Program} {w : World}
abbrev spThr (K : PySem.W.Frag) (C : Addr) : Sp := SpP (α := { p : (List Int × List Int) × List Int × List Row // UpOk p.1.1 p.2.1 p.2.2 }) (fun p => [PHo K C p.1.1.1 p.1.1.2, PD K (.tuple (li p.1.2.1)), PD K (eLLL (linksM p.1.1.1 p.1.1.2 p.1.2.2))]) (fun p => PD K (eLL (thrLs p.1.1.1 p.1.1.2 p.1.2.1 p.1.2.2 (p.1.2.2.length + 1))))
theorem ok_numbers_through (T : Txt K mg) : FnOk P w K mg base CX0 7 T.f_numbers_through T.d_numbers_through ["house", "start", "links"] (spThr K T.C_House) := by
  refine fn_F T.F_numbers_through sc_numbers_through (fun _ => rfl) fun ⟨⟨⟨g, b⟩, st, rows⟩, hok⟩ Z0 Z Q X qX hQ => ?_
  obtain ⟨cdv, A, outer, s, E, rfl, hr⟩ := qX
  have hk : UpOk g st rows := hok
  have h9 := hk.nine
  have hsz := hk.size
  have hl := linksM_ok (g := g) (b := b) hk.size
  refine xs_newL 3 (ds := []) xa_nil (by simp) (fun q => ?_) cov0 sc_numbers_through.nd
  refine xs_forP 4 5 (xi_zip T.z_zip (xe_callD (ok_numbers_behind T) ⟨((g, b), st, rows), hk⟩ (hr.mono (by decide)) T.g_numbers_behind T.F_numbers_behind.kp T.b_numbers_behind (xa_cons (xe_var 0) (xa_cons (xe_var 1) (xa_1 (xe_var 2))))) (xe_callD (ok_numbers_ahead T) ⟨((g, b), linksM g b rows), hk.nine, hl⟩ (hr.mono (by decide)) T.g_numbers_ahead T.F_numbers_ahead.kp T.b_numbers_ahead (xa_cons (xe_var 0) (xa_1 (xe_var 2))))) (fun t Γ1 Rs1 => (∃ a5 a6 a7 a8, Γ1 = [some (PHo K T.C_House g b), some (PD K (.tuple (li st))), some (PD K (eLLL (linksM g b rows))), some (PV (.ref q)), a5, a6, a7, a8]) ∧ Rs1 = [Res.lst Z q (((thrLs g b st rows t).map eL).map (PD K))]) ⟨⟨none, none, none, none, rfl⟩, rfl⟩ ?_ ?_ sc_numbers_through.nd
  · rintro t Qt Γ1 Rs1 hq ⟨⟨a5, a6, a7, a8, rfl⟩, rfl⟩
    obtain ⟨d, e, hd, he, rfl⟩ := zip_at hq
    obtain ⟨u, hu, rfl⟩ := enc_at hd
    obtain ⟨v, hv, rfl⟩ := enc_at he
    refine ⟨_, _, rfl, fun Hs => ?_⟩
    have hlt : t ≤ rows.length := by
      have h := (List.getElem?_eq_some_iff.mp hu).1
      have e : (upLs g b st rows (rows.length + 1)).length = rows.length + 1 := by
        unfold upLs
        rw [List.length_map, List.length_range]
      have h' : t < (upLs g b st rows (rows.length + 1)).length := h
      omega
    have eu : u = upL g b st rows t := by
      have h : (upLs g b st rows (rows.length + 1))[t]? = some u := hu
      unfold upLs at h
      rw [List.getElem?_map, List.getElem?_range (by omega)] at h
      exact (Option.some.inj h).symm
    have ev : v = headM g b (rows.drop t) := by
      have h : (numsM (g.length + 1) (linksM g b rows))[t]? = some v := hv
      rw [ahead_at hlt] at h
      exact (Option.some.inj h).symm
    have hul : u.length = g.length + 1 := by rw [eu, upL_len]
    have hvl : v.length = g.length + 1 := by rw [ev, headM_len (by rw [List.length_drop]; omega)]
    have hthr : (thrL g b st rows t).length = g.length + 1 := by
      unfold thrL
      rw [List.length_map, rgI_len]
    have hzl : (List.zipWith (fun d e => PT2 K (PD K d) (PD K e)) (li u) (li v)).length = g.length + 1 := by
      rw [List.length_zipWith, List.length_map, List.length_map, hul, hvl]
      omega
    refine xs_app (q := q) (P := PD K (eL (thrL g b st rows t))) (xe_var 3) (YE.imp (xe_lcP (K := K) 6 7 (by decide) (xi_zip T.z_zip (xe_var 4) (xe_var 5)) (fun i ds => ds = li ((thrL g b st rows t).take i)) rfl (fun i Qi hqi => ?_) sc_numbers_through.nd (blkOk_by rfl) (by rw [List.length_zipWith, List.length_map, List.length_map, hul, hvl]; omega) cov0 (fun _ _ _ _ _ => pg_tup rfl (pgs_cons (pg_name (i := 6) sc_numbers_through.nd rfl (Or.inl rfl)) (pgs_cons (pg_name (i := 7) sc_numbers_through.nd rfl (Or.inl rfl)) pgs_nil)))) (fun v1 H h => ?_)) (by
        rw [List.length_map, List.length_map]
        unfold thrLs
        rw [List.length_map, List.length_range]
        omega) (xs_turn (fun σ H h => h) ⟨⟨_, _, _, _, rfl⟩, ?_⟩) (pe_bm PySem.F.plainAttrs_list PySem.F.slot_list_append PySem.F.type_list_append mt_append pe_wp (pa_cons pe_wp pa_nil))
    · obtain ⟨d2, e2, hd2, he2, rfl⟩ := zip_at hqi
      obtain ⟨x, hx, rfl⟩ := li_at hd2
      obtain ⟨y, hy, rfl⟩ := li_at he2
      refine ⟨_, _, rfl, fun s0 H0 C cl fp => ?_⟩
      have hi : i < g.length + 1 := by
        have h := (List.getElem?_eq_some_iff.mp hx).1
        have h' : i < u.length := h
        omega
      have ex : x = upM g b st rows t (i : Int) := by
        have h : gtI u (i : Int) = x := by
          unfold gtI
          rw [List.getD_eq_getElem?_getD, Int.toNat_natCast, hx]
          rfl
        rw [← h, eu, upL_at (by omega) (by omega)]
      have ey : y = S g b (rows.drop t) (i : Int) := by
        have h : gtI v (i : Int) = y := by
          unfold gtI
          rw [List.getD_eq_getElem?_getD, Int.toNat_natCast, hy]
          rfl
        rw [← h, ev]
      have hmul : CMulW x y := by
        have h1 := count_log (b := b) (rows := rows.take t ++ [Row.look [(i : Int)]]) h9 hk.start hk.few (by rw [List.length_append, List.length_take]; simp; omega)
        have h2 := count_log (b := b) (st := [(i : Int)]) (rows := rows.drop t) h9 (fun z hz => by
          have e : z = (i : Int) := by simpa using hz
          rw [e]
          omega) (by simp) (by rw [List.length_drop]; omega)
        rw [one_count] at h2
        rw [ex, ey]
        unfold CMulW
        have h1' : (upM g b st rows t (i : Int)).natAbs.log2 < 9000 := h1
        omega
      have hat : (thrL g b st rows t)[i]? = some (x * y) := by
        unfold thrL
        rw [List.getElem?_map]
        have e : (rgI 0 (g.length + 1))[i]? = some (i : Int) := by
          unfold rgI
          simp [hi]
        rw [e, ex, ey]
        rfl
      refine YE.imp (xe_mul (xe_var 6) (xe_var 7) hmul) fun v2 H h => ⟨_, fun ds _ e => ?_, h⟩
      have e' : ds = li ((thrL g b st rows t).take i) := e
      show ds ++ [PyData.int (x * y)] = li ((thrL g b st rows t).take (i + 1))
      rw [e', List.take_add_one, hat]
      simp [li]
    · obtain ⟨ds, ⟨e, _⟩, h2⟩ := h
      have e2 : ds = li ((thrL g b st rows t).take (List.zipWith (fun d e => PT2 K (PD K d) (PD K e)) (li u) (li v)).length) := e
      rw [hzl, ← hthr, List.take_length] at e2
      subst e2
      exact h2
    · rw [thrLs_snoc]
      simp
  · rintro Γ1 Rs1 ⟨⟨a5, a6, a7, a8, rfl⟩, rfl⟩
    refine xs_frzK 3 rfl rfl ?_
    refine xs_ret (YE.dat (xe_var 3) ?_) fun v H0 H s k hv => hQ v H0 H s k hv
    have e : (List.zipWith (fun d e => PT2 K (PD K d) (PD K e)) ((upLs g b st rows (rows.length + 1)).map eL) ((numsM (g.length + 1) (linksM g b rows)).map eL)).length = rows.length + 1 := by
      rw [List.length_zipWith, List.length_map, List.length_map, numsM_len]
      unfold upLs linksM
      simp
    show PyData.list ((thrLs g b st rows (List.zipWith (fun d e => PT2 K (PD K d) (PD K e)) ((upLs g b st rows (rows.length + 1)).map eL) ((numsM (g.length + 1) (linksM g b rows)).map eL)).length).map eL) = _
    rw [e]
end
end K33
namespace K33
open PySem L2 Lh
/-- the floors at a moment -/
def atL (g b st : List Int) (rows : List Row) (t : Nat) : List Int := (rgI 0 (g.length + 1)).filter fun f => decide (0 < thrM g b st rows t f)
/-- the floors behind a row, by a slack -/
def nextBy (g b : List Int) (k : Int) (r : Row) (f : Int) : List Int := match r with
  | .go s => ((rgI 0 (g.length + 1)).filter fun o => !decide (o = f)).filter fun o => decide ((if far g f o - s < 0 then -(far g f o - s) else far g f o - s) ≤ k)
  | r => nextF g b r f
def behBy (g b : List Int) (k : Int) (r : Row) (fl : List Int) : List Int := (rgI 0 (g.length + 1)).filter fun o => fl.any fun f => decide (o ∈ nextBy g b k r f)
def leftM (g b : List Int) (k : Int) (rows : List Row) (fl : List Int) : List Int := rows.foldl (fun fl r => behBy g b k r fl) fl
theorem nextBy_in {g b : List Int} {k : Int} {r : Row} {f : Int} (hf : 0 ≤ f ∧ f ≤ g.length) {o : Int} (ho : o ∈ nextBy g b k r f) : 0 ≤ o ∧ o ≤ g.length := by
  cases r with
  | go s => exact fl_in (List.mem_filter.mp (List.mem_filter.mp ho).1).1
  | gap => exact nextF_in (b := b) (r := .gap) hf ho
  | door => exact nextF_in (b := b) (r := .door) hf ho
  | bell u => exact nextF_in (b := b) (r := .bell u) hf ho
  | look l => exact nextF_in (b := b) (r := .look l) hf ho
theorem behBy_in {g b : List Int} {k : Int} {r : Row} {fl : List Int} : ∀ x ∈ behBy g b k r fl, 0 ≤ x ∧ x ≤ g.length := fun x hx => fl_in (List.mem_filter.mp hx).1
theorem behBy_len {g b : List Int} {k : Int} {r : Row} {fl : List Int} : (behBy g b k r fl).length ≤ g.length + 1 := by
  have := List.length_filter_le (fun o => fl.any fun f => decide (o ∈ nextBy g b k r f)) (rgI 0 (g.length + 1))
  rw [rgI_len] at this
  exact this
theorem behBy_mem {g b : List Int} {k : Int} {r : Row} {fl : List Int} (hfl : ∀ f ∈ fl, 0 ≤ f ∧ f ≤ g.length) {o : Int} : o ∈ behBy g b k r fl ↔ ∃ f ∈ fl, o ∈ nextBy g b k r f := by
  unfold behBy
  rw [List.mem_filter, List.any_eq_true]
  constructor
  · rintro ⟨_, f, hf, h⟩
    exact ⟨f, hf, of_decide_eq_true h⟩
  · rintro ⟨f, hf, h⟩
    have := nextBy_in (hfl f hf) h
    exact ⟨mem_rgI.mpr (by omega), f, hf, decide_eq_true h⟩
theorem leftM_take {g b : List Int} {k : Int} {rows : List Row} {fl : List Int} {t : Nat} {r : Row} (h : rows[t]? = some r) : leftM g b k (rows.take (t + 1)) fl = behBy g b k r (leftM g b k (rows.take t) fl) := by
  unfold leftM
  rw [List.take_add_one, h]
  simp
theorem leftM_ok {g b st : List Int} {k : Int} {rows : List Row} (h9 : g.length ≤ 9) (hs : ∀ x ∈ st, 0 ≤ x ∧ x ≤ g.length) (hz : st.length ≤ 10) : ∀ t, (leftM g b k (rows.take t) st).length ≤ 10 ∧ ∀ x ∈ leftM g b k (rows.take t) st, 0 ≤ x ∧ x ≤ g.length
  | 0 => ⟨hz, hs⟩
  | t + 1 => by
    cases h : rows[t]? with
    | none =>
      have e : rows.take (t + 1) = rows.take t := by
        rw [List.take_add_one, h]
        simp
      rw [e]
      exact leftM_ok h9 hs hz t
    | some r =>
      rw [leftM_take h]
      exact ⟨Nat.le_trans behBy_len (by omega), behBy_in⟩
section
variable {M : Addr → Prop} {Γ Γ' : Ct} {Rs : List Res} {X : Cx} {K : PySem.W.Frag} {a : Expr} {p pos : Pos} {i : Int}
theorem xe_abs (hm : X.mg "abs" = none) (h : XE M Γ Rs X a (PD X.K (.int i))) (hg : Gl X "abs" := by rfl) (he : starEach [a] X.env = (false, eval a X.env) :: starEach [] X.env := by rfl) : XE M Γ Rs X (.Call (.Name "abs" p) [a] [] pos) (PD X.K (.int (if i < 0 then -i else i))) :=
  xe_callB call_abs hm (by decide +kernel) (xa_1 h he) (fun xs H0 H hx e _ => by
    obtain ⟨x, e1, h1⟩ := da1 hx
    have e2 : x = .int i := h1
    subst e1 e2
    exact Yld.val (z := .int (if i < 0 then -i else i)) e rfl fun Q k => ⟨i, rfl, k⟩) hg (by decide) (by decide) he rfl
end
section
variable {K : PySem.W.Frag} {mg : Str → Option Value} {base : Heap} {P : Program} {w : World}
abbrev spFAt (K : PySem.W.Frag) (C : Addr) : Sp := SpP (α := { p : (List Int × List Int) × (List Int × List Row) × Nat // HearOk p.1.1 p.2.1.1 p.2.1.2 ∧ UpOk p.1.1 p.2.1.1 p.2.1.2 ∧ p.2.2 ≤ p.2.1.2.length }) (fun p => [PHo K C p.1.1.1 p.1.1.2, PD K (.tuple (li p.1.2.1.1)), PD K (logD p.1.2.1.2), PD K (.int ((p.1.2.2 : Nat) : Int))]) (fun p => PD K (eL (atL p.1.1.1 p.1.1.2 p.1.2.1.1 p.1.2.1.2 p.1.2.2)))
theorem ok_floors_at (T : Txt K mg) : FnOk P w K mg base CX0 8 T.f_floors_at T.d_floors_at ["house", "start", "log", "moment"] (spFAt K T.C_House) := by
  refine fn_F T.F_floors_at sc_floors_at (fun _ => rfl) fun ⟨⟨⟨g, b⟩, ⟨st, rows⟩, t⟩, hok, hup, ht⟩ Z0 Z Q X qX hQ => ?_
  obtain ⟨cdv, A, outer, s, E, rfl, hr⟩ := qX
  have hk : HearOk g st rows := hok
  have hu : UpOk g st rows := hup
  have ht' : t ≤ rows.length := ht
  have h9 := hk.nine
  refine xs_expr (xe_callD (ok_check_hearing T) ⟨((g, b), st, rows), hk.log, hk.nine, hk.start⟩ (hr.mono (by decide)) T.g_check_hearing T.F_check_hearing.kp T.b_check_hearing (xa_cons (xe_var 0) (xa_cons (xe_var 1) (xa_1 (xe_var 2))))) ?_
  refine xs_skip (YT.eq (xt_notB (xt_lele (K := K) xe_int (xe_var 3) (xe_lenL T.z_len (xe_var 2)))) ?_) ?_
  · have e : (((rows.map fun r => PyData.tuple r.ds).length : Nat) : Int) = rows.length := by simp
    show (!(decide (0 ≤ ((t : Nat) : Int)) && decide (((t : Nat) : Int) ≤ (((rows.map fun r => PyData.tuple r.ds).length : Nat) : Int)))) = false
    rw [e, decide_eq_true (by omega), decide_eq_true (by omega)]
    rfl
  have hat : atI ((thrLs g b st rows (rows.length + 1)).map eL) ((t : Nat) : Int) = some (eL (thrL g b st rows t)) := by
    refine atI_nat ?_
    unfold thrLs
    rw [List.getElem?_map, List.getElem?_map, List.getElem?_range (by omega)]
    rfl
  refine xs_asg 4 (xe_ixL (d := eL (thrL g b st rows t)) (xe_callD (ok_numbers_through T) ⟨((g, b), st, rows), hu⟩ hr T.g_numbers_through T.F_numbers_through.kp T.b_numbers_through (xa_cons (xe_var 0) (xa_cons (xe_var 1) (xa_1 (xe_callD (ok_links_of T) ⟨((g, b), rows), hu.nine, hu.size⟩ (hr.mono (by decide)) T.g_links_of T.F_links_of.kp T.b_links_of (xa_cons (xe_var 0) (xa_1 (xe_var 2)))))))) (xe_var 3) hat) ?_ sc_floors_at.nd
  exact xs_ret (YE.dat (xe_filtI 5 (fun n => .int n) (fun f => decide (0 < thrM g b st rows t f)) (xi_tup (xe_prop (ok_House_floors T) (g, b) (xe_var 0) rfl T.c_House T.m_House_floors (hr.mono (by decide)) T.b_House_floors)) (fun f hf s0 H0 C cl fp => by
      have hf' : 0 ≤ f ∧ f ≤ g.length := fl_in hf
      have e : atI (li (thrL g b st rows t)) f = some (.int (thrM g b st rows t f)) := by
        have h := atI_ints (v := thrL g b st rows t) (i := f) hf'.1 (by unfold thrL; rw [List.length_map, rgI_len]; omega)
        rw [h]
        unfold thrL
        rw [rg_at hf'.1 (by omega)]
      exact xt_gt (K := K) (xe_ixL (xe_var 4) (xe_var 5) e) xe_int) (fun f hf _ s0 H0 C cl fp => by exact xe_var 5) sc_floors_at.nd (blkOk_by rfl) (by simp only [rgI_len]; omega) cov0 (fun _ _ _ _ _ => pg_name (i := 5) sc_floors_at.nd rfl (Or.inl rfl))) rfl) fun v H0 H s k hv => hQ v H0 H s k hv
abbrev spNBy (K : PySem.W.Frag) (C : Addr) : Sp := SpP (α := { p : (List Int × List Int) × (Row × Int) × Int // (0 ≤ p.2.1.2 ∧ p.2.1.2 ≤ p.1.1.length) ∧ p.1.1.length ≤ 9 }) (fun p => [PHo K C p.1.1.1 p.1.1.2, PD K (.tuple p.1.2.1.1.ds), PD K (.int p.1.2.1.2), PD K (.int p.1.2.2)]) (fun p => PD K (eL (nextBy p.1.1.1 p.1.1.2 p.1.2.2 p.1.2.1.1 p.1.2.1.2)))
theorem ok_next_floors_by (T : Txt K mg) : FnOk P w K mg base CX0 6 T.f_next_floors_by T.d_next_floors_by ["house", "row", "floor", "slack"] (spNBy K T.C_House) := by
  refine fn_F T.F_next_floors_by sc_next_floors_by (fun _ => rfl) fun ⟨⟨⟨g, b⟩, ⟨r, f⟩, k⟩, hf, h9⟩ Z0 Z Q X qX hQ => ?_
  obtain ⟨cdv, A, outer, s, E, rfl, hr⟩ := qX
  have hf' : 0 ≤ f ∧ f ≤ g.length := hf
  have h9' : g.length ≤ 9 := h9
  have other : ∀ (hne : decide (r.kind = "go") = false), nextBy g b k r f = nextF g b r f := fun hne => by
    cases r with
    | go s' =>
      have h2 : decide ((Row.go s').kind = "go") = true := by
        show decide (("go" : Str) = "go") = true
        decide +kernel
      rw [h2] at hne
      cases hne
    | _ => rfl
  refine xs_if (xt_neS (K := K) (xe_ixT (xe_var 1) xe_int r.k0) xe_str) (fun hb => ?_) fun hb => xs_then ?_
  · have hb' : true = !decide (r.kind = "go") := hb
    refine xs_ret (YE.dat (xe_callD (ok_next_floors T) ⟨((g, b), r, f), hf', h9'⟩ hr T.g_next_floors T.F_next_floors.kp T.b_next_floors (xa_cons (xe_var 0) (xa_cons (xe_var 1) (xa_1 (xe_var 2))))) (congrArg eL (other (by simpa using hb'.symm)).symm)) fun v H0 H s k hv => hQ v H0 H s k hv
  · have hb' : false = !decide (r.kind = "go") := hb
    obtain ⟨s', rfl⟩ := Row.is_go (of_decide_eq_true (by simpa using hb'.symm))
    refine xs_filtG PyData.int (rgI 0 (g.length + 1)) 4 5 (fun n => .int n) (fun o => !decide (o = f)) (xi_tup (xe_prop (ok_House_floors T) (g, b) (xe_var 0) rfl T.c_House T.m_House_floors (hr.mono (by decide)) T.b_House_floors)) (fun o ho s0 H0 C cl fp => by exact xt_neI (K := K) (xe_var 5) (xe_var 2)) (fun o ho _ s0 H0 C cl fp => by exact xe_var 5) ?_ sc_next_floors_by.nd (blkOk_by rfl) (by rw [rgI_len]; omega) cov0 (fun _ _ _ _ _ => pg_name (i := 5) sc_next_floors_by.nd rfl (Or.inl rfl)) rfl
    exact xs_ret (YE.dat (xe_filtI 5 (fun n => .int n) (fun o => decide ((if far g f o - s' < 0 then -(far g f o - s') else far g f o - s') ≤ k)) (xi_list (xe_var 4)) (fun o ho s0 H0 C cl fp => by
        have ho' := fl_in (List.mem_filter.mp ho).1
        exact xt_le (K := K) (xe_abs T.z_abs (xe_sub (xe_meth (ok_House_seconds T) ⟨((g, b), f, o), hf', ho'⟩ (xe_var 0) (xa_cons (xe_var 2) (xa_1 (xe_var 5))) rfl rfl T.c_House T.m_House_seconds (hr.mono (by decide)) T.b_House_seconds) (xe_ixT (d := .int s') (xe_var 1) xe_int rfl))) (xe_var 3)) (fun o ho _ s0 H0 C cl fp => by exact xe_var 5) sc_next_floors_by.nd (blkOk_by rfl) (by
          have := List.length_filter_le (fun o => !decide (o = f)) (rgI 0 (g.length + 1))
          rw [rgI_len] at this
          show ((rgI 0 (g.length + 1)).filter fun o => !decide (o = f)).length ≤ 100000
          omega) cov0 (fun _ _ _ _ _ => pg_name (i := 5) sc_next_floors_by.nd rfl (Or.inl rfl))) rfl) fun v H0 H s k hv => hQ v H0 H s k hv
end
end K33
namespace K33
open PySem L2 Lh
section
variable {K : PySem.W.Frag} {mg : Str → Option Value} {base : Heap} {P : Program} {w : World}
abbrev spLeft (K : PySem.W.Frag) (C : Addr) : Sp := SpP (α := { p : (List Int × List Int) × (List Int × List Row) × Int // p.1.1.length ≤ 9 ∧ (∀ x ∈ p.2.1.1, 0 ≤ x ∧ x ≤ p.1.1.length) ∧ p.2.1.1.length ≤ 10 }) (fun p => [PHo K C p.1.1.1 p.1.1.2, PD K (.tuple (li p.1.2.1.1)), PD K (logD p.1.2.1.2), PD K (.int p.1.2.2)]) (fun p => PD K (eL (leftM p.1.1.1 p.1.1.2 p.1.2.2 p.1.2.1.2 p.1.2.1.1)))
theorem ok_floors_left (T : Txt K mg) : FnOk P w K mg base CX0 7 T.f_floors_left T.d_floors_left ["house", "start", "log", "slack"] (spLeft K T.C_House) := by
  refine fn_F T.F_floors_left sc_floors_left (fun _ => rfl) fun ⟨⟨⟨g, b⟩, ⟨st, rows⟩, k⟩, h9, hs, hz⟩ Z0 Z Q X qX hQ => ?_
  obtain ⟨cdv, A, outer, s, E, rfl, hr⟩ := qX
  have h9' : g.length ≤ 9 := h9
  have hs' : ∀ x ∈ st, 0 ≤ x ∧ x ≤ g.length := hs
  have hz' : st.length ≤ 10 := hz
  refine xs_asg 4 (xe_listT T.z_list (xe_var 1)) ?_ sc_floors_left.nd
  refine xs_forN 5 (xi_list (xe_var 2)) (fun t Γ1 Rs1 => Rs1 = [] ∧ ∃ a5 a6 a7, Γ1 = [some (PHo K T.C_House g b), some (PD K (.tuple (li st))), some (PD K (logD rows)), some (PD K (.int k)), some (PD K (eL (leftM g b k (rows.take t) st))), a5, a6, a7]) ⟨rfl, none, none, none, rfl⟩ ?_ ?_ sc_floors_left.nd
  · rintro t Qt Γ1 Rs1 hq ⟨rfl, a5, a6, a7, rfl⟩ Hs
    obtain ⟨d, hd, rfl⟩ := map_at hq
    obtain ⟨r, hrr, rfl⟩ := enc_at hd
    have hrr' : rows[t]? = some r := hrr
    obtain ⟨q1, q2⟩ := leftM_ok (b := b) (k := k) (rows := rows) h9' hs' hz' t
    obtain ⟨fl, hfl⟩ : ∃ fl, fl = leftM g b k (rows.take t) st := ⟨_, rfl⟩
    rw [← hfl] at q1 q2
    have hnx : behBy g b k r fl = leftM g b k (rows.take (t + 1)) st := by rw [hfl, leftM_take hrr']
    have hl : ((li fl).map (PD K)).length = fl.length := by simp [li]
    refine xs_asg 4 (P := PD K (eL (leftM g b k (rows.take (t + 1)) st))) (YE.dat (xe_sortSx 6 7 (by decide) T.z_sorted (xi_list (YE.dat (d' := eL fl) (xe_var 4) (by rw [hfl]))) (fun n => nextBy g b k r (fl.getD n 0)) (behBy g b k r fl) ((rgI_up _).sublist List.filter_sublist) (by
      have := behBy_len (g := g) (b := b) (k := k) (r := r) (fl := fl)
      omega) (fun z => ?_) (fun n Qn hn => ?_) (fun n Qn hn z hzm => ?_) sc_floors_left.nd (blkOk_by rfl) cov0 (fun _ _ _ _ _ => pg_name (i := 6) sc_floors_left.nd rfl (Or.inl rfl)) (fun _ _ _ _ _ => pg_name (i := 7) sc_floors_left.nd rfl (Or.inl rfl))) (congrArg eL hnx)) (xs_turn (fun σ H h => h) ⟨rfl, _, _, _, rfl⟩) sc_floors_left.nd
    · rw [behBy_mem q2]
      show _ ↔ ∃ n, n < ((li fl).map (PD K)).length ∧ z ∈ nextBy g b k r (fl.getD n 0)
      rw [hl]
      constructor
      · rintro ⟨f, hfm, ho⟩
        obtain ⟨n, h1, h2⟩ := List.getElem_of_mem hfm
        refine ⟨n, h1, ?_⟩
        rw [List.getD_eq_getElem?_getD, List.getElem?_eq_getElem h1, h2]
        exact ho
      · rintro ⟨n, h1, ho⟩
        rw [List.getD_eq_getElem?_getD, List.getElem?_eq_getElem h1] at ho
        exact ⟨_, List.getElem_mem h1, ho⟩
    · obtain ⟨d, hd, rfl⟩ := map_at hn
      obtain ⟨f, hfn, rfl⟩ := li_at hd
      have e : fl.getD n 0 = f := by rw [List.getD_eq_getElem?_getD, hfn]; rfl
      rw [e]
      have hfr := q2 f (List.mem_of_getElem? hfn)
      have e2 : ((nextBy g b k r f).map fun z => PD K (.int z)) = (li (nextBy g b k r f)).map (PD K) := by simp [li]
      intro z0 G0 C cl fp
      show XI M0 _ _ _ _ _ ((nextBy g b k r f).map fun z => PD K (.int z))
      rw [e2]
      exact xi_list (xe_callD (ok_next_floors_by T) ⟨((g, b), (r, f), k), hfr, h9'⟩ hr T.g_next_floors_by T.F_next_floors_by.kp T.b_next_floors_by (xa_cons (xe_var 0) (xa_cons (xe_var 5) (xa_cons (xe_var 6) (xa_1 (xe_var 3))))))
    · intro z0 G0 C cl fp
      exact xe_var 7
  · rintro Γ1 Rs1 ⟨rfl, a5, a6, a7, rfl⟩
    refine xs_ret (YE.dat (xe_var 4) ?_) fun v H0 H s k hv => hQ v H0 H s k hv
    have e : ((rows.map fun r => PyData.tuple r.ds).map (PD K)).length = rows.length := by simp
    show eL (leftM g b k (rows.take ((rows.map fun r => PyData.tuple r.ds).map (PD K)).length) st) = _
    rw [e, List.take_length]
abbrev spFBy (K : PySem.W.Frag) (C : Addr) : Sp := SpP (α := { p : (List Int × List Int) × (List Int × List Row) × Int // HearOk p.1.1 p.2.1.1 p.2.1.2 ∧ p.2.1.1.length ≤ 10 ∧ 0 ≤ p.2.2 ∧ p.2.2 ≤ 9 }) (fun p => [PHo K C p.1.1.1 p.1.1.2, PD K (.tuple (li p.1.2.1.1)), PD K (logD p.1.2.1.2), PD K (.int p.1.2.2)]) (fun p => PD K (eL (leftM p.1.1.1 p.1.1.2 p.1.2.2 p.1.2.1.2 p.1.2.1.1)))
theorem ok_floors_by (T : Txt K mg) : FnOk P w K mg base CX0 8 T.f_floors_by T.d_floors_by ["house", "start", "log", "slack"] (spFBy K T.C_House) := by
  refine fn_F T.F_floors_by sc_floors_by (fun _ => rfl) fun ⟨⟨⟨g, b⟩, ⟨st, rows⟩, k⟩, hok, hz, h0, hn⟩ Z0 Z Q X qX hQ => ?_
  obtain ⟨cdv, A, outer, s, E, rfl, hr⟩ := qX
  have hk : HearOk g st rows := hok
  have h0' : 0 ≤ k := h0
  have hn' : k ≤ 9 := hn
  obtain ⟨t1, v1⟩ := T.v_MOST_SLACK
  refine xs_expr (xe_callD (ok_check_hearing T) ⟨((g, b), st, rows), hk.log, hk.nine, hk.start⟩ (hr.mono (by decide)) T.g_check_hearing T.F_check_hearing.kp T.b_check_hearing (xa_cons (xe_var 0) (xa_cons (xe_var 1) (xa_1 (xe_var 2))))) ?_
  refine xs_skip (YT.eq (xt_notB (xt_lele (K := K) xe_int (xe_var 3) (xe_gint v1))) (by
    rw [decide_eq_true h0', decide_eq_true hn']
    rfl)) ?_
  exact xs_ret (xe_callD (ok_floors_left T) ⟨((g, b), (st, rows), k), hk.nine, hk.start, hz⟩ hr T.g_floors_left T.F_floors_left.kp T.b_floors_left (xa_cons (xe_var 0) (xa_cons (xe_var 1) (xa_cons (xe_var 2) (xa_1 (xe_var 3)))))) fun v H0 H s k hv => hQ v H0 H s k hv
end
end K33
namespace K33
open PySem L2 Lh
/-- the slacks under which it can be heard -/
def slacksM (g b st : List Int) (rows : List Row) : List Int := (rgI 0 10).filter fun k => !(leftM g b k rows st).isEmpty
def firstD : List Int → PyData
  | [] => .none
  | k :: _ => .int k
theorem slacks_at {g b st : List Int} {rows : List Row} {t : Nat} {k : Int} (h : ∀ x ∈ (rgI 0 10).take t, leftM g b x rows st = []) (ht : (rgI 0 10)[t]? = some k) (hk : leftM g b k rows st ≠ []) : firstD (slacksM g b st rows) = .int k := by
  have hlt := (List.getElem?_eq_some_iff.mp ht).1
  have e0 : (rgI 0 10) = (rgI 0 10).take t ++ k :: (rgI 0 10).drop (t + 1) := by
    have e := List.take_append_drop t (rgI 0 10)
    rw [List.drop_eq_getElem_cons hlt] at e
    have e2 : (rgI 0 10)[t] = k := (List.getElem?_eq_some_iff.mp ht).2
    rw [e2] at e
    exact e.symm
  have hf : ((rgI 0 10).take t).filter (fun k => !(leftM g b k rows st).isEmpty) = [] := List.filter_eq_nil_iff.mpr fun x hx => by
    rw [h x hx]
    simp
  have hb : (!(leftM g b k rows st).isEmpty) = true := by
    cases e : leftM g b k rows st with
    | nil => exact absurd e hk
    | cons _ _ => rfl
  unfold slacksM
  rw [e0, List.filter_append, hf, List.nil_append, List.filter_cons, if_pos hb]
  rfl
theorem slacks_none {g b st : List Int} {rows : List Row} (h : ∀ x ∈ rgI 0 10, leftM g b x rows st = []) : firstD (slacksM g b st rows) = .none := by
  unfold slacksM
  rw [List.filter_eq_nil_iff.mpr fun x hx => by
    rw [h x hx]
    simp]
  rfl
section
variable {K : PySem.W.Frag} {mg : Str → Option Value} {base : Heap} {P : Program} {w : World}
abbrev spLeast (K : PySem.W.Frag) (C : Addr) : Sp := SpP (α := { p : (List Int × List Int) × List Int × List Row // HearOk p.1.1 p.2.1 p.2.2 ∧ p.2.1.length ≤ 10 }) (fun p => [PHo K C p.1.1.1 p.1.1.2, PD K (.tuple (li p.1.2.1)), PD K (logD p.1.2.2)]) (fun p => PD K (firstD (slacksM p.1.1.1 p.1.1.2 p.1.2.1 p.1.2.2)))
theorem ok_least_slack (T : Txt K mg) : FnOk P w K mg base CX0 8 T.f_least_slack T.d_least_slack ["house", "start", "log"] (spLeast K T.C_House) := by
  refine fn_F T.F_least_slack sc_least_slack (fun _ => rfl) fun ⟨⟨⟨g, b⟩, st, rows⟩, hok, hz⟩ Z0 Z Q X qX hQ => ?_
  obtain ⟨cdv, A, outer, s, E, rfl, hr⟩ := qX
  have hk : HearOk g st rows := hok
  have hz' : st.length ≤ 10 := hz
  obtain ⟨t1, v1⟩ := T.v_MOST_SLACK
  refine xs_expr (xe_callD (ok_check_hearing T) ⟨((g, b), st, rows), hk.log, hk.nine, hk.start⟩ (hr.mono (by decide)) T.g_check_hearing T.F_check_hearing.kp T.b_check_hearing (xa_cons (xe_var 0) (xa_cons (xe_var 1) (xa_1 (xe_var 2))))) ?_
  refine xs_forN 3 (xi_range1 (K := K) (n := 9 + 1) T.z_range (xe_add (K := K) (xe_gint v1) xe_int) (by decide)) (fun t Γ1 Rs1 => Rs1 = [] ∧ (∀ x ∈ (rgI 0 10).take t, leftM g b x rows st = []) ∧ ∃ a, Γ1 = [some (PHo K T.C_House g b), some (PD K (.tuple (li st))), some (PD K (logD rows)), a]) ⟨rfl, (fun x hx => by cases hx), none, rfl⟩ ?_ ?_ sc_least_slack.nd
  · rintro t Qt Γ1 Rs1 hq ⟨rfl, hno, a, rfl⟩ Hs
    obtain ⟨d, hd, rfl⟩ := map_at hq
    obtain ⟨k, hk1, rfl⟩ := li_at hd
    have hk2 : (rgI 0 10)[t]? = some k := hk1
    refine xs_if (xt_truL (xe_callD (ok_floors_left T) ⟨((g, b), (st, rows), k), hk.nine, hk.start, hz'⟩ hr T.g_floors_left T.F_floors_left.kp T.b_floors_left (xa_cons (xe_var 0) (xa_cons (xe_var 1) (xa_cons (xe_var 2) (xa_1 (xe_var 3))))))) (fun hb => ?_) fun hb => xs_then ?_
    · have hne : leftM g b k rows st ≠ [] := fun e => by
        have h : true = !(li (leftM g b k rows st)).isEmpty := hb
        rw [e] at h
        cases h
      exact xs_ret (YE.dat (xe_var 3) (slacks_at hno hk2 hne).symm) fun v H0 H s k hv => hQ v H0 H s k hv
    · have he : leftM g b k rows st = [] := by
        have h : false = !(li (leftM g b k rows st)).isEmpty := hb
        simpa [li] using h
      refine xs_turn (fun σ H h => h) ⟨rfl, (fun x hx => ?_), _, rfl⟩
      rw [List.take_add_one, hk2] at hx
      rcases List.mem_append.mp hx with h | h
      · exact hno x h
      · have e : x = k := by simpa using h
        rw [e]
        exact he
  · rintro Γ1 Rs1 ⟨rfl, hno, a, rfl⟩
    exact xs_ret (YE.dat (xe_non (K := K)) (slacks_none fun x hx => hno x (by
      have e : ((li (rgI 0 (9 + 1 : Int).toNat)).map (PD K)).length = 10 := by simp [li, rgI_len]
      rw [e]
      exact hx)).symm) fun v H0 H s k hv => hQ v H0 H s k hv
end
end K33
namespace Lh
open PySem L2
open Evl (Ex ex_l ex_t ex_rd fresh_back)
/-- the tuple of two classes that was just laid -/
def PTys (n m : String) : Pd := ⟨fun v H => ∃ a, v = .ref a ∧ H a = some (.tup [.ty n, .ty m]), fun e ⟨a, h1, h2⟩ => ⟨a, h1, e _ _ h2⟩⟩
section
variable {M : Addr → Prop} {Γ Γ' : Ct} {Rs : List Res} {X : Cx} {Z0 Z Hl : Hp} {D : Ends} {K : PySem.W.Frag} {rest : List Stmt} {a b e : Expr} {es : List Expr} {pos p : Pos} {i j k : Int}
theorem xe_tys {n m : String} {x1} (h : XA M Γ Rs X es [PV (.ty n), PV (.ty m)]) : XE M Γ Rs X (.Tuple es x1 pos) (PTys n m) :=
  YE.wp (pe_tup pa_wp) fun σ H0 H l ex k Q q => h σ H0 H l ex k _ fun xs H1 G1 s1 k1 a1 => ⟨by have := a1.1; rw [this]; exact Nat.le_trans (show 2 ≤ 1000 by decide) (by decide), fun p hp => by
    obtain ⟨x, r, e1, h1, h3⟩ := a1.inv
    obtain ⟨y, r', e2, h2, h4⟩ := h3.inv
    have e3 := h4.nil_inv
    have h1' : x = .ty n := h1
    have h2' : y = .ty m := h2
    subst e1 e2 e3 h1' h2'
    exact q _ (upd H1 p (.tup [.ty n, .ty m])) _ (s1.trans (Step.new s1.le hp)) (k1.step0 (Step.new s1.le hp)) ⟨p, rfl, upd_same⟩⟩
/-- isinstance(a, (tuple, list)) -/
theorem xe_isiTL {d : PyData} {u : Bool} {p1 p2 tpos : Pos} {kt} (hm : X.mg "isinstance" = none) (hm1 : X.mg "tuple" = none) (hm2 : X.mg "list" = none) (hk : PySem.W.kitAny X.K (.type (tyS d)) [.type "tuple", .type "list"] = some u) (h : XE M Γ Rs X a (PD X.K d)) (hb : bootBuiltins "isinstance" = some (.builtin "isinstance") := by decide +kernel) (hg : Gl X "isinstance" := by rfl) (hg1 : Gl X "tuple" := by rfl) (hg2 : Gl X "list" := by rfl)
    (he : starEach [a, .Tuple [.Name "tuple" p1, .Name "list" p2] kt tpos] X.env = (false, eval a X.env) :: starEach [.Tuple [.Name "tuple" p1, .Name "list" p2] kt tpos] X.env := by rfl) (he2 : starEach [.Tuple [.Name "tuple" p1, .Name "list" p2] kt tpos] X.env = (false, eval (.Tuple [.Name "tuple" p1, .Name "list" p2] kt tpos) X.env) :: starEach [] X.env := by rfl)
    (he3 : starEach [.Name "tuple" p1, .Name "list" p2] X.env = (false, eval (.Name "tuple" p1) X.env) :: starEach [.Name "list" p2] X.env := by rfl) (he4 : starEach [.Name "list" p2] X.env = (false, eval (.Name "list" p2) X.env) :: starEach [] X.env := by rfl) (hpl : (backTo pos (starEach [.Tuple [.Name "tuple" p1, .Name "list" p2] kt tpos] X.env)).any (·.1) = false := by rfl) :
    XE M Γ Rs X (.Call (.Name "isinstance" p) [a, .Tuple [.Name "tuple" p1, .Name "list" p2] kt tpos] [] pos) (PD X.K (.bool u)) :=
  xe_callB call_isiT hm hb (xa_cons h (xa_1 (xe_tys (xa_cons (xe_bltn (v := .ty "tuple") hm1 (by decide +kernel) rfl hg1 (by decide) (by decide)) (xa_1 (xe_bltn (v := .ty "list") hm2 (by decide +kernel) rfl hg2 (by decide) (by decide)) he4) he3)) he2) he) (fun xs H0 H hx e _ => by
    obtain ⟨x, r, e1, h1, h3⟩ := hx.inv
    obtain ⟨y, r', e2, ⟨t, e4, h2⟩, h4⟩ := h3.inv
    have e3 := h4.nil_inv
    subst e1 e2 e3 e4
    exact Yld.val (z := .bl u) e rfl fun Q k => ⟨x, t, _, _, _, u, rfl, e _ _ h2, .cons (.ty _) (.cons (.ty _) .nil), ty_of (Dd.ex e _ _ h1), hk, k⟩) hg (by decide) (by decide) he hpl
end
end Lh
namespace K33
open PySem L2 Lh
section
variable {K : PySem.W.Frag} {mg : Str → Option Value} {base : Heap} {P : Program} {w : World}
/-- an int beside itself -/
abbrev spAlikeI (K : PySem.W.Frag) : Sp := SpP (α := Int) (fun a => [PD K (.int a), PD K (.int a)]) (fun _ => PD K (.bool true))
theorem ok_alike_int (T : Txt K mg) : FnOk P w K mg base CX0 1 T.f__law_alike T.d__law_alike ["_law_found", "_law_due"] (spAlikeI K) := by
  refine fn_F T.F__law_alike sc__law_alike (fun _ => rfl) fun a Z0 Z Q X qX hQ => ?_
  obtain ⟨cdv, A, outer, s, E, rfl, hr⟩ := qX
  refine xs_skip (xt_bool (K := K) (xe_isi (d := .int a) (TS := "dict") T.z_isinstance T.z_dict rfl (xe_var 1) (by decide +kernel))) ?_
  refine xs_skip (xt_bool (K := K) (xe_isiTL (d := .int a) T.z_isinstance T.z_tuple T.z_list rfl (xe_var 1))) ?_
  refine xs_skip (YT.eq (xt_orB (v := false) (xt_isN (d := .int a) (xe_var 1) (by show "int" ≠ "NoneType"; decide)) fun _ => xt_bool (K := K) (xe_isi (d := .int a) (TS := "str") T.z_isinstance T.z_str rfl (xe_var 1) (by decide +kernel))) rfl) ?_
  refine xs_ret (YE.imp (xe_and3 (K := K) (A := Is true) (B := Is true) (C := Is (decide (a = a))) (YE.pb (xe_isi (d := .int a) (TS := "int") T.z_isinstance T.z_int rfl (xe_var 0) (by decide +kernel))) (fun _ => YE.pb (YE.dat (xe_eqB (K := K) (u := false) (v := false) (xe_isi (d := .int a) (TS := "bool") T.z_isinstance T.z_bool rfl (xe_var 0) (by decide +kernel)) (xe_isi (d := .int a) (TS := "bool") T.z_isinstance T.z_bool rfl (xe_var 1) (by decide +kernel))) rfl)) (fun _ _ => YE.pb (xe_eqI (K := K) (xe_var 0) (xe_var 1)))) (fun v H h => ?_)) fun v H0 H s k hv => hQ v H0 H s k hv
  obtain ⟨u, hu, hv⟩ := h
  have e : u = true := by
    rcases hu with ⟨h, _⟩ | ⟨_, h⟩
    · cases h
    · rcases h with ⟨h, _⟩ | ⟨_, h⟩
      · cases h
      · have h' : u = decide (a = a) := h
        rw [h', decide_eq_true rfl]
  subst e
  exact hv
abbrev spAlikeN (K : PySem.W.Frag) : Sp := SpP (α := Unit) (fun _ => [PD K .none, PD K .none]) (fun _ => PD K (.bool true))
theorem ok_alike_none (T : Txt K mg) : FnOk P w K mg base CX0 1 T.f__law_alike T.d__law_alike ["_law_found", "_law_due"] (spAlikeN K) := by
  refine fn_F T.F__law_alike sc__law_alike (fun _ => rfl) fun _ Z0 Z Q X qX hQ => ?_
  obtain ⟨cdv, A, outer, s, E, rfl, hr⟩ := qX
  refine xs_skip (xt_bool (K := K) (xe_isi (d := .none) (TS := "dict") T.z_isinstance T.z_dict rfl (xe_var 1) (by decide +kernel))) ?_
  refine xs_skip (xt_bool (K := K) (xe_isiTL (d := .none) T.z_isinstance T.z_tuple T.z_list rfl (xe_var 1))) ?_
  refine xs_yes (YT.eq (xt_orB (v := false) (xt_isV (d := .none) (xe_var 1)) fun h => Bool.noConfusion h) rfl) ?_
  refine xs_ret (YE.imp (xe_and (K := K) (A := Is true) (B := Is true) (YE.pb (YE.dat (xe_eqD (d := .none) (d' := .none) hr (xe_var 0) (xe_var 1) rfl rfl) rfl)) (fun _ => YE.pb (YE.dat (xe_eqB (K := K) (u := false) (v := false) (xe_isi (d := .none) (TS := "str") T.z_isinstance T.z_str rfl (xe_var 0) (by decide +kernel)) (xe_isi (d := .none) (TS := "str") T.z_isinstance T.z_str rfl (xe_var 1) (by decide +kernel))) rfl))) (fun v H h => ?_)) fun v H0 H s k hv => hQ v H0 H s k hv
  obtain ⟨u, hu, hv⟩ := h
  have e : u = true := by
    rcases hu with ⟨h, _⟩ | ⟨_, h⟩
    · cases h
    · exact h
  subst e
  exact hv
abbrev spAlikeL (K : PySem.W.Frag) : Sp := SpP (α := { xs : List Int // xs.length ≤ 100000 }) (fun xs => [PD K (.list (li xs.1)), PD K (.list (li xs.1))]) (fun _ => PD K (.bool true))
theorem ok_alike_list (T : Txt K mg) : FnOk P w K mg base CX0 2 T.f__law_alike T.d__law_alike ["_law_found", "_law_due"] (spAlikeL K) := by
  refine fn_F T.F__law_alike sc__law_alike (fun _ => rfl) fun ⟨xs, hz⟩ Z0 Z Q X qX hQ => ?_
  obtain ⟨cdv, A, outer, s, E, rfl, hr⟩ := qX
  have hz' : xs.length ≤ 100000 := hz
  have hlx : ((li xs).length : Int).toNat = xs.length := by simp [li]
  refine xs_skip (xt_bool (K := K) (xe_isi (d := .list (li xs)) (TS := "dict") T.z_isinstance T.z_dict rfl (xe_var 1) (by decide +kernel))) ?_
  refine xs_yes (xt_bool (K := K) (xe_isiTL (d := .list (li xs)) T.z_isinstance T.z_tuple T.z_list rfl (xe_var 1))) ?_
  refine xs_skip (YT.eq (xt_orB (u := false) (v := false) (YT.eq (xt_notB (xt_bool (K := K) (xe_isiTL (u := true) (d := .list (li xs)) T.z_isinstance T.z_tuple T.z_list rfl (xe_var 0)))) rfl) fun _ => YT.eq (xt_neB (K := K) (u := true) (v := true) (xe_isi (d := .list (li xs)) (TS := "list") T.z_isinstance T.z_list rfl (xe_var 0) (by decide +kernel)) (xe_isi (d := .list (li xs)) (TS := "list") T.z_isinstance T.z_list rfl (xe_var 1) (by decide +kernel))) rfl) rfl) ?_
  refine xs_skip (YT.eq (xt_neI (K := K) (xe_lenL T.z_len (xe_var 0)) (xe_lenL T.z_len (xe_var 1))) (by rw [decide_eq_true rfl]; rfl)) ?_
  refine xs_ret (YE.dat (xe_eqLi hr (ns := []) (ms := []) (YE.dat (d' := .list (li [])) (xe_filtI 2 (fun n => .int n) (fun _ => false) (xi_range1 T.z_range (xe_lenL T.z_len (xe_var 1)) (by simp [li]; omega)) (fun n hn s0 H0 C cl fp => ?_) (fun n hn h => Bool.noConfusion h) sc__law_alike.nd (blkOk_by rfl) (by rw [rgI_len, hlx]; exact hz') cov0 (fun _ _ _ _ _ => pg_name (i := 2) sc__law_alike.nd rfl (Or.inl rfl))) ?_) (YE.dat (d' := .list (li [])) (xe_lst (ds := []) xa_nil (by simp)) rfl)) (by rw [decide_eq_true rfl])) fun v H0 H s k hv => hQ v H0 H s k hv
  · have hn' := mem_rgI.mp hn
    rw [hlx] at hn'
    obtain ⟨d, hd, a, rfl, ha⟩ := ixE_li (ns := xs) (k := n) ⟨hn'.1, by omega⟩
    refine YT.eq (xt_notB (u := true) ?_) rfl
    refine xt_bool (K := K) ?_
    exact xe_callD (ok_alike_int T) a hr T.g__law_alike T.F__law_alike.kp T.b__law_alike (xa_cons (xe_ixL (xe_var 0) (xe_var 2) hd) (xa_1 (xe_ixL (xe_var 1) (xe_var 2) hd)))
  · rw [List.filter_eq_nil_iff.mpr fun z hz => by simp]
end
end K33
namespace Lh
open PySem L2 PySem.Spec PyProof.Rows
abbrev set0 (w : World) : Obj := { cls := .type "set", dict := none, data := .set #[] 0 (.fresh 0 0 (!w.params.followText "set-order")) }
theorem set0_R {w : World} {h : Heap} {D : Addr} {ns : List Int} (e : h.get? D = some (set0 w)) : SetR w h D (fun j => decide (j ∈ ns.take 0)) 0 := setR_new_at e
section
variable {s : Shared} {A : Around} {P : Program} {w : World} {E : Value → Shared → Prop}
/-- `__init__` of a new set, of a list of ints -/
theorem init_ints {D l : Addr} {items : Array Value} {ns : List Int} {Q : Value → Shared → Prop} (hh : A.handled = none) (hs : s.heap.get? D = some (set0 w)) (hl : s.heap.IsList l items) (hi : IntsAre items.toList ns) (hz : items.size = ns.length) (hb : ns.length + 1 < scanBound)
    (hQ : ∀ (h : Heap) (k c : Nat), SetR w h D (fun j => decide (j ∈ ns)) c → c ≤ ns.length → (∀ b o, b ≠ D → s.heap.get? b = some o → h.get? b = some o) → Q .none { s with heap := h, toks := k }) :
    codeAny (model P w) A (.call (.builtin "set.__init__") ⟨[.ref D, .ref l], []⟩) (wants Q E) s := by
  have tyD : s.TypeIs (.ref D) "set" := ⟨_, hs, rfl⟩
  refine codeAny_call_builtin F.called_set.init.plain F.entry_set_init (check_set_init_1 tyD ?_)
  have lD : l ≠ D := fun e => by
    obtain ⟨o, ho, hc, _⟩ := hl
    rw [e, hs] at ho
    rw [← Option.some.inj ho] at hc
    exact absurd (Value.type.inj hc) (by decide)
  obtain ⟨o, ho, oc, n, od⟩ := id hl
  obtain ⟨c0, d0, t0, p0⟩ := o
  dsimp only at oc od
  subst oc od
  have nd : (Value.type "list" == Value.type "dict") = false := by decide
  have k1 := F.sub_list_set
  have k2 := F.sub_list_frozenset
  unfold Builtin.«set.__init__»
  unfold Builtin.Frozenset.updateFrom noKeywords
  generalize eI : pyIter = I
  wp_walk
  subst eI
  refine wpAny_pyIter_list hl (wpAny_bind (wpAny_runValue ?_))
  have dI : D ∉ [s.heap.objs.size, l] := fun m => by
    obtain e | e := List.mem_cons.mp m
    · exact absurd (Heap.lt_size hs) (by rw [e]; exact Nat.lt_irrefl _)
    · exact lD (List.mem_singleton.mp e).symm
  have at_ : ∀ (i : Nat) (v : Value), items[i]? = some v → ∃ k t, ns[i]? = some k ∧ v = .int k t := fun i v e => by
    have lt : i < ns.length := hz ▸ (Array.getElem?_eq_some_iff.mp e).1
    obtain ⟨t, e2⟩ := IntsAre.int_at hi i v (by rw [Array.getElem?_toList]; exact e)
    exact ⟨ns[i], t, List.getElem?_eq_getElem lt, by rw [e2, List.getD_eq_getElem?_getD, List.getElem?_eq_getElem lt]; rfl⟩
  refine set_update_ints (n := items.size) ((Walks.list (by simp [hh]) _ l (Nat.ne_of_lt (Heap.lt_size ho)) items).toS) D dI ns hz hb at_ _ 0 _ rfl (Nat.zero_le _) ⟨⟨_, Heap.get?_push_size _ rfl, rfl, rfl⟩, hl.push _⟩ ⟨0, Nat.le_refl 0, set0_R (Heap.get?_push_of_some _ hs)⟩ fun s' c mv hc R => ?_
  obtain ⟨h2, g2, d2, k3, o2⟩ := s'
  obtain rfl : g2 = s.gens := mv.gens
  obtain rfl : d2 = s.drawn := mv.drawn
  obtain rfl : o2 = s.os := mv.os
  refine wpAny_pure (wpAny_pure (hQ h2 k3 c R (hz ▸ hc) fun b o nb e => ?_))
  refine mv.heap b o (fun m => ?_) (Heap.get?_push_of_some _ e)
  rcases List.mem_cons.mp m with e1 | e1
  · exact nb e1
  · exact absurd (Heap.lt_size e) (by rw [List.mem_singleton.mp e1]; exact Nat.lt_irrefl _)
/-- a built-in type called: what `__new__` gives, then `__init__` -/
theorem call_type {T newId initId : String} {xs : List Value} {Q N : Value → Shared → Prop} (ft : TypeCalled T newId initId) (fits : checkTypeCall T ⟨xs, []⟩ = pure ())
    (h1 : codeAny (model P w) A.in1 (.call (.builtin newId) ⟨.type T :: xs, []⟩) (wants N E) s)
    (h2 : ∀ v z, N v z → z.TypeIs v T ∧ codeAny (model P w) A.in1 (.call (.builtin initId) ⟨v :: xs, []⟩) (wants (fun r z' => r = .none ∧ Q v z') E) z) : wpAny (model P w) A (call (.type T) xs) Q E s := by
  obtain ⟨u1, u2, ⟨_, _, u3⟩, u4, _, u5, u6⟩ := ft
  have u7 := u6.lookup
  refine wpAny_call (codeAny_of_tree (show wpAny _ _ (callAny (.type T) _) _ _ _ from ?_))
  refine wpAny_pure (And.intro (Code.quiet_builtin _ (by decide +kernel)) (codeAny_builtin F.entry_type_call ?_))
  rw [Around.under_plain (weight_type_call_type T xs []) (units_type_call_type T xs [])]
  repeat' first | assumption | wp_step
  refine codeAny_mono h1 fun r z hr => ?_
  match r, hr with
  | .error _, hr => exact hr
  | .ok (.ret v), hr =>
    obtain ⟨tv, h3⟩ := h2 v z hr
    have u8 := u6.bind v
    repeat' first | assumption | wp_step
    refine codeAny_mono h3 fun r' z' hr' => ?_
    match r', hr' with
    | .error _, hr' => exact hr'
    | .ok (.ret _), ⟨rfl, hq⟩ => 
      repeat' first | assumption | wp_step
/-- set(l), of a list of ints -/
theorem call_setL {l : Addr} {items : Array Value} {ns : List Int} {Q : Value → Shared → Prop} (hh : A.handled = none) (hl : s.heap.IsList l items) (hi : IntsAre items.toList ns) (hb : ns.length + 1 < scanBound)
    (hQ : ∀ (h : Heap) (k c : Nat), SetR w h s.heap.objs.size (fun j => decide (j ∈ ns)) c → c ≤ ns.length → (∀ b o, s.heap.get? b = some o → h.get? b = some o) → Q (.ref s.heap.objs.size) { s with heap := h, toks := k }) :
    wpAny (model P w) A (call (.type "set") [Value.ref l]) Q E s := by
  refine call_type (N := fun v z => v = .ref s.heap.objs.size ∧ z = { s with heap := s.heap.push (set0 w) }) F.called_set (F.typeCall_set_1 _) (code_set_led1 _ ⟨rfl, rfl⟩) ?_
  rintro v z ⟨rfl, rfl⟩
  exact ⟨⟨_, Heap.get?_push_size _ rfl, rfl⟩, init_ints (ns := ns) (by simp [hh]) (Heap.get?_push_size _ rfl) (hl.push _) hi (by have := IntsAre.length hi; rw [Array.length_toList] at this; exact this) hb fun h k c R hc kp => ⟨rfl, hQ h k c R hc fun b o e => kp b o (Nat.ne_of_lt (Heap.lt_size e)) (Heap.get?_push_of_some _ e)⟩⟩
end
section
variable {X : Cx}
theorem same_len {a b : List Int} (ha : a.Nodup) (hb : b.Nodup) (h : ∀ z, z ∈ a ↔ z ∈ b) : a.length = b.length := ((List.perm_ext_iff_of_nodup ha hb).mpr h).length_eq
theorem vals_ints : ∀ {ns : List Int} {us : List Value}, Vals (ns.map V.int) us → IntsAre us ns
  | [], _, .nil => .nil
  | n :: _, _, .cons ⟨t, e⟩ r => e ▸ .cons n t (vals_ints r)
/-- set(l), l a list of ints: its number is that of any list of the same ones, each once -/
def rSetL (K : PySem.W.Frag) (w : World) : List V → Hp → VK → Prop := fun vs H Q => ∃ (l : Addr) (ns : List Int), vs = [.ref l] ∧ SqL K H l (ns.map V.int) ∧ ns.length + 1 < scanBound ∧
  ∀ (D : Addr) (c : Nat), H D = none → (∀ R : List Int, R.Nodup → (∀ z, z ∈ R ↔ z ∈ ns) → c = R.length) → Q (.ref D) (upd H D (SetO w D (fun j => decide (j ∈ ns)) c))
theorem cr_setL (hc : X.calm = true) : CallR X (.type "set") (rSetL X.K X.w) := by
  intro pins s σ H vs us Q I ra h
  obtain ⟨l, ns, rfl, hl, hb, q⟩ := h
  rw [Vals.ref1 ra]
  obtain ⟨kids, rv, pl, -⟩ := I.list hl
  refine call_setL (ns := ns) (I.ok.hd hc) pl.isList (by simpa using vals_ints rv) hb fun h k c R _ kp => ?_
  refine ⟨.ref s.heap.objs.size, _, I.laid (t' := k) kp (Nat.le_refl _) (setO_new R), rfl, q _ c (I.hok.fresh (Nat.le_refl _)) fun L hn hL => ?_⟩
  obtain ⟨_, es, _, _, _, _, _, _, nd, mem, _, _, rfl, _⟩ := R
  rw [← Array.length_toList, ← List.length_map (f := keyOf)]
  exact same_len nd hn fun z => by rw [hL z, ← mem z, decide_eq_true_eq]
/-- sorted(t), t a tuple of ints -/
def rSortTup (K : PySem.W.Frag) : List V → Hp → VK → Prop := fun vs H Q => ∃ (a : Addr) (ns : List Int), vs = [.ref a] ∧ SqT K H a (ns.map V.int) ∧
  ∀ (ms : List Int) (p : Addr), ms.Perm ns → ms.Pairwise (· ≤ ·) → H p = none → Q (.ref p) (upd H p (.lst (ms.map V.int)))
theorem cr_sortTup : CallR X (.builtin "sorted") (rSortTup X.K) := by
  intro pins s σ H vs us Q I ra h
  obtain ⟨a, ns, rfl, ht, q⟩ := h
  rw [Vals.ref1 ra]
  obtain ⟨its, rv, ⟨o, ho, oc, n, od⟩, hz⟩ := I.tuple ht
  have hi := vals_ints rv
  have hz' : its.length ≤ sizeLine := by rw [← rv.length]; exact hz
  refine Calls.call_function_entry (args := _) kind_sorted plain_sorted entry_sorted (args_sorted1 _) (show wpAny _ _ (Builtin.«sorted» _) _ _ _ from ?_)
  unfold Builtin.«sorted»
  refine wpAny_bind (m := checkCount "sorted" 1 1 _) (wpAny_pure (wpAny_bind (wpAny_collect_seq a (.inr rfl) ho oc od (fun h kp => ?_) (by simpa using hz'))))
  refine wpAny_bind (wpAny_newList ?_ (by simpa using hz'))
  have at_ : (h.push (seqObj "list" its.toArray 0)).get? h.objs.size = some (seqObj "list" its.toArray 0) := Heap.get?_push_size _ rfl
  refine wpAny_bind (wpAny_holding (wpAny_call_entry slot_list_sort ⟨_, at_, rfl⟩ entry_list_sort (SrtO.list_sort_ord SrtO.swo_int at_ hz' (fun h2 => SrtO.ints_sortable hi h2) fun out o1 o2 => ⟨_, rfl, ?_⟩) (args_list_sort _)))
  obtain ⟨e1, e2, e3⟩ := SrtO.ints_out hi o1 o2
  obtain ⟨c, hc⟩ := sortedHeap_at (vs := its) (out := out.toArray) at_
  have I2 : Inv X pins σ H { s with heap := h } := I.kept (t' := s.toks) kp
  refine wpAny_pure ⟨_, rfl, .ref h.objs.size, _, I2.laid (t' := s.toks) (fun b u e => ?_) (Nat.le_refl _) (o := .lst ((out.map SrtO.iv).map V.int)) ⟨by rw [List.length_map, e2.length_eq, ← hi.length]; exact hz', out, c, vals_of_ints e1, hc⟩, rfl, q _ _ e2 e3 (I2.hok.fresh (Nat.le_refl _))⟩
  have lt := Heap.lt_size e
  show (sortedHeap _ _ _ _).get? b = some u
  rw [sortedHeap_old (Nat.ne_of_lt lt) (by rw [size_push']; exact Nat.lt_succ_of_lt lt)]
  exact Heap.get?_push_of_some _ (by exact e)
end
section
open Evl (Ex ex_l ex_t ex_rd fresh_back)
variable {M : Addr → Prop} {Γ Γ' : Ct} {Rs : List Res} {X : Cx} {a : Expr} {p pos p2 pos2 : Pos}
/-- sorted of a tuple of ints -/
theorem xe_sortTup {ns ms : List Int} (hm : X.mg "sorted" = none) (h : XE M Γ Rs X a (PD X.K (.tuple (li ns)))) (hs : ∀ l : List Int, l.Perm ns → l.Pairwise (· ≤ ·) → l = ms) (hg : Gl X "sorted" := by rfl) (he : starEach [a] X.env = (false, eval a X.env) :: starEach [] X.env := by rfl) :
    XE M Γ Rs X (.Call (.Name "sorted" p) [a] [] pos) (PD X.K (.list (li ms))) :=
  xe_callB cr_sortTup hm (by decide +kernel) (xa_1 h he) (fun xs H0 H hx e _ => by
    obtain ⟨x, e1, q, ys, e2, h1, h2⟩ := da1 hx
    have e3 := h2.ints
    subst e1 e2 e3
    exact Yld.newL e (DdAll.of_ints ms) fun Q k => ⟨q, ns, rfl, ex_t e h1, fun l p' hp hw hn => by rw [hs l hp hw]; exact k p' hn⟩) hg (by decide) (by decide) he rfl
/-- sorted(set(l)), l a list of ints -/
theorem xe_sortSet {ns R : List Int} (hm : X.mg "sorted" = none) (hm2 : X.mg "set" = none) (h : XE M Γ Rs X a (PD X.K (.list (li ns)))) (hz : ns.length ≤ 4000) (hR : R.Pairwise (· < ·)) (h64 : R.length < 64) (hmem : ∀ z, z ∈ R ↔ z ∈ ns)
    (hc : X.calm = true := by rfl) (hg : Gl X "sorted" := by rfl) (hg2 : Gl X "set" := by rfl) (he : starEach [a] X.env = (false, eval a X.env) :: starEach [] X.env := by rfl)
    (he2 : starEach [.Call (.Name "set" p2) [a] [] pos2] X.env = (false, eval (.Call (.Name "set" p2) [a] [] pos2) X.env) :: starEach [] X.env := by rfl) :
    XE M Γ Rs X (.Call (.Name "sorted" p) [.Call (.Name "set" p2) [a] [] pos2] [] pos) (PD X.K (.list (li R))) :=
  YE.wp (pe_callB (cr_sortedSet hc) hg hm (by decide +kernel) (pa_cons (pe_callTy (cr_setL hc) hg2 hm2 (by decide +kernel) (pa_cons pe_wp pa_nil he) (by decide) (by decide) he rfl) pa_nil he2) (by decide) (by decide) he2 rfl) fun σ H0 H l ex k Q q => h σ H0 H l ex k _ fun v H1 G1 s1 k1 hv => by
    obtain ⟨t, ys, rfl, h1, h2⟩ := hv
    obtain rfl := h2.ints
    refine ⟨t, ns, rfl, SqL.of (s1.le _ _ h1), by unfold scanBound; omega, fun D c hD hn => ⟨D, _, c, rfl, upd_same, ?_, fun l p' hp hmm hl hfr => ?_⟩⟩
    · rw [hn R (hR.imp fun h => Int.ne_of_lt h) hmem]
      exact h64
    · have el : l = R := asc_ext hp hR fun z => by rw [hmm z, decide_eq_true_eq, hmem z]
      subst el
      have nr : ∀ r ∈ Rs, ∀ a ∈ r.ad, a ≠ D := fun r hr a ha e => by
        obtain ⟨⟨o, h1⟩, _⟩ := r.tr (k1.2 r hr) a ha
        rw [e, hD] at h1
        cases h1
      have hD0 : H D = none := by
        cases e : H D with
        | none => rfl
        | some o =>
          obtain ⟨u, h⟩ := s1.th D o e
          rw [hD] at h
          cases h
      have t2 := s1.side (o := SetO X.w D (fun j => decide (j ∈ ns)) c) hD0 (fresh_back s1.le hD)
      exact q (.ref p') (upd H1 p' (.lst (l.map V.int))) _ (t2.trans (Step.new t2.le hfr)) ((k1.wr nr).step0 (Step.new t2.le hfr)) ⟨p', _, rfl, upd_same, DdAll.of_ints _⟩
end
end Lh
namespace K33
open PySem L2 Lh
theorem sort_up {l st : List Int} {n : Nat} (hs : st.Sublist (rgI 0 n)) (hp : l.Perm st) (hw : l.Pairwise (· ≤ ·)) : l = st := by
  have up : st.Pairwise (· < ·) := (rgI_up n).sublist hs
  have nd : st.Nodup := up.imp fun h => Int.ne_of_lt h
  exact asc_ext (lt_of_le_nodup l hw (hp.nodup_iff.mpr nd)) up fun z => hp.mem_iff
theorem nextBy_len {g b : List Int} {k : Int} {r : Row} {f : Int} : (nextBy g b k r f).length ≤ g.length + 1 := by
  cases r with
  | go s =>
    have h1 := List.length_filter_le (fun o => decide ((if far g f o - s < 0 then -(far g f o - s) else far g f o - s) ≤ k)) ((rgI 0 (g.length + 1)).filter fun o => !decide (o = f))
    have h2 := List.length_filter_le (fun o => !decide (o = f)) (rgI 0 (g.length + 1))
    rw [rgI_len] at h2
    exact Nat.le_trans h1 h2
  | gap => exact nextF_len (b := b) (r := .gap) (f := f)
  | door => exact nextF_len (b := b) (r := .door) (f := f)
  | bell u => exact nextF_len (b := b) (r := .bell u) (f := f)
  | look l => exact nextF_len (b := b) (r := .look l) (f := f)
def laterM (g b : List Int) (k : Int) (r : Row) (fl : List Int) : List Int := fl.flatMap fun f => nextBy g b k r f
theorem laterM_take {g b : List Int} {k : Int} {r : Row} {fl : List Int} {t : Nat} {f : Int} (h : fl[t]? = some f) : laterM g b k r (fl.take (t + 1)) = laterM g b k r (fl.take t) ++ nextBy g b k r f := by
  unfold laterM
  rw [List.take_add_one, h]
  simp
theorem laterM_len {g b : List Int} {k : Int} {r : Row} (h9 : g.length ≤ 9) : ∀ fl : List Int, (laterM g b k r fl).length ≤ 10 * fl.length
  | [] => by simp [laterM]
  | f :: fl => by
    have h1 := nextBy_len (g := g) (b := b) (k := k) (r := r) (f := f)
    have h2 := laterM_len (g := g) (b := b) (k := k) (r := r) h9 fl
    unfold laterM at h2 ⊢
    rw [List.flatMap_cons, List.length_append, List.length_cons]
    omega
section
variable {K : PySem.W.Frag} {mg : Str → Option Value} {base : Heap} {P : Program} {w : World}
abbrev spBy (K : PySem.W.Frag) : Sp := SpP (α := { p : (List Int × List Int) × (List Int × List Row) × Int // p.1.1.length ≤ 9 ∧ p.2.1.1.Sublist (rgI 0 (p.1.1.length + 1)) ∧ ∀ r ∈ p.2.1.2, r.Ok p.1.1 }) (fun p => [PD K (drawnD p.1.1.1 p.1.1.2), PD K (.tuple (li p.1.2.1.1)), PD K (logD p.1.2.1.2), PD K (.int p.1.2.2)]) (fun p => PD K (eL (leftM p.1.1.1 p.1.1.2 p.1.2.2 p.1.2.1.2 p.1.2.1.1)))
theorem ok_law_by (T : Txt K mg) : FnOk P w K mg base CX0 3 T.f__law_by T.d__law_by ["_law_drawn", "_law_start_here", "_law_log_here", "_law_slack"] (spBy K) := by
  refine fn_F T.F__law_by sc__law_by (fun _ => rfl) fun ⟨⟨⟨g, b⟩, ⟨st, rows⟩, k⟩, h9, hst, hok⟩ Z0 Z Q X qX hQ => ?_
  obtain ⟨cdv, A, outer, s, E, rfl, hr⟩ := qX
  have h9' : g.length ≤ 9 := h9
  have hst' : st.Sublist (rgI 0 (g.length + 1)) := hst
  have hok' : ∀ r ∈ rows, r.Ok g := hok
  have hsl : st.length ≤ 10 := by
    have := hst'.length_le
    rw [rgI_len] at this
    omega
  have hs' : ∀ x ∈ st, 0 ≤ x ∧ x ≤ g.length := fun x hx => fl_in (hst'.subset hx)
  refine xs_asg 4 (P := PD K (eL st)) (xe_sortTup T.z_sorted (xe_var 1) fun l hp hw => sort_up hst' hp hw) ?_ sc__law_by.nd
  refine xs_forN 5 (xi_list (xe_var 2)) (fun t Γ1 Rs1 => Rs1 = [] ∧ ∃ a5 a6 a7 a8 a9, Γ1 = [some (PD K (drawnD g b)), some (PD K (.tuple (li st))), some (PD K (logD rows)), some (PD K (.int k)), some (PD K (eL (leftM g b k (rows.take t) st))), a5, a6, a7, a8, a9]) ⟨rfl, none, none, none, none, none, rfl⟩ ?_ ?_ sc__law_by.nd
  · rintro t Qt Γ1 Rs1 hq ⟨rfl, a5, a6, a7, a8, a9, rfl⟩ Hs
    obtain ⟨d, hd, rfl⟩ := map_at hq
    obtain ⟨r, hrr, rfl⟩ := enc_at hd
    have hrr' : rows[t]? = some r := hrr
    have hro : r.Ok g := hok' r (List.mem_of_getElem? hrr')
    obtain ⟨q1, q2⟩ := leftM_ok (b := b) (k := k) (rows := rows) h9' hs' hsl t
    obtain ⟨fl, hfl⟩ : ∃ fl, fl = leftM g b k (rows.take t) st := ⟨_, rfl⟩
    rw [← hfl] at q1 q2
    have hnx : behBy g b k r fl = leftM g b k (rows.take (t + 1)) st := by rw [hfl, leftM_take hrr']
    have hl : ∀ K' : PySem.W.Frag, ((li fl).map (PD K')).length = fl.length := fun K' => by simp [li]
    rw [← hfl]
    refine xs_asg 6 (P := PD K (eL (laterM g b k r (fl.take 0)))) (YE.dat (xe_lst (ds := []) xa_nil (by simp)) rfl) ?_ sc__law_by.nd
    refine xs_forN 7 (xi_list (xe_var 4)) (fun t2 Γ2 Rs2 => Rs2 = [] ∧ ∃ a7 a8 a9, Γ2 = [some (PD K (drawnD g b)), some (PD K (.tuple (li st))), some (PD K (logD rows)), some (PD K (.int k)), some (PD K (eL fl)), some (PD K (.tuple r.ds)), some (PD K (eL (laterM g b k r (fl.take t2)))), a7, a8, a9]) ⟨rfl, a7, a8, a9, rfl⟩ ?_ ?_ sc__law_by.nd
    · rintro t2 Qt2 Γ2 Rs2 hq2 ⟨rfl, a7, a8, a9, rfl⟩ Hs2
      obtain ⟨d2, hd2, rfl⟩ := map_at hq2
      obtain ⟨f, hf2, rfl⟩ := li_at hd2
      have hf2' : fl[t2]? = some f := hf2
      have hfr := q2 f (List.mem_of_getElem? hf2')
      have hlt := laterM_len (b := b) (k := k) (r := r) h9' (fl.take t2)
      have htl : (fl.take t2).length ≤ 10 := by
        rw [List.length_take]
        omega
      have hnl := nextBy_len (g := g) (b := b) (k := k) (r := r) (f := f)
      have hcnt : (((li g).length : Int) + 1).toNat = g.length + 1 := by simp [li]
      have hg1 : ((li g).length : Int) = g.length := by simp [li]
      refine xs_if (xt_eqS (K := K) (xe_ixT (xe_var 5) xe_int r.k0) xe_str) (fun hb => ?_) fun hb => ?_
      · have hb' : true = decide (r.kind = "go") := hb
        obtain ⟨s', rfl⟩ := Row.is_go (of_decide_eq_true hb'.symm)
        refine xs_filtG PyData.int (rgI 0 (((li g).length : Int) + 1).toNat) 8 9 (fun n => .int n) (fun o => !decide (o = f)) (xi_range1 T.z_range (xe_add (xe_lenT T.z_len (xe_ixT (d := .tuple (li g)) (xe_var 0) xe_int rfl)) xe_int) (by rw [hg1]; omega)) (fun o ho s0 H0 C cl fp => by exact xt_neI (K := K) (xe_var 9) (xe_var 7)) (fun o ho _ s0 H0 C cl fp => by exact xe_var 9) ?_ sc__law_by.nd (blkOk_by rfl) (by rw [rgI_len, hcnt]; omega) cov0 (fun _ _ _ _ _ => pg_name (i := 9) sc__law_by.nd rfl (Or.inl rfl)) rfl
        rw [hcnt]
        refine xs_asg 6 (P := PD K (eL (laterM g b k (.go s') (fl.take (t2 + 1))))) (YE.dat (xe_catL (xe_var 6) (xe_filtI 9 (fun n => .int n) (fun o => decide ((if far g f o - s' < 0 then -(far g f o - s') else far g f o - s') ≤ k)) (xi_list (xe_var 8)) (fun o ho s0 H0 C cl fp => by
          have ho' := fl_in (List.mem_filter.mp ho).1
          exact xt_le (K := K) (xe_abs T.z_abs (xe_sub (xe_callD (ok_law_far T) ⟨(g, f, o), hfr.1, ho'.1⟩ (hr.mono (by decide)) T.g__law_far T.F__law_far.kp T.b__law_far (xa_cons (xe_ixT (d := .tuple (li g)) (xe_var 0) xe_int rfl) (xa_cons (xe_var 7) (xa_1 (xe_var 9))))) (xe_ixT (d := .int s') (xe_var 5) xe_int rfl))) (xe_var 3)) (fun o ho _ s0 H0 C cl fp => by exact xe_var 9) sc__law_by.nd (blkOk_by rfl) (by
            have := List.length_filter_le (fun o => !decide (o = f)) (rgI 0 (g.length + 1))
            rw [rgI_len] at this
            show ((rgI 0 (g.length + 1)).filter fun o => !decide (o = f)).length ≤ 100000
            omega) cov0 (fun _ _ _ _ _ => pg_name (i := 9) sc__law_by.nd rfl (Or.inl rfl))) (by
            have e : (((((rgI 0 (g.length + 1)).filter fun o => !decide (o = f)).filter fun o => decide ((if far g f o - s' < 0 then -(far g f o - s') else far g f o - s') ≤ k)).map fun n => PyData.int n)).length = (nextBy g b k (.go s') f).length := by rw [List.length_map]; rfl
            rw [e]
            simp only [li, List.length_map]
            omega)) (by
            rw [laterM_take hf2']
            simp [li, nextBy])) (xs_then (xs_turn (fun σ H h => h) ⟨rfl, _, _, _, rfl⟩)) sc__law_by.nd
      · have hb' : false = decide (r.kind = "go") := hb
        have other : nextBy g b k r f = nextF g b r f := by
          cases r with
          | go s' =>
            have h2 : decide ((Row.go s').kind = "go") = true := by
              show decide (("go" : Str) = "go") = true
              decide +kernel
            rw [h2] at hb'
            cases hb'
          | _ => rfl
        rw [other] at hnl
        refine xs_asg 6 (P := PD K (eL (laterM g b k r (fl.take (t2 + 1))))) (YE.dat (xe_catL (xe_var 6) (xe_callD (ok_law_next_floors T) ⟨((g, b), f, r), hfr, h9', hro⟩ hr T.g__law_next_floors T.F__law_next_floors.kp T.b__law_next_floors (xa_cons (xe_var 0) (xa_cons (xe_var 7) (xa_1 (xe_var 5))))) (by
            simp only [li, List.length_map]
            omega)) (by
            rw [laterM_take hf2', other]
            simp [li])) (xs_then (xs_turn (fun σ H h => h) ⟨rfl, _, _, _, rfl⟩)) sc__law_by.nd
    · rintro Γ2 Rs2 ⟨rfl, a7, a8, a9, rfl⟩
      rw [hl _, List.take_length]
      have hlt := laterM_len (b := b) (k := k) (r := r) h9' fl
      refine xs_asg 4 (P := PD K (eL (leftM g b k (rows.take (t + 1)) st))) (YE.dat (xe_sortSet (R := behBy g b k r fl) T.z_sorted T.z_set (xe_var 6) (by omega) ((rgI_up _).sublist List.filter_sublist) (by
        have := behBy_len (g := g) (b := b) (k := k) (r := r) (fl := fl)
        omega) fun z => ?_) (congrArg eL hnx)) (xs_turn (fun σ H h => h) ⟨rfl, _, _, _, _, _, rfl⟩) sc__law_by.nd
      rw [behBy_mem q2]
      unfold laterM
      rw [List.mem_flatMap]
  · rintro Γ1 Rs1 ⟨rfl, a5, a6, a7, a8, a9, rfl⟩
    refine xs_ret (YE.dat (xe_var 4) ?_) fun v H0 H s k hv => hQ v H0 H s k hv
    have e : ((rows.map fun r => PyData.tuple r.ds).map (PD K)).length = rows.length := by simp
    show eL (leftM g b k (rows.take ((rows.map fun r => PyData.tuple r.ds).map (PD K)).length) st) = _
    rw [e, List.take_length]
end
end K33
namespace Lh
open PySem L2
open Evl (Ex ex_l ex_t ex_rd fresh_back)
section
variable {M : Addr → Prop} {Γ Γ' : Ct} {Rs : List Res} {X : Cx} {Z0 Z Hl : Hp} {D : Ends} {K : PySem.W.Frag} {rest : List Stmt} {a b c e : Expr} {es : List Expr} {pos p : Pos}
/-- x, y, z = a, b, [], where x, y or z is also read further in -/
theorem xs_parC3 (i j m : Nat) {x y z : Str} {P Q : Pd} {px py pz pt pl : Pos} {kt k2 pt2} (ha : XE M Γ Rs X a P) (hb : XE M Γ Rs X b Q) (h : ∀ q, XS M (((Γ.set i (some P)).set j (some Q)).set m (some (PV (.ref q)))) (Res.lst Z q [] :: Rs) X Z0 Z Hl D rest) (hN : X.N.Nodup) (hc : X.calm = true := by rfl) (hx : X.N[i]? = some x := by rfl) (hy : X.N[j]? = some y := by rfl) (hz : X.N[m]? = some z := by rfl)
    (hl : Loc X.env.scope x := by first | exact Or.inl rfl | exact Or.inr rfl) (hl2 : Loc X.env.scope y := by first | exact Or.inl rfl | exact Or.inr rfl) (hl3 : Loc X.env.scope z := by first | exact Or.inl rfl | exact Or.inr rfl)
    (hf : X.fn x = true ∨ X.env.scope.names.lookup x = some .local := by first | exact .inl rfl | exact .inr rfl) (hf2 : X.fn y = true ∨ X.env.scope.names.lookup y = some .local := by first | exact .inl rfl | exact .inr rfl) (hf3 : X.fn z = true ∨ X.env.scope.names.lookup z = some .local := by first | exact .inl rfl | exact .inr rfl)
    (hs : swapsWithSole [.Tuple [.Name x px, .Name y py, .Name z pz] kt pt] (.Tuple [a, b, .List [] pl] k2 pt2) pos.line X.env = pure false := by rfl) (hw : swappedStores [.Tuple [.Name x px, .Name y py, .Name z pz] kt pt] (.Tuple [a, b, .List [] pl] k2 pt2) X.env = pure none := by rfl)
    (h1 : (assignEach [.Tuple [.Name x px, .Name y py, .Name z pz] kt pt] X.env).map (·.2) = [assign (.Tuple [.Name x px, .Name y py, .Name z pz] kt pt) X.env] := by rfl)
    (he : starEach [a, b, .List [] pl] X.env = (false, eval a X.env) :: starEach [b, .List [] pl] X.env := by rfl) (he1 : starEach [b, .List [] pl] X.env = (false, eval b X.env) :: starEach [.List [] pl] X.env := by rfl) (he2 : starEach [.List [] pl] X.env = (false, eval (.List [] pl) X.env) :: starEach [] X.env := by rfl) :
    XS M Γ Rs X Z0 Z Hl D (.Assign [.Tuple [.Name x px, .Name y py, .Name z pz] kt pt] (.Tuple [a, b, .List [] pl] k2 pt2) pos :: rest) :=
  xs_cons (ps_asg (pe_tup (pa_cons pe_wp (pa_cons pe_wp (pa_cons (pe_lst pa_nil) pa_nil he2) he1) he)) (pg_tup hc (pgs_cons (pg_name hN hx hl hf) (pgs_cons (pg_name hN hy hl2 hf2) (pgs_cons (pg_name hN hz hl3 hf3) pgs_nil)))) hs hw h1) fun σ H0 H l s k0 r => ha σ H0 H l s.le r _ fun v H1 G1 s1 k1 a1 => hb σ H1 G1 (l.ex s1.ex) s1.le k1 _ fun u H2 G2 s2 k2 a2 => ⟨show 0 ≤ sizeLine by decide, fun p hp => ⟨show 3 ≤ sizeLine by decide, fun t ht => by
    have t2 := (s.trans s1).trans s2
    have ne : ∀ r ∈ Rs, ∀ a ∈ r.ad, a ≠ p := fun r hr a ha e => by
      obtain ⟨⟨o, h1⟩, _⟩ := r.tr (k2.2 r hr) a ha
      rw [e, hp] at h1
      cases h1
    have hZ : Z p = none := by
      cases e : Z p with
      | none => rfl
      | some o =>
        obtain ⟨o', h'⟩ := t2.th p o e
        rw [hp] at h'
        cases h'
    have t3 : Step M Z0 Z H2 (upd G2 p (.lst [])) := ⟨fun a o hm ha => by
        rw [upd_ne (ne_of_none ha hZ)]
        exact t2.un a o hm ha, fun a o ha => by
        obtain ⟨o', h'⟩ := t2.th a o ha
        exact ⟨o', by rw [upd_ne (ne_of_none h' hp)]; exact h'⟩, t2.ex, fun a o ha => by
        rw [upd_ne (ne_of_none (t2.le a o ha) hp)]
        exact t2.le a o ha, t2.nw⟩
    have k3 : Rok (Res.lst Z p [] :: Rs) H2 (upd G2 p (.lst [])) := ⟨by
        rw [List.flatMap_cons, List.nodup_append]
        refine ⟨by simp [Res.lst], k2.1, fun a ha c hc e => ?_⟩
        have e1 : a = p := by simpa [Res.lst] using ha
        obtain ⟨r, hr, hc⟩ := List.mem_flatMap.mp hc
        exact ne r hr c hc (e ▸ e1), fun r hr => by
        obtain e | hr := List.mem_cons.mp hr
        · subst e
          exact ⟨hZ, fresh_back t2.le hp, [], upd_same, DAll.nil⟩
        · exact (k2.wr ne).2 r hr⟩
    have s4 := Step.new (M := M) (o := .tup [v, u, .ref p]) t3.le ht
    have s4' := Step.new (M := M0) (o := .tup [v, u, .ref p]) t3.le ht
    have ee := (s1.ex.trans s2.ex).trans s4.ex
    exact ⟨t, [v, u, .ref p], rfl, SqT.of upd_same, rfl, v, [u, .ref p], rfl, u, [.ref p], rfl, .ref p, [], rfl, rfl, h p _ _ _ ((((l.ex ee).set (P.m (s2.ex.trans s4.ex) a1)).set (Q.m s4.ex a2)).set rfl) (t3.trans s4) (k0.trans ee) (k3.step0 s4')⟩⟩⟩
end
end Lh
namespace Lh
open PySem L2
open Evl (Ex ex_l ex_t ex_rd fresh_back)
/-! ### over one of many, of any kind -/
def XIG {α : Type} (M : Addr → Prop) (Γ : Ct) (Rs : List Res) (X : Cx) (tg iter : Expr) (A : α → Prop) (Qf : α → List Pd) : Prop :=
  ∀ (σ : L2.St) (H0 H : Hp), Sl Γ σ H0 → Ex H0 H → Rok Rs H0 H → ∀ R : It → Hp → Prop, (∀ a, A a → ∀ J H0' H', Step M H0 H H0' H' → Rok Rs H0' H' → Wk J (Qf a) H0' → R J H') → wpI X tg iter σ H R
section
variable {M : Addr → Prop} {Γ Γ' : Ct} {Rs : List Res} {X : Cx} {Z0 Z Hl : Hp} {D : Ends} {K : PySem.W.Frag} {rest : List Stmt} {α : Type} {A : α → Prop} {a b c e : Expr} {pos p : Pos} {i j lo hi : Int}
theorem xi_listG {f : α → List PyData} {tg : Expr} (h : XE M Γ Rs X e (PEx A fun a => PD X.K (.list (f a)))) : XIG M Γ Rs X tg e A (fun a => (f a).map (PD X.K)) := fun σ H0 H l ex k R r => PI.wp (pi_list pe_wp) (h σ H0 H l ex k _ fun v H1 G1 s1 k1 ⟨a, ha, q, xs, e1, h1, h2⟩ =>
  ⟨q, e1, ⟨xs, ex_l s1.le (SqL.of h1)⟩, r a ha _ H1 G1 s1 k1 (wk_list (SqL.of h1) h2)⟩)
theorem xi_tupG {f : α → List PyData} {tg : Expr} (h : XE M Γ Rs X e (PEx A fun a => PD X.K (.tuple (f a)))) : XIG M Γ Rs X tg e A (fun a => (f a).map (PD X.K)) := fun σ H0 H l ex k R r => PI.wp (pi_tup pe_wp) (h σ H0 H l ex k _ fun v H1 G1 s1 k1 ⟨a, ha, q, xs, e1, h1, h2⟩ =>
  ⟨q, e1, ⟨xs, ex_t s1.le h1⟩, r a ha _ H1 G1 s1 k1 (wk_tup h1 h2)⟩)
/-- for x in one of many -/
theorem xs_forG (i : Nat) {x : Str} {iter : Expr} {body : List Stmt} {Qf : α → List Pd} {xp : Pos} (hi : XIG M Γ Rs X (.Name x xp) iter A Qf) (J : Nat → Ct → List Res → Prop) (h0 : J 0 Γ Rs)
    (hb : ∀ a, A a → ∀ (t : Nat) (Q : Pd) (Γ1 : Ct) (Rs1 : List Res), (Qf a)[t]? = some Q → J t Γ1 Rs1 → ∀ Hs, XS M (Γ1.set i (some Q)) Rs1 X Z0 Z Hs { D with nx := KJ M Z0 Z Hs J (t + 1), ct := KJ M Z0 Z Hs J (t + 1), bk := wpB X rest D } body)
    (hd : ∀ a, A a → ∀ Γ1 Rs1, J (Qf a).length Γ1 Rs1 → XS M Γ1 Rs1 X Z0 Z Hl D rest) (hN : X.N.Nodup) (hp : PassesOwn (model X.prog X.w) X.A X.env X.xe := by exact PassesOwn.never) (hx : X.N[i]? = some x := by rfl) (hl : Loc X.env.scope x := by first | exact Or.inl rfl | exact Or.inr rfl)
    (hf : X.fn x = true ∨ X.env.scope.names.lookup x = some .local := by first | exact .inl rfl | exact .inr rfl) (hc : X.calm = true := by rfl) (hs : ∀ x, foldedSetIterable iter X.env x = pure x := by intro _; rfl) : XS M Γ Rs X Z0 Z Hl D (.For (.Name x xp) iter body [] pos :: rest) := by
  refine xs_cons (ps_for hp hc pi_wp (pg_name hN hx hl hf) pss_wp hs) fun σ H0 H l s b k => hi σ H0 H l s.le k _ fun a ha I H1 G1 s1 k1 wk => ?_
  refine ⟨fun n m σ' G => m = (Qf a).length - n ∧ n ≤ (Qf a).length ∧ KJ M Z0 Z H1 J n σ' G, ⟨_, rfl, Nat.zero_le _, Γ, Rs, H1, h0, Ex.refl _, l.ex s1.ex, s.trans s1, k1⟩, ?_⟩
  rintro n m σ' G ⟨rfl, hn, Γ1, Rs1, H2, j, e2, l2, s2, k2⟩
  have w := wk H2 G e2 s2.le n
  rcases Nat.lt_or_ge n (Qf a).length with hlt | hge
  · obtain ⟨go, yl⟩ := w.1 _ (List.getElem?_eq_getElem hlt)
    refine .inr ⟨go, KJ M Z0 Z H1 J (n + 1), fun σ3 G3 h3 => ⟨_, Nat.sub_lt_sub_left hlt (Nat.lt_succ_self n), rfl, hlt, h3⟩, fun y G3 yy => ?_⟩
    obtain ⟨H3, s3, hy⟩ := yl y G3 yy
    exact gv_name y σ' H3 G3 (l2.ex s3.ex) s3.le hy _ fun σ4 l4 => hb a ha n _ Γ1 Rs1 (List.getElem?_eq_getElem hlt) j H1 σ4 H3 G3 l4 (s2.trans s3.of0) (e2.trans s3.ex) (k2.step0 s3)
  · have e := Nat.le_antisymm hn hge
    subst e
    exact .inl ⟨w.2 rfl, hd a ha Γ1 Rs1 j σ' H2 G l2 s2 ((b.trans s1.ex).trans e2) k2⟩
/-! ### drawn numbers -/
theorem xe_subIn (ha : XE M Γ Rs X a (PIn K lo hi)) (hb : XE M Γ Rs X b (PD K (.int j))) : XE M Γ Rs X (.BinOp a .Sub b pos) (PIn K (lo - j) (hi - j)) := xe_bin op_sub ha hb fun x y H0 H ⟨n, hn, hx⟩ hy e _ => fun Q q =>
  (yl_I0 (g := fun i j => .int (i - j)) (d := .int (n - j)) (fun _ => rfl) hx hy e) Q fun v H0' H' s p => q v H0' H' s ⟨n - j, ⟨by omega, by omega⟩, p⟩
theorem xe_maxIn (hm : X.mg "max" = none) (h : XE M Γ Rs X a (PD K (.int i))) (h' : XE M Γ Rs X b (PIn K lo hi)) (hc : X.calm = true := by rfl) (hg : Gl X "max" := by rfl) (he : starEach [a, b] X.env = (false, eval a X.env) :: starEach [b] X.env := by rfl) (he2 : starEach [b] X.env = (false, eval b X.env) :: starEach [] X.env := by rfl) (hpl : (backTo pos (starEach [b] X.env)).any (·.1) = false := by rfl) :
    XE M Γ Rs X (.Call (.Name "max" p) [a, b] [] pos) (PEx (fun m : Int => i ≤ m ∧ (m = i ∨ m < hi)) fun m => PD K (.int m)) :=
  xe_callB (call_max2 hc) hm (by decide +kernel) (xa_cons h (xa_1 h' he2) he) (fun xs H0 H hx e _ => by
    obtain ⟨x, y, e1, q1, ⟨n, hn, q2⟩⟩ := da2 hx
    have q1' : x = .int i := q1
    have q2' : y = .int n := q2
    subst e1 q1' q2'
    have h0 : lo ≤ n ∧ n < hi := hn
    exact Yld.val (z := .int (max i n)) e ⟨max i n, by omega, rfl⟩ fun Q k => ⟨i, n, rfl, by rw [show (if n > i then n else i) = max i n by omega]; exact k⟩) hg (by decide) (by decide) he hpl
/-! ### a list at hand: what has come is opened -/
theorem xs_lastE {q : Addr} {Ps : List Pd} {P : α → Pd} (h : ∀ a, A a → XS M Γ (Res.lst Z q (Ps ++ [P a]) :: Rs) X Z0 Z Hl D rest) : XS M Γ (Res.lst Z q (Ps ++ [PEx A P]) :: Rs) X Z0 Z Hl D rest := fun σ H0 H l s b k => by
  obtain ⟨h1, h2, xs, h3, hlen, hat⟩ := k.2 _ List.mem_cons_self
  obtain ⟨v, hv, w, hw, hp⟩ := hat Ps.length (PEx A P) (by simp)
  refine h w hw σ H0 H l s b ⟨k.1, fun r hr => ?_⟩
  rcases List.mem_cons.mp hr with e | hr
  · subst e
    refine ⟨h1, h2, xs, h3, by simpa using hlen, fun n Q hq => ?_⟩
    rcases Nat.lt_or_ge n Ps.length with hn | hn
    · exact hat n Q (by rw [List.getElem?_append_left hn] at hq ⊢; exact hq)
    · have e : n = Ps.length := by
        have := (List.getElem?_eq_some_iff.mp hq).1
        simp at this
        omega
      subst e
      have e2 : P w = Q := by simpa using hq
      subst e2
      exact ⟨v, hv, hp⟩
  · exact k.2 r (List.mem_cons_of_mem _ hr)
end
end Lh
namespace K33
open PySem L2 Lh
/-! ### slack 0, and the floors at the end -/
theorem next_zero {g b : List Int} {r : Row} {f o : Int} (hr : r.Ok g) : o ∈ nextBy g b 0 r f ↔ o ∈ nextF g b r f := by
  cases r with
  | go s =>
    have hs : 1 ≤ s := (show 1 ≤ s ∧ s ≤ 81 from hr).1
    show o ∈ (((rgI 0 (g.length + 1)).filter fun o => !decide (o = f)).filter fun o => decide ((if far g f o - s < 0 then -(far g f o - s) else far g f o - s) ≤ 0)) ↔ o ∈ (rgI 0 (g.length + 1)).filter fun o => decide (far g f o = s)
    rw [List.mem_filter, List.mem_filter, List.mem_filter, decide_eq_true_eq, decide_eq_true_eq]
    constructor
    · rintro ⟨⟨h1, _⟩, h2⟩
      refine ⟨h1, ?_⟩
      by_cases h : far g f o - s < 0
      · rw [if_pos h] at h2
        omega
      · rw [if_neg h] at h2
        omega
    · rintro ⟨h1, h2⟩
      refine ⟨⟨h1, ?_⟩, ?_⟩
      · by_cases e : o = f
        · subst e
          rw [far_self] at h2
          omega
        · rw [decide_eq_false e]
          rfl
      · rw [h2, Int.sub_self]
        decide
  | gap => exact Iff.rfl
  | door => exact Iff.rfl
  | bell u => exact Iff.rfl
  | look l => exact Iff.rfl
theorem by_zero {g b : List Int} {r : Row} {fl : List Int} (hr : r.Ok g) : behBy g b 0 r fl = behR g b r fl := by
  unfold behBy behR
  refine List.filter_congr fun o _ => ?_
  congr 1
  funext f
  exact decide_eq_decide.mpr (next_zero hr)
theorem left_zero {g b : List Int} : ∀ {rows : List Row} {fl : List Int}, (∀ r ∈ rows, r.Ok g) → leftM g b 0 rows fl = behM g b rows fl
  | [], _, _ => rfl
  | r :: rows, fl, h => by
    show leftM g b 0 rows (behBy g b 0 r fl) = behM g b rows (behR g b r fl)
    rw [by_zero (h r List.mem_cons_self), left_zero fun r' hr => h r' (List.mem_cons_of_mem _ hr)]
theorem left_sub {g b : List Int} {k : Int} : ∀ {rows : List Row} {fl : List Int}, fl.Sublist (rgI 0 (g.length + 1)) → (leftM g b k rows fl).Sublist (rgI 0 (g.length + 1))
  | [], _, h => h
  | r :: rows, fl, _ => left_sub (rows := rows) (fl := behBy g b k r fl) List.filter_sublist
theorem at_end {g b st : List Int} {rows : List Row} (hs : st.Sublist (rgI 0 (g.length + 1))) (hok : ∀ r ∈ rows, r.Ok g) : atL g b st rows rows.length = leftM g b 0 rows st := by
  have hrg : ∀ x ∈ st, 0 ≤ x ∧ x ≤ g.length := fun x hx => fl_in (hs.subset hx)
  have nd : (rgI 0 (g.length + 1)).Nodup := (rgI_up _).imp fun h => Int.ne_of_lt h
  rw [← filter_of_sub (left_sub (b := b) (k := 0) (rows := rows) hs) nd]
  unfold atL
  refine List.filter_congr fun f hf => decide_eq_decide.mpr ?_
  have hfr := fl_in hf
  rw [left_zero hok, beh_iff rows hrg]
  show 0 < upM g b st rows rows.length f * S g b (rows.drop rows.length) f ↔ _
  have e : S g b (rows.drop rows.length) f = 1 := by
    rw [List.drop_length]
    exact headM_nil_at hfr.1 hfr.2
  rw [e, Int.mul_one]
  unfold upM
  rw [List.take_length]
theorem mix_ad {b l a : Addr} (h : MB b l a) : a ∈ (Res.mix b l).ad := by
  have h' : a = b ∨ a = l := h
  simpa [Res.mix] using h'
end K33
namespace K33
open PySem L2 Lh
section
variable {K : PySem.W.Frag} {mg : Str → Option Value} {base : Heap} {P : Program} {w : World}
theorem ok_law (T : Txt K mg) : FnOk P w K mg base CX0 9 T.f_law T.d_law ["_law_script"] (spLaw K) := by
  refine fn_L63 T.F_law sc_law rfl fun ns hl Z0 Z Q X qX hQ => ?_
  obtain ⟨cdv, A, outer, s, E, rfl, hr⟩ := qX
  have fin : ∀ (v : V) (H0 H : Hp), (PD K (.bool true)).p v H0 → Q v H := fun v H0 H h => by
    have e : v = .bl true := h
    subst e
    exact hQ H
  have n15 : (1 : Int) ≤ 5 := by decide
  have n59 : (5 : Int) ≤ 9 := by decide
  have m9 : (0 : Int) ≤ 9 := by decide
  have m99 : (9 : Int) ≤ 900 := by decide
  refine xs_mixed 1 (ok_law_mix T) (hr.mono (by decide)) T.g__law_mix T.F__law_mix.kp T.b__law_mix hl (xe_var 0) (xe_int (K := K)) (fun bx l hne zb zl => ?_) sc_law.nd
  refine xs_weak (M' := MB bx l) (fun _ h => h.elim) ?_
  refine xs_forN 2 (xi_range1 (K := K) T.z_range xe_int (by decide)) (fun t Γ1 Rs1 => (∃ a2 a3 a4 a5 a6 a7 a8 a9 a10 a11, Γ1 = [some (PSc K ns), some (PV (.ref bx)), a2, a3, a4, a5, a6, a7, a8, a9, a10, a11]) ∧ Rs1 = [Res.mix bx l]) ⟨⟨none, none, none, none, none, none, none, none, none, none, rfl⟩, rfl⟩ ?_ ?_ sc_law.nd
  · rintro t Qt Γ1 Rs1 hq ⟨⟨a2, a3, a4, a5, a6, a7, a8, a9, a10, a11, rfl⟩, rfl⟩ Hs
    -- the house
    refine xs_asgE 3 (A := fun q : List Int × List Int => LowHouse q.1 q.2) (P := fun q => PD K (drawnD q.1 q.2)) (xe_callM (ok_law_house T) (hr.mono (by decide)) T.g__law_house T.F__law_house.kp T.b__law_house (xa_cons (xe_var 1) (xa_1 (xe_int (K := K) (i := 5)))) (fun vs H h => ⟨⟨((bx, l), 5), n15, n59⟩, h, rfl, fun _ h => h, fun _ h => mix_ad h, fun v H ⟨q, hq, hv⟩ => ⟨q, ⟨hq.1, hq.2.2⟩, hv⟩⟩)) (fun q hh => ?_) sc_law.nd
    obtain ⟨g, b⟩ := q
    have hlow : LowHouse g b := hh
    have hh' : HouseOk g b := hlow.1
    have h9 := hh'.gaps.nine
    -- start, house, log
    refine xs_parC3 4 5 6 (P := PEx (fun st : List Int => st.Sublist (rgI 0 (g.length + 1)) ∧ st ≠ []) fun st => PD K (.tuple (li st))) (Q := PHo K T.C_House g b)
      (xe_callM (ok_law_start T) (hr.mono (by decide)) T.g__law_start T.F__law_start.kp T.b__law_start (xa_cons (xe_var 1) (xa_1 (xe_var 3))) (fun vs H h => ⟨⟨((bx, l), g, b), h9⟩, h, rfl, fun _ h => h, fun _ h => mix_ad h, fun _ _ h => h⟩))
      (xe_make T.k_House (ok_House_init T) (hr.mono (by decide)) T.g_House T.b_House_init (xa_cons (xe_ixT (d := .tuple (li g)) (xe_var 3) xe_int rfl) (xa_1 (xe_ixT (d := .tuple (li b)) (xe_var 3) xe_int rfl))) (fun vs H h => ⟨⟨(g, b), hh'⟩, h, fun _ _ h => h⟩) cov_mix) (fun q => ?_) sc_law.nd
    refine xs_slot 4 rfl fun st hst0 => ?_
    obtain ⟨hst, hne⟩ := hst0
    have hrg : ∀ x ∈ st, 0 ≤ x ∧ x ≤ g.length := fun x hx => fl_in (hst.subset hx)
    have hsz : st.length ≤ 10 := by
      have := hst.length_le
      rw [rgI_len] at this
      omega
    have hnd : st.Nodup := ((rgI_up _).sublist hst).imp fun h => Int.ne_of_lt h
    refine xs_swap ?_
    -- the log
    refine xs_forG 7 (A := fun rows : List Row => (∀ r ∈ rows, r.Lo g) ∧ (rows.length : Int) ≤ 9) (xi_listG (f := fun rows : List Row => rows.map rowD) (xe_callM (ok_law_log T) (C := PEx (fun rows : List Row => (∀ r ∈ rows, r.Lo g) ∧ (rows.length : Int) ≤ 9) fun rows => PD K (.list (rows.map rowD))) (hr.mono (by decide)) T.g__law_log T.F__law_log.kp T.b__law_log (xa_cons (xe_var 1) (xa_cons (xe_var 3) (xa_cons (xe_var 4) (xa_1 (xe_int (K := K) (i := 9)))))) (fun vs H h => ⟨⟨(((bx, l), g, b), st, 9), hlow, ⟨hst, hne⟩, m9, m99⟩, h, rfl, fun _ h => h, fun _ h => mix_ad h, fun _ _ h => h⟩)))
      (fun t Γ1 Rs1 => ∃ (rows : List Row) (a7 a8 : Option Pd), (∀ r ∈ rows, r.Ok g) ∧ rows.length = t ∧ Γ1 = [some (PSc K ns), some (PV (.ref bx)), some Qt, some (PD K (drawnD g b)), some (PD K (.tuple (li st))), some (PHo K T.C_House g b), some (PV (.ref q)), a7, a8, a9, a10, a11] ∧ Rs1 = [Res.mix bx l, Res.lst Z q ((rows.map rowD).map (PD K))]) ⟨[], a7, a8, (fun r hr => by cases hr), rfl, rfl, rfl⟩ ?_ ?_ sc_law.nd
    · rintro rows0 ⟨hlo, hl9⟩ t1 Qt1 Γ1 Rs1 hq1 ⟨rows, a7, a8, hok, hlen, rfl, rfl⟩ Hs1
      obtain ⟨d, hd, rfl⟩ := map_at hq1
      rw [List.getElem?_map] at hd
      obtain ⟨r, hrr, rfl⟩ := Option.map_eq_some_iff.mp hd
      have hrl : r.Lo g := hlo r (List.mem_of_getElem? hrr)
      have ht1 : t1 < rows0.length := (List.getElem?_eq_some_iff.mp hrr).1
      refine xs_asgE 8 (A := BAnd (Is (decide (r.kind = "go"))) fun _ => True) (P := fun u => PD K (.bool u)) (xe_and (YE.pb (xe_eqS (K := K) (xe_ixT (xe_var 7) xe_int r.k0) xe_str)) fun _ => xe_eqIn (xe_next T (hr.mono (by decide)) (xe_var 1) xe_int (by decide) (by decide) (fun _ h => h)) (xe_int (K := K))) (fun u hu => ?_) sc_law.nd
      refine xs_swap ?_
      refine xs_app (q := q) (P := PEx (fun r2 : Row => r2.Ok g) fun r2 => PD K (rowD r2)) (xe_var 6) (xe_ifx (xt_bool (K := K) (xe_var 8)) (fun hb => ?_) fun _ => YE.imp (xe_var 7) fun v H h => ⟨r, hrl.ok, h⟩) (by rw [List.length_map, List.length_map]; omega) ?_ (pe_bm PySem.F.plainAttrs_list PySem.F.slot_list_append PySem.F.type_list_append mt_append pe_wp (pa_cons pe_wp pa_nil))
      · have hk : r.kind = "go" := by
          have hu1 : true = u := hb
          rcases hu with ⟨_, h⟩ | ⟨h, _⟩
          · rw [← hu1] at h
            cases h
          · exact of_decide_eq_true (show true = decide (r.kind = "go") from h).symm
        obtain ⟨s', rfl⟩ := Row.is_go hk
        have hs' : 1 ≤ s' ∧ s' ≤ 40 := hrl
        refine ye_swap ?_
        refine YE.imp (xe_tupP (K := K) (Ps := [PD K (.str "go"), PEx (fun m : Int => 1 ≤ m ∧ (m = 1 ∨ m < s' + 9 - 4)) fun m => PD K (.int m)]) (xa_cons xe_str (xa_1 (xe_maxIn T.z_max xe_int (xe_subIn (xe_addIn (xe_ixT (d := .int s') (xe_var 7) xe_int rfl) (xe_next T (hr.mono (by decide)) (xe_var 1) xe_int (by decide) (by decide) (fun _ h => h))) xe_int)))) (by simp)) fun v H h => ?_
        obtain ⟨a, x, y, e, q1, q2, ⟨k, hk, q3⟩⟩ := PTs.two h
        have hk' : 1 ≤ k ∧ (k = 1 ∨ k < s' + 9 - 4) := hk
        exact ⟨.go k, ⟨hk'.1, by omega⟩, a, [x, y], e, q1, x, [y], rfl, q2, y, [], rfl, q3, rfl⟩
      · refine xs_lastE fun r2 hr2 => xs_swap (xs_turn (fun σ H h => h) ⟨rows ++ [r2], _, _, fun r' hr' => ?_, by simp [hlen], rfl, by simp⟩)
        rcases List.mem_append.mp hr' with h | h
        · exact hok r' h
        · have e : r' = r2 := by simpa using h
          subst e
          exact hr2
    · rintro rows0 ⟨hlo, hl9⟩ Γ1 Rs1 ⟨rows, a7, a8, hok, hlen, rfl, rfl⟩
      have hz9 : rows.length ≤ 9 := by
        rw [hlen, List.length_map, List.length_map]
        omega
      have hear : HearOk g st rows := ⟨h9, hrg, by omega, hok, by omega⟩
      have hup : UpOk g st rows := ⟨h9, by omega, hrg, hnd, hsz⟩
      refine xs_swap (xs_frzK 6 rfl rfl ?_)
      have ecnt : (rgI 0 ((10 : Int)).toNat) = rgI 0 10 := rfl
      -- by the law's own reckoning
      refine xs_asg 9 (P := PD K (.list ((rgI 0 10).map fun k => eL (leftM g b k rows st)))) (xe_mapI 10 (fun k => eL (leftM g b k rows st)) (xi_range1 (K := K) (n := 10) T.z_range xe_int (by decide)) (fun k hk s0 H0 C cl fp => by
        exact xe_callD (ok_law_by T) ⟨((g, b), (st, rows), k), h9, hst, hok⟩ (hr.mono (by decide)) T.g__law_by T.F__law_by.kp T.b__law_by (xa_cons (xe_var 3) (xa_cons (xe_var 4) (xa_cons (xe_var 6) (xa_1 (xe_var 10)))))) sc_law.nd (blkOk_by rfl) (by decide) cov_mix (fun _ _ _ _ _ => pg_name (i := 10) sc_law.nd rfl (Or.inl rfl))) ?_ sc_law.nd
      have hat : ∀ k : Int, 0 ≤ k ∧ k ≤ 9 → atI ((rgI 0 10).map fun k => eL (leftM g b k rows st)) k = some (eL (leftM g b k rows st)) := fun k hk => by
        have ek : k = (k.toNat : Int) := by omega
        have hg : (rgI 0 10)[k.toNat]? = some k := by
          unfold rgI
          rw [List.getElem?_map, List.getElem?_range (by omega)]
          show some (0 + ((k.toNat : Nat) : Int)) = some k
          rw [← ek, Int.zero_add]
        have h := atI_nat (xs := (rgI 0 10).map fun k => eL (leftM g b k rows st)) (v := eL (leftM g b k rows st)) (j := k.toNat) (by rw [List.getElem?_map, hg]; rfl)
        rw [← ek] at h
        exact h
      have hll : ∀ k, (leftM g b k rows st).length ≤ 10 := fun k => by
        have h := (leftM_ok (b := b) (k := k) (rows := rows) h9 hrg hsz rows.length).1
        rw [List.take_length] at h
        exact h
      -- three slacks
      refine xs_forG 10 (A := fun ks : List Int => ∀ k ∈ ks, 0 ≤ k ∧ k ≤ 9) (xi_tupG (f := fun ks => li ks) (YE.imp (xe_tupP (K := K) (Ps := [PD K (.int 0), PIn K 0 4, PIn K 0 10]) (xa_cons xe_int (xa_cons (xe_next T (hr.mono (by decide)) (xe_var 1) xe_int (by decide) (by decide) (fun _ h => h)) (xa_1 (xe_next T (hr.mono (by decide)) (xe_var 1) xe_int (by decide) (by decide) (fun _ h => h))))) (by simp)) (fun v H h => ?_)))
        (fun u Γ3 Rs3 => (∃ a10, Γ3 = [some (PSc K ns), some (PV (.ref bx)), some Qt, some (PD K (drawnD g b)), some (PD K (.tuple (li st))), some (PHo K T.C_House g b), some (PD K (logD rows)), a7, a8, some (PD K (.list ((rgI 0 10).map fun k => eL (leftM g b k rows st)))), a10, a11]) ∧ Rs3 = [Res.mix bx l]) ⟨⟨_, rfl⟩, rfl⟩ ?_ ?_ sc_law.nd
      · obtain ⟨a, xs, e, q1, q2⟩ := h
        obtain ⟨x1, r1, e1, y1, q2⟩ := q2.inv
        obtain ⟨x2, r2, e2, ⟨m2, hm2, y2⟩, q2⟩ := q2.inv
        obtain ⟨x3, r3, e3, ⟨m3, hm3, y3⟩, q2⟩ := q2.inv
        have e4 := q2.nil_inv
        subst e1 e2 e3 e4
        have b2 : 0 ≤ m2 ∧ m2 < 4 := hm2
        have b3 : 0 ≤ m3 ∧ m3 < 10 := hm3
        refine ⟨[0, m2, m3], fun k hk => ?_, a, [x1, x2, x3], e, q1, x1, _, rfl, y1, x2, _, rfl, y2, x3, [], rfl, y3, rfl⟩
        have hk' : k = 0 ∨ k = m2 ∨ k = m3 := by simpa using hk
        omega
      · rintro ks hks u Qu Γ3 Rs3 hq3 ⟨⟨a10, rfl⟩, rfl⟩ Hs3
        obtain ⟨d3, hd3, rfl⟩ := map_at hq3
        obtain ⟨k, hk, rfl⟩ := li_at hd3
        have hkr := hks k (List.mem_of_getElem? hk)
        exact xs_skip (YT.eq (xt_notB (u := true) (xt_bool (K := K) (xe_callD (ok_alike_list T) ⟨leftM g b k rows st, by have := hll k; omega⟩ (hr.mono (by decide)) T.g__law_alike T.F__law_alike.kp T.b__law_alike (xa_cons (xe_callD (ok_floors_by T) ⟨((g, b), (st, rows), k), hear, hsz, hkr.1, hkr.2⟩ (hr.mono (by decide)) T.g_floors_by T.F_floors_by.kp T.b_floors_by (xa_cons (xe_var 5) (xa_cons (xe_var 4) (xa_cons (xe_var 6) (xa_1 (xe_var 10)))))) (xa_1 (xe_ixL (xe_var 9) (xe_var 10) (hat k hkr))))))) rfl) (xs_turn (fun σ H h => h) ⟨⟨_, rfl⟩, rfl⟩)
      · rintro ks hks Γ3 Rs3 ⟨⟨a10, rfl⟩, rfl⟩
        -- the least slack
        refine xs_filtG PyData.int (rgI 0 10) 11 10 (fun n => .int n) (fun k => !decide (leftM g b k rows st = [])) (xi_range1 (K := K) (n := 10) T.z_range xe_int (by decide)) (fun k hk s0 H0 C cl fp => by
          have hk' := mem_rgI.mp hk
          exact xt_neLi hr (xe_ixL (xe_var 9) (xe_var 10) (hat k ⟨by omega, by omega⟩)) (YE.dat (xe_lst (ds := []) xa_nil (by simp)) rfl)) (fun k hk _ s0 H0 C cl fp => by exact xe_var 10) ?_ sc_law.nd (blkOk_by rfl) (by decide) cov_mix (fun _ _ _ _ _ => pg_name (i := 10) sc_law.nd rfl (Or.inl rfl)) rfl
        have hsl : ((rgI 0 10).filter fun k => !decide (leftM g b k rows st = [])) = slacksM g b st rows := by
          unfold slacksM
          refine List.filter_congr fun k _ => ?_
          cases leftM g b k rows st with
          | nil => rfl
          | cons _ _ => rfl
        rw [hsl]
        refine xs_skip (YT.eq (xt_notB (u := true) (xt_bool (K := K) ?_)) rfl) ?_
        · cases hs : slacksM g b st rows with
          | nil =>
            exact xe_callD (ok_alike_none T) () (hr.mono (by decide)) T.g__law_alike T.F__law_alike.kp T.b__law_alike (xa_cons (YE.dat (xe_callD (ok_least_slack T) ⟨((g, b), st, rows), hear, hsz⟩ hr T.g_least_slack T.F_least_slack.kp T.b_least_slack (xa_cons (xe_var 5) (xa_cons (xe_var 4) (xa_1 (xe_var 6))))) (by
              show firstD (slacksM g b st rows) = .none
              rw [hs]
              rfl)) (xa_1 (xe_ifx (xt_neLi (ns := []) (ms := []) hr (xe_var 11) (YE.dat (xe_lst (ds := []) xa_nil (by simp)) rfl)) (fun h => Bool.noConfusion (show true = false from h)) fun _ => xe_non)))
          | cons k0 ks0 =>
            exact xe_callD (ok_alike_int T) k0 (hr.mono (by decide)) T.g__law_alike T.F__law_alike.kp T.b__law_alike (xa_cons (YE.dat (xe_callD (ok_least_slack T) ⟨((g, b), st, rows), hear, hsz⟩ hr T.g_least_slack T.F_least_slack.kp T.b_least_slack (xa_cons (xe_var 5) (xa_cons (xe_var 4) (xa_1 (xe_var 6))))) (by
              show firstD (slacksM g b st rows) = .int k0
              rw [hs]
              rfl)) (xa_1 (xe_ifx (xt_neLi (ns := k0 :: ks0) (ms := []) hr (xe_var 11) (YE.dat (xe_lst (ds := []) xa_nil (by simp)) rfl)) (fun _ => xe_ixL (xe_var 11) xe_int (atI_nat (xs := (k0 :: ks0).map fun n => PyData.int n) (j := 0) rfl)) fun h => by
                have h' : false = !decide (k0 :: ks0 = []) := h
                simp at h')))
        -- the floors at the end
        refine xs_skip (YT.eq (xt_neLi hr (xe_callD (ok_floors_at T) ⟨((g, b), (st, rows), rows.length), hear, hup, Nat.le_refl _⟩ hr T.g_floors_at T.F_floors_at.kp T.b_floors_at (xa_cons (xe_var 5) (xa_cons (xe_var 4) (xa_cons (xe_var 6) (xa_1 (YE.dat (xe_lenL T.z_len (xe_var 6)) (by simp))))))) (xe_ixL (xe_var 9) xe_int (hat 0 (by decide)))) ?_) (xs_turn (fun σ H h => h) ⟨⟨_, _, _, _, _, _, _, _, _, _, rfl⟩, rfl⟩)
        show (!decide (atL g b st rows rows.length = leftM g b 0 rows st)) = false
        rw [at_end hst hok]
        simp
  · rintro Γ1 Rs1 ⟨⟨a2, a3, a4, a5, a6, a7, a8, a9, a10, a11, rfl⟩, rfl⟩
    exact xs_ret (xe_bl (K := K)) fun v H0 H s k hv => fin v H0 H hv
end
end K33
namespace K33
open PySem L2 Lh
/-! ### the end -/
theorem all_mk {P : Program} {w : World} {K : PySem.W.Frag} {h : Heap} {mg : Str → Option Value} {fa : Addr} {C_House f_check_gaps f_check_bells f_check_floors f_is_row_of f_check_log f_check_hearing f_next_floors f_links_of f_numbers_ahead f_numbers_behind f_numbers_through f_floors_at f_next_floors_by f_floors_left f_floors_by f_least_slack f__law_mix f__law_next f__law_alike f__law_house f__law_far f__law_next_floors f__law_row f__law_log f__law_start f__law_by f_law f_House_init f_House_gaps f_House_bells f_House_floors f_House_len f_House_eq f_House_seconds p_House_gaps p_House_bells p_House_floors : Addr} {oc_check_gaps kV_check_gaps dc_check_gaps pm_check_gaps cd_check_gaps ct_check_gaps oc_check_bells kV_check_bells dc_check_bells pm_check_bells cd_check_bells ct_check_bells oc_check_floors kV_check_floors dc_check_floors pm_check_floors cd_check_floors ct_check_floors oc_is_row_of kV_is_row_of dc_is_row_of pm_is_row_of cd_is_row_of ct_is_row_of oc_check_log kV_check_log dc_check_log pm_check_log cd_check_log ct_check_log oc_check_hearing kV_check_hearing dc_check_hearing pm_check_hearing cd_check_hearing ct_check_hearing oc_next_floors kV_next_floors dc_next_floors pm_next_floors cd_next_floors ct_next_floors oc_links_of kV_links_of dc_links_of pm_links_of cd_links_of ct_links_of oc_numbers_ahead kV_numbers_ahead dc_numbers_ahead pm_numbers_ahead cd_numbers_ahead ct_numbers_ahead oc_numbers_behind kV_numbers_behind dc_numbers_behind pm_numbers_behind cd_numbers_behind ct_numbers_behind oc_numbers_through kV_numbers_through dc_numbers_through pm_numbers_through cd_numbers_through ct_numbers_through oc_floors_at kV_floors_at dc_floors_at pm_floors_at cd_floors_at ct_floors_at oc_next_floors_by kV_next_floors_by dc_next_floors_by pm_next_floors_by cd_next_floors_by ct_next_floors_by oc_floors_left kV_floors_left dc_floors_left pm_floors_left cd_floors_left ct_floors_left oc_floors_by kV_floors_by dc_floors_by pm_floors_by cd_floors_by ct_floors_by oc_least_slack kV_least_slack dc_least_slack pm_least_slack cd_least_slack ct_least_slack oc__law_mix kV__law_mix dc__law_mix pm__law_mix cd__law_mix ct__law_mix oc__law_next kV__law_next dc__law_next pm__law_next cd__law_next ct__law_next oc__law_alike kV__law_alike dc__law_alike pm__law_alike cd__law_alike ct__law_alike oc__law_house kV__law_house dc__law_house pm__law_house cd__law_house ct__law_house oc__law_far kV__law_far dc__law_far pm__law_far cd__law_far ct__law_far oc__law_next_floors kV__law_next_floors dc__law_next_floors pm__law_next_floors cd__law_next_floors ct__law_next_floors oc__law_row kV__law_row dc__law_row pm__law_row cd__law_row ct__law_row oc__law_log kV__law_log dc__law_log pm__law_log cd__law_log ct__law_log oc__law_start kV__law_start dc__law_start pm__law_start cd__law_start ct__law_start oc__law_by kV__law_by dc__law_by pm__law_by cd__law_by ct__law_by oc_law kV_law dc_law pm_law cd_law ct_law oc_House_init kV_House_init dc_House_init pm_House_init cd_House_init ct_House_init oc_House_gaps kV_House_gaps dc_House_gaps pm_House_gaps cd_House_gaps ct_House_gaps oc_House_bells kV_House_bells dc_House_bells pm_House_bells cd_House_bells ct_House_bells oc_House_floors kV_House_floors dc_House_floors pm_House_floors cd_House_floors ct_House_floors oc_House_len kV_House_len dc_House_len pm_House_len cd_House_len ct_House_len oc_House_eq kV_House_eq dc_House_eq pm_House_eq cd_House_eq ct_House_eq oc_House_seconds kV_House_seconds dc_House_seconds pm_House_seconds cd_House_seconds ct_House_seconds : Value} {od_check_gaps an_check_gaps od_check_bells an_check_bells od_check_floors an_check_floors od_is_row_of an_is_row_of od_check_log an_check_log od_check_hearing an_check_hearing od_next_floors an_next_floors od_links_of an_links_of od_numbers_ahead an_numbers_ahead od_numbers_behind an_numbers_behind od_numbers_through an_numbers_through od_floors_at an_floors_at od_next_floors_by an_next_floors_by od_floors_left an_floors_left od_floors_by an_floors_by od_least_slack an_least_slack od__law_mix an__law_mix od__law_next an__law_next od__law_alike an__law_alike od__law_house an__law_house od__law_far an__law_far od__law_next_floors an__law_next_floors od__law_row an__law_row od__law_log an__law_log od__law_start an__law_start od__law_by an__law_by od_law an_law od_House_init an_House_init od_House_gaps an_House_gaps od_House_bells an_House_bells od_House_floors an_House_floors od_House_len an_House_len od_House_eq an_House_eq od_House_seconds an_House_seconds : Option Addr} {sl_check_gaps sl_check_bells sl_check_floors sl_is_row_of sl_check_log sl_check_hearing sl_next_floors sl_links_of sl_numbers_ahead sl_numbers_behind sl_numbers_through sl_floors_at sl_next_floors_by sl_floors_left sl_floors_by sl_least_slack sl__law_mix sl__law_next sl__law_alike sl__law_house sl__law_far sl__law_next_floors sl__law_row sl__law_log sl__law_start sl__law_by sl_law sl_House_init sl_House_gaps sl_House_bells sl_House_floors sl_House_len sl_House_eq sl_House_seconds : Array (Option Value)} {r_House_gaps r_House_bells r_House_floors : List Value} {t_MOST_GAPS t_LONGEST_GAP t_LONGEST_GO t_MOST_SLACK : Tok} (X : K.In h) (G : h.Ns mainGlobals mg) (hfa : mg "law" = some (.ref fa))
    (A_House : PySem.W.nsIn K mainGlobals "House" = some (some (.ref C_House)))
    (A_check_gaps : PySem.W.nsIn K mainGlobals "check_gaps" = some (some (.ref f_check_gaps)))
    (L_check_gaps : K.lookup f_check_gaps = some ⟨oc_check_gaps, od_check_gaps, .func (PySem.W.fnOf "check_gaps" "check_gaps" (defArgs s_check_gaps) (defBody s_check_gaps) (defScope s_check_gaps) .none kV_check_gaps dc_check_gaps pm_check_gaps an_check_gaps cd_check_gaps ct_check_gaps), sl_check_gaps⟩)
    (Q_check_gaps : PySem.W.codeIn K cd_check_gaps "check_gaps" = true)
    (W_check_gaps : PySem.W.keepIn K (.ref f_check_gaps) = true)
    (A_check_bells : PySem.W.nsIn K mainGlobals "check_bells" = some (some (.ref f_check_bells)))
    (L_check_bells : K.lookup f_check_bells = some ⟨oc_check_bells, od_check_bells, .func (PySem.W.fnOf "check_bells" "check_bells" (defArgs s_check_bells) (defBody s_check_bells) (defScope s_check_bells) .none kV_check_bells dc_check_bells pm_check_bells an_check_bells cd_check_bells ct_check_bells), sl_check_bells⟩)
    (Q_check_bells : PySem.W.codeIn K cd_check_bells "check_bells" = true)
    (W_check_bells : PySem.W.keepIn K (.ref f_check_bells) = true)
    (A_check_floors : PySem.W.nsIn K mainGlobals "check_floors" = some (some (.ref f_check_floors)))
    (L_check_floors : K.lookup f_check_floors = some ⟨oc_check_floors, od_check_floors, .func (PySem.W.fnOf "check_floors" "check_floors" (defArgs s_check_floors) (defBody s_check_floors) (defScope s_check_floors) .none kV_check_floors dc_check_floors pm_check_floors an_check_floors cd_check_floors ct_check_floors), sl_check_floors⟩)
    (Q_check_floors : PySem.W.codeIn K cd_check_floors "check_floors" = true)
    (W_check_floors : PySem.W.keepIn K (.ref f_check_floors) = true)
    (A_is_row_of : PySem.W.nsIn K mainGlobals "is_row_of" = some (some (.ref f_is_row_of)))
    (L_is_row_of : K.lookup f_is_row_of = some ⟨oc_is_row_of, od_is_row_of, .func (PySem.W.fnOf "is_row_of" "is_row_of" (defArgs s_is_row_of) (defBody s_is_row_of) (defScope s_is_row_of) .none kV_is_row_of dc_is_row_of pm_is_row_of an_is_row_of cd_is_row_of ct_is_row_of), sl_is_row_of⟩)
    (Q_is_row_of : PySem.W.codeIn K cd_is_row_of "is_row_of" = true)
    (W_is_row_of : PySem.W.keepIn K (.ref f_is_row_of) = true)
    (A_check_log : PySem.W.nsIn K mainGlobals "check_log" = some (some (.ref f_check_log)))
    (L_check_log : K.lookup f_check_log = some ⟨oc_check_log, od_check_log, .func (PySem.W.fnOf "check_log" "check_log" (defArgs s_check_log) (defBody s_check_log) (defScope s_check_log) .none kV_check_log dc_check_log pm_check_log an_check_log cd_check_log ct_check_log), sl_check_log⟩)
    (Q_check_log : PySem.W.codeIn K cd_check_log "check_log" = true)
    (W_check_log : PySem.W.keepIn K (.ref f_check_log) = true)
    (A_check_hearing : PySem.W.nsIn K mainGlobals "check_hearing" = some (some (.ref f_check_hearing)))
    (L_check_hearing : K.lookup f_check_hearing = some ⟨oc_check_hearing, od_check_hearing, .func (PySem.W.fnOf "check_hearing" "check_hearing" (defArgs s_check_hearing) (defBody s_check_hearing) (defScope s_check_hearing) .none kV_check_hearing dc_check_hearing pm_check_hearing an_check_hearing cd_check_hearing ct_check_hearing), sl_check_hearing⟩)
    (Q_check_hearing : PySem.W.codeIn K cd_check_hearing "check_hearing" = true)
    (W_check_hearing : PySem.W.keepIn K (.ref f_check_hearing) = true)
    (A_next_floors : PySem.W.nsIn K mainGlobals "next_floors" = some (some (.ref f_next_floors)))
    (L_next_floors : K.lookup f_next_floors = some ⟨oc_next_floors, od_next_floors, .func (PySem.W.fnOf "next_floors" "next_floors" (defArgs s_next_floors) (defBody s_next_floors) (defScope s_next_floors) .none kV_next_floors dc_next_floors pm_next_floors an_next_floors cd_next_floors ct_next_floors), sl_next_floors⟩)
    (Q_next_floors : PySem.W.codeIn K cd_next_floors "next_floors" = true)
    (W_next_floors : PySem.W.keepIn K (.ref f_next_floors) = true)
    (A_links_of : PySem.W.nsIn K mainGlobals "links_of" = some (some (.ref f_links_of)))
    (L_links_of : K.lookup f_links_of = some ⟨oc_links_of, od_links_of, .func (PySem.W.fnOf "links_of" "links_of" (defArgs s_links_of) (defBody s_links_of) (defScope s_links_of) .none kV_links_of dc_links_of pm_links_of an_links_of cd_links_of ct_links_of), sl_links_of⟩)
    (Q_links_of : PySem.W.codeIn K cd_links_of "links_of" = true)
    (W_links_of : PySem.W.keepIn K (.ref f_links_of) = true)
    (A_numbers_ahead : PySem.W.nsIn K mainGlobals "numbers_ahead" = some (some (.ref f_numbers_ahead)))
    (L_numbers_ahead : K.lookup f_numbers_ahead = some ⟨oc_numbers_ahead, od_numbers_ahead, .func (PySem.W.fnOf "numbers_ahead" "numbers_ahead" (defArgs s_numbers_ahead) (defBody s_numbers_ahead) (defScope s_numbers_ahead) .none kV_numbers_ahead dc_numbers_ahead pm_numbers_ahead an_numbers_ahead cd_numbers_ahead ct_numbers_ahead), sl_numbers_ahead⟩)
    (Q_numbers_ahead : PySem.W.codeIn K cd_numbers_ahead "numbers_ahead" = true)
    (W_numbers_ahead : PySem.W.keepIn K (.ref f_numbers_ahead) = true)
    (A_numbers_behind : PySem.W.nsIn K mainGlobals "numbers_behind" = some (some (.ref f_numbers_behind)))
    (L_numbers_behind : K.lookup f_numbers_behind = some ⟨oc_numbers_behind, od_numbers_behind, .func (PySem.W.fnOf "numbers_behind" "numbers_behind" (defArgs s_numbers_behind) (defBody s_numbers_behind) (defScope s_numbers_behind) .none kV_numbers_behind dc_numbers_behind pm_numbers_behind an_numbers_behind cd_numbers_behind ct_numbers_behind), sl_numbers_behind⟩)
    (Q_numbers_behind : PySem.W.codeIn K cd_numbers_behind "numbers_behind" = true)
    (W_numbers_behind : PySem.W.keepIn K (.ref f_numbers_behind) = true)
    (A_numbers_through : PySem.W.nsIn K mainGlobals "numbers_through" = some (some (.ref f_numbers_through)))
    (L_numbers_through : K.lookup f_numbers_through = some ⟨oc_numbers_through, od_numbers_through, .func (PySem.W.fnOf "numbers_through" "numbers_through" (defArgs s_numbers_through) (defBody s_numbers_through) (defScope s_numbers_through) .none kV_numbers_through dc_numbers_through pm_numbers_through an_numbers_through cd_numbers_through ct_numbers_through), sl_numbers_through⟩)
    (Q_numbers_through : PySem.W.codeIn K cd_numbers_through "numbers_through" = true)
    (W_numbers_through : PySem.W.keepIn K (.ref f_numbers_through) = true)
    (A_floors_at : PySem.W.nsIn K mainGlobals "floors_at" = some (some (.ref f_floors_at)))
    (L_floors_at : K.lookup f_floors_at = some ⟨oc_floors_at, od_floors_at, .func (PySem.W.fnOf "floors_at" "floors_at" (defArgs s_floors_at) (defBody s_floors_at) (defScope s_floors_at) .none kV_floors_at dc_floors_at pm_floors_at an_floors_at cd_floors_at ct_floors_at), sl_floors_at⟩)
    (Q_floors_at : PySem.W.codeIn K cd_floors_at "floors_at" = true)
    (W_floors_at : PySem.W.keepIn K (.ref f_floors_at) = true)
    (A_next_floors_by : PySem.W.nsIn K mainGlobals "next_floors_by" = some (some (.ref f_next_floors_by)))
    (L_next_floors_by : K.lookup f_next_floors_by = some ⟨oc_next_floors_by, od_next_floors_by, .func (PySem.W.fnOf "next_floors_by" "next_floors_by" (defArgs s_next_floors_by) (defBody s_next_floors_by) (defScope s_next_floors_by) .none kV_next_floors_by dc_next_floors_by pm_next_floors_by an_next_floors_by cd_next_floors_by ct_next_floors_by), sl_next_floors_by⟩)
    (Q_next_floors_by : PySem.W.codeIn K cd_next_floors_by "next_floors_by" = true)
    (W_next_floors_by : PySem.W.keepIn K (.ref f_next_floors_by) = true)
    (A_floors_left : PySem.W.nsIn K mainGlobals "floors_left" = some (some (.ref f_floors_left)))
    (L_floors_left : K.lookup f_floors_left = some ⟨oc_floors_left, od_floors_left, .func (PySem.W.fnOf "floors_left" "floors_left" (defArgs s_floors_left) (defBody s_floors_left) (defScope s_floors_left) .none kV_floors_left dc_floors_left pm_floors_left an_floors_left cd_floors_left ct_floors_left), sl_floors_left⟩)
    (Q_floors_left : PySem.W.codeIn K cd_floors_left "floors_left" = true)
    (W_floors_left : PySem.W.keepIn K (.ref f_floors_left) = true)
    (A_floors_by : PySem.W.nsIn K mainGlobals "floors_by" = some (some (.ref f_floors_by)))
    (L_floors_by : K.lookup f_floors_by = some ⟨oc_floors_by, od_floors_by, .func (PySem.W.fnOf "floors_by" "floors_by" (defArgs s_floors_by) (defBody s_floors_by) (defScope s_floors_by) .none kV_floors_by dc_floors_by pm_floors_by an_floors_by cd_floors_by ct_floors_by), sl_floors_by⟩)
    (Q_floors_by : PySem.W.codeIn K cd_floors_by "floors_by" = true)
    (W_floors_by : PySem.W.keepIn K (.ref f_floors_by) = true)
    (A_least_slack : PySem.W.nsIn K mainGlobals "least_slack" = some (some (.ref f_least_slack)))
    (L_least_slack : K.lookup f_least_slack = some ⟨oc_least_slack, od_least_slack, .func (PySem.W.fnOf "least_slack" "least_slack" (defArgs s_least_slack) (defBody s_least_slack) (defScope s_least_slack) .none kV_least_slack dc_least_slack pm_least_slack an_least_slack cd_least_slack ct_least_slack), sl_least_slack⟩)
    (Q_least_slack : PySem.W.codeIn K cd_least_slack "least_slack" = true)
    (W_least_slack : PySem.W.keepIn K (.ref f_least_slack) = true)
    (A__law_mix : PySem.W.nsIn K mainGlobals "_law_mix" = some (some (.ref f__law_mix)))
    (L__law_mix : K.lookup f__law_mix = some ⟨oc__law_mix, od__law_mix, .func (PySem.W.fnOf "_law_mix" "_law_mix" (defArgs s__law_mix) (defBody s__law_mix) (defScope s__law_mix) .none kV__law_mix dc__law_mix pm__law_mix an__law_mix cd__law_mix ct__law_mix), sl__law_mix⟩)
    (Q__law_mix : PySem.W.codeIn K cd__law_mix "_law_mix" = true)
    (W__law_mix : PySem.W.keepIn K (.ref f__law_mix) = true)
    (A__law_next : PySem.W.nsIn K mainGlobals "_law_next" = some (some (.ref f__law_next)))
    (L__law_next : K.lookup f__law_next = some ⟨oc__law_next, od__law_next, .func (PySem.W.fnOf "_law_next" "_law_next" (defArgs s__law_next) (defBody s__law_next) (defScope s__law_next) .none kV__law_next dc__law_next pm__law_next an__law_next cd__law_next ct__law_next), sl__law_next⟩)
    (Q__law_next : PySem.W.codeIn K cd__law_next "_law_next" = true)
    (W__law_next : PySem.W.keepIn K (.ref f__law_next) = true)
    (A__law_alike : PySem.W.nsIn K mainGlobals "_law_alike" = some (some (.ref f__law_alike)))
    (L__law_alike : K.lookup f__law_alike = some ⟨oc__law_alike, od__law_alike, .func (PySem.W.fnOf "_law_alike" "_law_alike" (defArgs s__law_alike) (defBody s__law_alike) (defScope s__law_alike) .none kV__law_alike dc__law_alike pm__law_alike an__law_alike cd__law_alike ct__law_alike), sl__law_alike⟩)
    (Q__law_alike : PySem.W.codeIn K cd__law_alike "_law_alike" = true)
    (W__law_alike : PySem.W.keepIn K (.ref f__law_alike) = true)
    (A__law_house : PySem.W.nsIn K mainGlobals "_law_house" = some (some (.ref f__law_house)))
    (L__law_house : K.lookup f__law_house = some ⟨oc__law_house, od__law_house, .func (PySem.W.fnOf "_law_house" "_law_house" (defArgs s__law_house) (defBody s__law_house) (defScope s__law_house) .none kV__law_house dc__law_house pm__law_house an__law_house cd__law_house ct__law_house), sl__law_house⟩)
    (Q__law_house : PySem.W.codeIn K cd__law_house "_law_house" = true)
    (W__law_house : PySem.W.keepIn K (.ref f__law_house) = true)
    (A__law_far : PySem.W.nsIn K mainGlobals "_law_far" = some (some (.ref f__law_far)))
    (L__law_far : K.lookup f__law_far = some ⟨oc__law_far, od__law_far, .func (PySem.W.fnOf "_law_far" "_law_far" (defArgs s__law_far) (defBody s__law_far) (defScope s__law_far) .none kV__law_far dc__law_far pm__law_far an__law_far cd__law_far ct__law_far), sl__law_far⟩)
    (Q__law_far : PySem.W.codeIn K cd__law_far "_law_far" = true)
    (W__law_far : PySem.W.keepIn K (.ref f__law_far) = true)
    (A__law_next_floors : PySem.W.nsIn K mainGlobals "_law_next_floors" = some (some (.ref f__law_next_floors)))
    (L__law_next_floors : K.lookup f__law_next_floors = some ⟨oc__law_next_floors, od__law_next_floors, .func (PySem.W.fnOf "_law_next_floors" "_law_next_floors" (defArgs s__law_next_floors) (defBody s__law_next_floors) (defScope s__law_next_floors) .none kV__law_next_floors dc__law_next_floors pm__law_next_floors an__law_next_floors cd__law_next_floors ct__law_next_floors), sl__law_next_floors⟩)
    (Q__law_next_floors : PySem.W.codeIn K cd__law_next_floors "_law_next_floors" = true)
    (W__law_next_floors : PySem.W.keepIn K (.ref f__law_next_floors) = true)
    (A__law_row : PySem.W.nsIn K mainGlobals "_law_row" = some (some (.ref f__law_row)))
    (L__law_row : K.lookup f__law_row = some ⟨oc__law_row, od__law_row, .func (PySem.W.fnOf "_law_row" "_law_row" (defArgs s__law_row) (defBody s__law_row) (defScope s__law_row) .none kV__law_row dc__law_row pm__law_row an__law_row cd__law_row ct__law_row), sl__law_row⟩)
    (Q__law_row : PySem.W.codeIn K cd__law_row "_law_row" = true)
    (W__law_row : PySem.W.keepIn K (.ref f__law_row) = true)
    (A__law_log : PySem.W.nsIn K mainGlobals "_law_log" = some (some (.ref f__law_log)))
    (L__law_log : K.lookup f__law_log = some ⟨oc__law_log, od__law_log, .func (PySem.W.fnOf "_law_log" "_law_log" (defArgs s__law_log) (defBody s__law_log) (defScope s__law_log) .none kV__law_log dc__law_log pm__law_log an__law_log cd__law_log ct__law_log), sl__law_log⟩)
    (Q__law_log : PySem.W.codeIn K cd__law_log "_law_log" = true)
    (W__law_log : PySem.W.keepIn K (.ref f__law_log) = true)
    (A__law_start : PySem.W.nsIn K mainGlobals "_law_start" = some (some (.ref f__law_start)))
    (L__law_start : K.lookup f__law_start = some ⟨oc__law_start, od__law_start, .func (PySem.W.fnOf "_law_start" "_law_start" (defArgs s__law_start) (defBody s__law_start) (defScope s__law_start) .none kV__law_start dc__law_start pm__law_start an__law_start cd__law_start ct__law_start), sl__law_start⟩)
    (Q__law_start : PySem.W.codeIn K cd__law_start "_law_start" = true)
    (W__law_start : PySem.W.keepIn K (.ref f__law_start) = true)
    (A__law_by : PySem.W.nsIn K mainGlobals "_law_by" = some (some (.ref f__law_by)))
    (L__law_by : K.lookup f__law_by = some ⟨oc__law_by, od__law_by, .func (PySem.W.fnOf "_law_by" "_law_by" (defArgs s__law_by) (defBody s__law_by) (defScope s__law_by) .none kV__law_by dc__law_by pm__law_by an__law_by cd__law_by ct__law_by), sl__law_by⟩)
    (Q__law_by : PySem.W.codeIn K cd__law_by "_law_by" = true)
    (W__law_by : PySem.W.keepIn K (.ref f__law_by) = true)
    (A_law : PySem.W.nsIn K mainGlobals "law" = some (some (.ref f_law)))
    (L_law : K.lookup f_law = some ⟨oc_law, od_law, .func (PySem.W.fnOf "law" "law" (defArgs s_law) (defBody s_law) (defScope s_law) .none kV_law dc_law pm_law an_law cd_law ct_law), sl_law⟩)
    (Q_law : PySem.W.codeIn K cd_law "law" = true)
    (W_law : PySem.W.keepIn K (.ref f_law) = true)
    (A_House_init : PySem.W.findIn K (.ref C_House) "__init__" = some (some (.ref f_House_init)))
    (I_House_init : PySem.W.isFn K (.ref f_House_init) = true)
    (L_House_init : K.lookup f_House_init = some ⟨oc_House_init, od_House_init, .func (PySem.W.fnOf "__init__" "House.__init__" (defArgs s_House_init) (defBody s_House_init) (defScope s_House_init) .none kV_House_init dc_House_init pm_House_init an_House_init cd_House_init ct_House_init), sl_House_init⟩)
    (Q_House_init : PySem.W.codeIn K cd_House_init "House.__init__" = true)
    (W_House_init : PySem.W.keepIn K (.ref f_House_init) = true)
    (A_House_gaps : PySem.W.findIn K (.ref C_House) "gaps" = some (some (.ref p_House_gaps)))
    (R_House_gaps : PySem.W.recIn K p_House_gaps "property" = some (.ref f_House_gaps :: r_House_gaps))
    (G_House_gaps : PySem.W.specialIn K (.ref p_House_gaps) "__get__" = some (some (.builtin "property.__get__")))
    (T_House_gaps : PySem.W.takesIn K (.ref p_House_gaps) = some true)
    (L_House_gaps : K.lookup f_House_gaps = some ⟨oc_House_gaps, od_House_gaps, .func (PySem.W.fnOf "gaps" "House.gaps" (defArgs s_House_gaps) (defBody s_House_gaps) (defScope s_House_gaps) .none kV_House_gaps dc_House_gaps pm_House_gaps an_House_gaps cd_House_gaps ct_House_gaps), sl_House_gaps⟩)
    (Q_House_gaps : PySem.W.codeIn K cd_House_gaps "House.gaps" = true)
    (W_House_gaps : PySem.W.keepIn K (.ref f_House_gaps) = true)
    (A_House_bells : PySem.W.findIn K (.ref C_House) "bells" = some (some (.ref p_House_bells)))
    (R_House_bells : PySem.W.recIn K p_House_bells "property" = some (.ref f_House_bells :: r_House_bells))
    (G_House_bells : PySem.W.specialIn K (.ref p_House_bells) "__get__" = some (some (.builtin "property.__get__")))
    (T_House_bells : PySem.W.takesIn K (.ref p_House_bells) = some true)
    (L_House_bells : K.lookup f_House_bells = some ⟨oc_House_bells, od_House_bells, .func (PySem.W.fnOf "bells" "House.bells" (defArgs s_House_bells) (defBody s_House_bells) (defScope s_House_bells) .none kV_House_bells dc_House_bells pm_House_bells an_House_bells cd_House_bells ct_House_bells), sl_House_bells⟩)
    (Q_House_bells : PySem.W.codeIn K cd_House_bells "House.bells" = true)
    (W_House_bells : PySem.W.keepIn K (.ref f_House_bells) = true)
    (A_House_floors : PySem.W.findIn K (.ref C_House) "floors" = some (some (.ref p_House_floors)))
    (R_House_floors : PySem.W.recIn K p_House_floors "property" = some (.ref f_House_floors :: r_House_floors))
    (G_House_floors : PySem.W.specialIn K (.ref p_House_floors) "__get__" = some (some (.builtin "property.__get__")))
    (T_House_floors : PySem.W.takesIn K (.ref p_House_floors) = some true)
    (L_House_floors : K.lookup f_House_floors = some ⟨oc_House_floors, od_House_floors, .func (PySem.W.fnOf "floors" "House.floors" (defArgs s_House_floors) (defBody s_House_floors) (defScope s_House_floors) .none kV_House_floors dc_House_floors pm_House_floors an_House_floors cd_House_floors ct_House_floors), sl_House_floors⟩)
    (Q_House_floors : PySem.W.codeIn K cd_House_floors "House.floors" = true)
    (W_House_floors : PySem.W.keepIn K (.ref f_House_floors) = true)
    (A_House_len : PySem.W.findIn K (.ref C_House) "__len__" = some (some (.ref f_House_len)))
    (I_House_len : PySem.W.isFn K (.ref f_House_len) = true)
    (L_House_len : K.lookup f_House_len = some ⟨oc_House_len, od_House_len, .func (PySem.W.fnOf "__len__" "House.__len__" (defArgs s_House_len) (defBody s_House_len) (defScope s_House_len) .none kV_House_len dc_House_len pm_House_len an_House_len cd_House_len ct_House_len), sl_House_len⟩)
    (Q_House_len : PySem.W.codeIn K cd_House_len "House.__len__" = true)
    (W_House_len : PySem.W.keepIn K (.ref f_House_len) = true)
    (A_House_eq : PySem.W.findIn K (.ref C_House) "__eq__" = some (some (.ref f_House_eq)))
    (I_House_eq : PySem.W.isFn K (.ref f_House_eq) = true)
    (L_House_eq : K.lookup f_House_eq = some ⟨oc_House_eq, od_House_eq, .func (PySem.W.fnOf "__eq__" "House.__eq__" (defArgs s_House_eq) (defBody s_House_eq) (defScope s_House_eq) .none kV_House_eq dc_House_eq pm_House_eq an_House_eq cd_House_eq ct_House_eq), sl_House_eq⟩)
    (Q_House_eq : PySem.W.codeIn K cd_House_eq "House.__eq__" = true)
    (W_House_eq : PySem.W.keepIn K (.ref f_House_eq) = true)
    (A_House_seconds : PySem.W.findIn K (.ref C_House) "seconds" = some (some (.ref f_House_seconds)))
    (I_House_seconds : PySem.W.isFn K (.ref f_House_seconds) = true)
    (L_House_seconds : K.lookup f_House_seconds = some ⟨oc_House_seconds, od_House_seconds, .func (PySem.W.fnOf "seconds" "House.seconds" (defArgs s_House_seconds) (defBody s_House_seconds) (defScope s_House_seconds) .none kV_House_seconds dc_House_seconds pm_House_seconds an_House_seconds cd_House_seconds ct_House_seconds), sl_House_seconds⟩)
    (Q_House_seconds : PySem.W.codeIn K cd_House_seconds "House.seconds" = true)
    (W_House_seconds : PySem.W.keepIn K (.ref f_House_seconds) = true)
    (pg_House : PySem.W.plainGet K C_House Str.empty = true)
    (hd_House : PySem.W.hasDictIn K C_House = true)
    (po_House : PySem.W.plainOver K C_House = true)
    (sa_House : PySem.W.findIn K (.ref C_House) "__setattr__" = some (some (.builtin "object.__setattr__")))
    (mk_House : PySem.W.makesIn K C_House = true)
    (kc_House : PySem.W.keepIn K (.ref C_House) = true)
    (a_House_gaps : PySem.W.findIn K (.ref C_House) "_gaps" = some none)
    (a_House_bells : PySem.W.findIn K (.ref C_House) "_bells" = some none)
    (a_House_floors : PySem.W.findIn K (.ref C_House) "_floors" = some none)
    (z_len : PySem.W.nsIn K mainGlobals "len" = some none)
    (z_range : PySem.W.nsIn K mainGlobals "range" = some none)
    (z_enumerate : PySem.W.nsIn K mainGlobals "enumerate" = some none)
    (z_zip : PySem.W.nsIn K mainGlobals "zip" = some none)
    (z_min : PySem.W.nsIn K mainGlobals "min" = some none)
    (z_max : PySem.W.nsIn K mainGlobals "max" = some none)
    (z_sum : PySem.W.nsIn K mainGlobals "sum" = some none)
    (z_abs : PySem.W.nsIn K mainGlobals "abs" = some none)
    (z_sorted : PySem.W.nsIn K mainGlobals "sorted" = some none)
    (z_reversed : PySem.W.nsIn K mainGlobals "reversed" = some none)
    (z_int : PySem.W.nsIn K mainGlobals "int" = some none)
    (z_str : PySem.W.nsIn K mainGlobals "str" = some none)
    (z_bool : PySem.W.nsIn K mainGlobals "bool" = some none)
    (z_list : PySem.W.nsIn K mainGlobals "list" = some none)
    (z_tuple : PySem.W.nsIn K mainGlobals "tuple" = some none)
    (z_dict : PySem.W.nsIn K mainGlobals "dict" = some none)
    (z_set : PySem.W.nsIn K mainGlobals "set" = some none)
    (z_isinstance : PySem.W.nsIn K mainGlobals "isinstance" = some none)
    (z_all : PySem.W.nsIn K mainGlobals "all" = some none)
    (v_MOST_GAPS : PySem.W.nsIn K mainGlobals "MOST_GAPS" = some (some (.int 9 t_MOST_GAPS)))
    (v_LONGEST_GAP : PySem.W.nsIn K mainGlobals "LONGEST_GAP" = some (some (.int 9 t_LONGEST_GAP)))
    (v_LONGEST_GO : PySem.W.nsIn K mainGlobals "LONGEST_GO" = some (some (.int 81 t_LONGEST_GO)))
    (v_MOST_SLACK : PySem.W.nsIn K mainGlobals "MOST_SLACK" = some (some (.int 9 t_MOST_SLACK)))
    : ∃ fd : FuncData, (∀ (s : Shared) (v : Value), BindsTo s fd ⟨[v], []⟩ [("_law_script", v)]) ∧ ∀ base : Heap, K.In base → base.Ns mainGlobals mg → FnOk P w K mg base CX0 9 fa fd ["_law_script"] (spLaw K) := by
  have e := hfa.symm.trans (PySem.W.mg_of X G A_law)
  cases e
  have F_check_gaps := fun_mk (st := s_check_gaps) L_check_gaps Q_check_gaps W_check_gaps
  have b_check_gaps := F_check_gaps.binds (ps := ["gaps"]) fun _ _ _ _ _ _ us hl => match us, hl with | [_], _ => rfl
  have F_check_bells := fun_mk (st := s_check_bells) L_check_bells Q_check_bells W_check_bells
  have b_check_bells := F_check_bells.binds (ps := ["bells", "floors"]) fun _ _ _ _ _ _ us hl => match us, hl with | [_, _], _ => rfl
  have F_check_floors := fun_mk (st := s_check_floors) L_check_floors Q_check_floors W_check_floors
  have b_check_floors := F_check_floors.binds (ps := ["house", "floors"]) fun _ _ _ _ _ _ us hl => match us, hl with | [_, _], _ => rfl
  have F_is_row_of := fun_mk (st := s_is_row_of) L_is_row_of Q_is_row_of W_is_row_of
  have b_is_row_of := F_is_row_of.binds (ps := ["house", "row"]) fun _ _ _ _ _ _ us hl => match us, hl with | [_, _], _ => rfl
  have F_check_log := fun_mk (st := s_check_log) L_check_log Q_check_log W_check_log
  have b_check_log := F_check_log.binds (ps := ["house", "log"]) fun _ _ _ _ _ _ us hl => match us, hl with | [_, _], _ => rfl
  have F_check_hearing := fun_mk (st := s_check_hearing) L_check_hearing Q_check_hearing W_check_hearing
  have b_check_hearing := F_check_hearing.binds (ps := ["house", "start", "log"]) fun _ _ _ _ _ _ us hl => match us, hl with | [_, _, _], _ => rfl
  have F_next_floors := fun_mk (st := s_next_floors) L_next_floors Q_next_floors W_next_floors
  have b_next_floors := F_next_floors.binds (ps := ["house", "row", "floor"]) fun _ _ _ _ _ _ us hl => match us, hl with | [_, _, _], _ => rfl
  have F_links_of := fun_mk (st := s_links_of) L_links_of Q_links_of W_links_of
  have b_links_of := F_links_of.binds (ps := ["house", "log"]) fun _ _ _ _ _ _ us hl => match us, hl with | [_, _], _ => rfl
  have F_numbers_ahead := fun_mk (st := s_numbers_ahead) L_numbers_ahead Q_numbers_ahead W_numbers_ahead
  have b_numbers_ahead := F_numbers_ahead.binds (ps := ["house", "links"]) fun _ _ _ _ _ _ us hl => match us, hl with | [_, _], _ => rfl
  have F_numbers_behind := fun_mk (st := s_numbers_behind) L_numbers_behind Q_numbers_behind W_numbers_behind
  have b_numbers_behind := F_numbers_behind.binds (ps := ["house", "start", "links"]) fun _ _ _ _ _ _ us hl => match us, hl with | [_, _, _], _ => rfl
  have F_numbers_through := fun_mk (st := s_numbers_through) L_numbers_through Q_numbers_through W_numbers_through
  have b_numbers_through := F_numbers_through.binds (ps := ["house", "start", "links"]) fun _ _ _ _ _ _ us hl => match us, hl with | [_, _, _], _ => rfl
  have F_floors_at := fun_mk (st := s_floors_at) L_floors_at Q_floors_at W_floors_at
  have b_floors_at := F_floors_at.binds (ps := ["house", "start", "log", "moment"]) fun _ _ _ _ _ _ us hl => match us, hl with | [_, _, _, _], _ => rfl
  have F_next_floors_by := fun_mk (st := s_next_floors_by) L_next_floors_by Q_next_floors_by W_next_floors_by
  have b_next_floors_by := F_next_floors_by.binds (ps := ["house", "row", "floor", "slack"]) fun _ _ _ _ _ _ us hl => match us, hl with | [_, _, _, _], _ => rfl
  have F_floors_left := fun_mk (st := s_floors_left) L_floors_left Q_floors_left W_floors_left
  have b_floors_left := F_floors_left.binds (ps := ["house", "start", "log", "slack"]) fun _ _ _ _ _ _ us hl => match us, hl with | [_, _, _, _], _ => rfl
  have F_floors_by := fun_mk (st := s_floors_by) L_floors_by Q_floors_by W_floors_by
  have b_floors_by := F_floors_by.binds (ps := ["house", "start", "log", "slack"]) fun _ _ _ _ _ _ us hl => match us, hl with | [_, _, _, _], _ => rfl
  have F_least_slack := fun_mk (st := s_least_slack) L_least_slack Q_least_slack W_least_slack
  have b_least_slack := F_least_slack.binds (ps := ["house", "start", "log"]) fun _ _ _ _ _ _ us hl => match us, hl with | [_, _, _], _ => rfl
  have F__law_mix := fun_mk (st := s__law_mix) L__law_mix Q__law_mix W__law_mix
  have b__law_mix := F__law_mix.binds (ps := ["_law_script", "_law_seed"]) fun _ _ _ _ _ _ us hl => match us, hl with | [_, _], _ => rfl
  have F__law_next := fun_mk (st := s__law_next) L__law_next Q__law_next W__law_next
  have b__law_next := F__law_next.binds (ps := ["_law_h", "_law_limit"]) fun _ _ _ _ _ _ us hl => match us, hl with | [_, _], _ => rfl
  have F__law_alike := fun_mk (st := s__law_alike) L__law_alike Q__law_alike W__law_alike
  have b__law_alike := F__law_alike.binds (ps := ["_law_found", "_law_due"]) fun _ _ _ _ _ _ us hl => match us, hl with | [_, _], _ => rfl
  have F__law_house := fun_mk (st := s__law_house) L__law_house Q__law_house W__law_house
  have b__law_house := F__law_house.binds (ps := ["_law_h", "_law_most"]) fun _ _ _ _ _ _ us hl => match us, hl with | [_, _], _ => rfl
  have F__law_far := fun_mk (st := s__law_far) L__law_far Q__law_far W__law_far
  have b__law_far := F__law_far.binds (ps := ["_law_gaps", "_law_one", "_law_other"]) fun _ _ _ _ _ _ us hl => match us, hl with | [_, _, _], _ => rfl
  have F__law_next_floors := fun_mk (st := s__law_next_floors) L__law_next_floors Q__law_next_floors W__law_next_floors
  have b__law_next_floors := F__law_next_floors.binds (ps := ["_law_drawn", "_law_floor", "_law_row_here"]) fun _ _ _ _ _ _ us hl => match us, hl with | [_, _, _], _ => rfl
  have F__law_row := fun_mk (st := s__law_row) L__law_row Q__law_row W__law_row
  have b__law_row := F__law_row.binds (ps := ["_law_h", "_law_drawn", "_law_floor"]) fun _ _ _ _ _ _ us hl => match us, hl with | [_, _, _], _ => rfl
  have F__law_log := fun_mk (st := s__law_log) L__law_log Q__law_log W__law_log
  have b__law_log := F__law_log.binds (ps := ["_law_h", "_law_drawn", "_law_start_here", "_law_many"]) fun _ _ _ _ _ _ us hl => match us, hl with | [_, _, _, _], _ => rfl
  have F__law_start := fun_mk (st := s__law_start) L__law_start Q__law_start W__law_start
  have b__law_start := F__law_start.binds (ps := ["_law_h", "_law_drawn"]) fun _ _ _ _ _ _ us hl => match us, hl with | [_, _], _ => rfl
  have F__law_by := fun_mk (st := s__law_by) L__law_by Q__law_by W__law_by
  have b__law_by := F__law_by.binds (ps := ["_law_drawn", "_law_start_here", "_law_log_here", "_law_slack"]) fun _ _ _ _ _ _ us hl => match us, hl with | [_, _, _, _], _ => rfl
  have F_law := fun_mk (st := s_law) L_law Q_law W_law
  have b_law := F_law.binds (ps := ["_law_script"]) fun _ _ _ _ _ _ us hl => match us, hl with | [_], _ => rfl
  have F_House_init := fun_mk (st := s_House_init) L_House_init Q_House_init W_House_init
  have b_House_init := F_House_init.binds (ps := ["self", "gaps", "bells"]) fun _ _ _ _ _ _ us hl => match us, hl with | [_, _, _], _ => rfl
  have F_House_gaps := fun_mk (st := s_House_gaps) L_House_gaps Q_House_gaps W_House_gaps
  have b_House_gaps := F_House_gaps.binds (ps := ["self"]) fun _ _ _ _ _ _ us hl => match us, hl with | [_], _ => rfl
  have F_House_bells := fun_mk (st := s_House_bells) L_House_bells Q_House_bells W_House_bells
  have b_House_bells := F_House_bells.binds (ps := ["self"]) fun _ _ _ _ _ _ us hl => match us, hl with | [_], _ => rfl
  have F_House_floors := fun_mk (st := s_House_floors) L_House_floors Q_House_floors W_House_floors
  have b_House_floors := F_House_floors.binds (ps := ["self"]) fun _ _ _ _ _ _ us hl => match us, hl with | [_], _ => rfl
  have F_House_len := fun_mk (st := s_House_len) L_House_len Q_House_len W_House_len
  have b_House_len := F_House_len.binds (ps := ["self"]) fun _ _ _ _ _ _ us hl => match us, hl with | [_], _ => rfl
  have F_House_eq := fun_mk (st := s_House_eq) L_House_eq Q_House_eq W_House_eq
  have b_House_eq := F_House_eq.binds (ps := ["self", "other"]) fun _ _ _ _ _ _ us hl => match us, hl with | [_, _], _ => rfl
  have F_House_seconds := fun_mk (st := s_House_seconds) L_House_seconds Q_House_seconds W_House_seconds
  have b_House_seconds := F_House_seconds.binds (ps := ["self", "one", "other"]) fun _ _ _ _ _ _ us hl => match us, hl with | [_, _, _], _ => rfl
  let T : Txt K mg := {
    C_House := C_House,
    f_check_gaps := f_check_gaps,
    d_check_gaps := _,
    F_check_gaps := F_check_gaps,
    b_check_gaps := b_check_gaps,
    g_check_gaps := PySem.W.mg_of X G A_check_gaps,
    f_check_bells := f_check_bells,
    d_check_bells := _,
    F_check_bells := F_check_bells,
    b_check_bells := b_check_bells,
    g_check_bells := PySem.W.mg_of X G A_check_bells,
    f_check_floors := f_check_floors,
    d_check_floors := _,
    F_check_floors := F_check_floors,
    b_check_floors := b_check_floors,
    g_check_floors := PySem.W.mg_of X G A_check_floors,
    f_is_row_of := f_is_row_of,
    d_is_row_of := _,
    F_is_row_of := F_is_row_of,
    b_is_row_of := b_is_row_of,
    g_is_row_of := PySem.W.mg_of X G A_is_row_of,
    f_check_log := f_check_log,
    d_check_log := _,
    F_check_log := F_check_log,
    b_check_log := b_check_log,
    g_check_log := PySem.W.mg_of X G A_check_log,
    f_check_hearing := f_check_hearing,
    d_check_hearing := _,
    F_check_hearing := F_check_hearing,
    b_check_hearing := b_check_hearing,
    g_check_hearing := PySem.W.mg_of X G A_check_hearing,
    f_next_floors := f_next_floors,
    d_next_floors := _,
    F_next_floors := F_next_floors,
    b_next_floors := b_next_floors,
    g_next_floors := PySem.W.mg_of X G A_next_floors,
    f_links_of := f_links_of,
    d_links_of := _,
    F_links_of := F_links_of,
    b_links_of := b_links_of,
    g_links_of := PySem.W.mg_of X G A_links_of,
    f_numbers_ahead := f_numbers_ahead,
    d_numbers_ahead := _,
    F_numbers_ahead := F_numbers_ahead,
    b_numbers_ahead := b_numbers_ahead,
    g_numbers_ahead := PySem.W.mg_of X G A_numbers_ahead,
    f_numbers_behind := f_numbers_behind,
    d_numbers_behind := _,
    F_numbers_behind := F_numbers_behind,
    b_numbers_behind := b_numbers_behind,
    g_numbers_behind := PySem.W.mg_of X G A_numbers_behind,
    f_numbers_through := f_numbers_through,
    d_numbers_through := _,
    F_numbers_through := F_numbers_through,
    b_numbers_through := b_numbers_through,
    g_numbers_through := PySem.W.mg_of X G A_numbers_through,
    f_floors_at := f_floors_at,
    d_floors_at := _,
    F_floors_at := F_floors_at,
    b_floors_at := b_floors_at,
    g_floors_at := PySem.W.mg_of X G A_floors_at,
    f_next_floors_by := f_next_floors_by,
    d_next_floors_by := _,
    F_next_floors_by := F_next_floors_by,
    b_next_floors_by := b_next_floors_by,
    g_next_floors_by := PySem.W.mg_of X G A_next_floors_by,
    f_floors_left := f_floors_left,
    d_floors_left := _,
    F_floors_left := F_floors_left,
    b_floors_left := b_floors_left,
    g_floors_left := PySem.W.mg_of X G A_floors_left,
    f_floors_by := f_floors_by,
    d_floors_by := _,
    F_floors_by := F_floors_by,
    b_floors_by := b_floors_by,
    g_floors_by := PySem.W.mg_of X G A_floors_by,
    f_least_slack := f_least_slack,
    d_least_slack := _,
    F_least_slack := F_least_slack,
    b_least_slack := b_least_slack,
    g_least_slack := PySem.W.mg_of X G A_least_slack,
    f__law_mix := f__law_mix,
    d__law_mix := _,
    F__law_mix := F__law_mix,
    b__law_mix := b__law_mix,
    g__law_mix := PySem.W.mg_of X G A__law_mix,
    f__law_next := f__law_next,
    d__law_next := _,
    F__law_next := F__law_next,
    b__law_next := b__law_next,
    g__law_next := PySem.W.mg_of X G A__law_next,
    f__law_alike := f__law_alike,
    d__law_alike := _,
    F__law_alike := F__law_alike,
    b__law_alike := b__law_alike,
    g__law_alike := PySem.W.mg_of X G A__law_alike,
    f__law_house := f__law_house,
    d__law_house := _,
    F__law_house := F__law_house,
    b__law_house := b__law_house,
    g__law_house := PySem.W.mg_of X G A__law_house,
    f__law_far := f__law_far,
    d__law_far := _,
    F__law_far := F__law_far,
    b__law_far := b__law_far,
    g__law_far := PySem.W.mg_of X G A__law_far,
    f__law_next_floors := f__law_next_floors,
    d__law_next_floors := _,
    F__law_next_floors := F__law_next_floors,
    b__law_next_floors := b__law_next_floors,
    g__law_next_floors := PySem.W.mg_of X G A__law_next_floors,
    f__law_row := f__law_row,
    d__law_row := _,
    F__law_row := F__law_row,
    b__law_row := b__law_row,
    g__law_row := PySem.W.mg_of X G A__law_row,
    f__law_log := f__law_log,
    d__law_log := _,
    F__law_log := F__law_log,
    b__law_log := b__law_log,
    g__law_log := PySem.W.mg_of X G A__law_log,
    f__law_start := f__law_start,
    d__law_start := _,
    F__law_start := F__law_start,
    b__law_start := b__law_start,
    g__law_start := PySem.W.mg_of X G A__law_start,
    f__law_by := f__law_by,
    d__law_by := _,
    F__law_by := F__law_by,
    b__law_by := b__law_by,
    g__law_by := PySem.W.mg_of X G A__law_by,
    f_law := fa,
    d_law := _,
    F_law := F_law,
    b_law := b_law,
    g_law := PySem.W.mg_of X G A_law,
    f_House_init := f_House_init,
    d_House_init := _,
    F_House_init := F_House_init,
    b_House_init := b_House_init,
    f_House_gaps := f_House_gaps,
    d_House_gaps := _,
    F_House_gaps := F_House_gaps,
    b_House_gaps := b_House_gaps,
    p_House_gaps := p_House_gaps,
    m_House_gaps := ⟨A_House_gaps, G_House_gaps, T_House_gaps, _, R_House_gaps⟩,
    f_House_bells := f_House_bells,
    d_House_bells := _,
    F_House_bells := F_House_bells,
    b_House_bells := b_House_bells,
    p_House_bells := p_House_bells,
    m_House_bells := ⟨A_House_bells, G_House_bells, T_House_bells, _, R_House_bells⟩,
    f_House_floors := f_House_floors,
    d_House_floors := _,
    F_House_floors := F_House_floors,
    b_House_floors := b_House_floors,
    p_House_floors := p_House_floors,
    m_House_floors := ⟨A_House_floors, G_House_floors, T_House_floors, _, R_House_floors⟩,
    f_House_len := f_House_len,
    d_House_len := _,
    F_House_len := F_House_len,
    b_House_len := b_House_len,
    m_House_len := ⟨A_House_len, I_House_len, W_House_len⟩,
    f_House_eq := f_House_eq,
    d_House_eq := _,
    F_House_eq := F_House_eq,
    b_House_eq := b_House_eq,
    m_House_eq := ⟨A_House_eq, I_House_eq, W_House_eq⟩,
    f_House_seconds := f_House_seconds,
    d_House_seconds := _,
    F_House_seconds := F_House_seconds,
    b_House_seconds := b_House_seconds,
    m_House_seconds := ⟨A_House_seconds, I_House_seconds, W_House_seconds⟩,
    g_House := PySem.W.mg_of X G A_House,
    c_House := ⟨pg_House, hd_House, po_House, sa_House⟩,
    k_House := ⟨mk_House, A_House_init, I_House_init, kc_House⟩,
    a_House_gaps := a_House_gaps,
    a_House_bells := a_House_bells,
    a_House_floors := a_House_floors,
    z_len := PySem.W.mg_none_of X G z_len,
    z_range := PySem.W.mg_none_of X G z_range,
    z_enumerate := PySem.W.mg_none_of X G z_enumerate,
    z_zip := PySem.W.mg_none_of X G z_zip,
    z_min := PySem.W.mg_none_of X G z_min,
    z_max := PySem.W.mg_none_of X G z_max,
    z_sum := PySem.W.mg_none_of X G z_sum,
    z_abs := PySem.W.mg_none_of X G z_abs,
    z_sorted := PySem.W.mg_none_of X G z_sorted,
    z_reversed := PySem.W.mg_none_of X G z_reversed,
    z_int := PySem.W.mg_none_of X G z_int,
    z_str := PySem.W.mg_none_of X G z_str,
    z_bool := PySem.W.mg_none_of X G z_bool,
    z_list := PySem.W.mg_none_of X G z_list,
    z_tuple := PySem.W.mg_none_of X G z_tuple,
    z_dict := PySem.W.mg_none_of X G z_dict,
    z_set := PySem.W.mg_none_of X G z_set,
    z_isinstance := PySem.W.mg_none_of X G z_isinstance,
    z_all := PySem.W.mg_none_of X G z_all,
    v_MOST_GAPS := ⟨_, PySem.W.mg_of X G v_MOST_GAPS⟩,
    v_LONGEST_GAP := ⟨_, PySem.W.mg_of X G v_LONGEST_GAP⟩,
    v_LONGEST_GO := ⟨_, PySem.W.mg_of X G v_LONGEST_GO⟩,
    v_MOST_SLACK := ⟨_, PySem.W.mg_of X G v_MOST_SLACK⟩ }
  exact ⟨_, fun s v => .of_eq rfl, fun base _ _ => ok_law (P := P) (w := w) (base := base) T⟩
theorem walk {l : PySem.W.OpenLaw} {q : Program} {loose : List Str} {XP : (Str → Option Value) → Heap → Prop} {YP : World → Heap → Prop} {d : DefRec} {K : Params → PySem.W.Frag} (hn : l.most = some 63) (hdf : d.params.defaults = [])
    (hY : ∀ (w : World) (h : Heap), YP w h → (K w.params).In h)
    (F : ∀ (w : World) (mg : Str → Option Value) (fa : Addr) (h : Heap), (K w.params).In h → h.Ns mainGlobals mg → mg d.name = some (.ref fa) →
      ∃ fd : FuncData, (∀ (s : Shared) (u : Value), BindsTo s fd ⟨[u], []⟩ [("_law_script", u)]) ∧ ∀ base : Heap, (K w.params).In base → base.Ns mainGlobals mg → FnOk l.prog w (K w.params) mg base CX0 9 fa fd ["_law_script"] (spLaw (K w.params))) :
    PySem.W.WalkO q loose XP YP l.row.toRowW d [] (fun f vs => PySem.call f vs) :=
  L2.walk_ofB (n := 63) (k := 9) (x := "_law_script") (CX := fun _ => CX0) (sp := fun w => spLaw (K w.params)) hn (by decide) hdf ⟨rfl, by decide, by decide⟩ hY F (fun _ _ a ns hl hb _ hS => ⟨a, ns, rfl, hS, hl, hb, fun _ => rfl⟩) fun _ _ _ _ _ z => z
end K33
open PySem PySem.W PyProof.Rows in
set_option maxRecDepth 100000 in
set_option maxHeartbeats 0 in
theorem PySem.Challenge.cw_liftheard_k33_whole_slack_holds : PySem.Challenge.rw_liftheard_k33_whole_slack.Holds := by
  w_on; o_law; k_head; (case hw => w_witness2)
  k_fill
  refine K33.walk (l := PySem.Challenge.rw_liftheard_k33_whole_slack) rfl rfl (fun w h Y => PySem.W.kIn_of Y) ?F
  case F =>
    intro w mg fa h KX G hmg
    refine' K33.all_mk KX G hmg ?A_House ?A_check_gaps ?L_check_gaps ?Q_check_gaps ?W_check_gaps ?A_check_bells ?L_check_bells ?Q_check_bells ?W_check_bells ?A_check_floors ?L_check_floors ?Q_check_floors ?W_check_floors ?A_is_row_of ?L_is_row_of ?Q_is_row_of ?W_is_row_of ?A_check_log ?L_check_log ?Q_check_log ?W_check_log ?A_check_hearing ?L_check_hearing ?Q_check_hearing ?W_check_hearing ?A_next_floors ?L_next_floors ?Q_next_floors ?W_next_floors ?A_links_of ?L_links_of ?Q_links_of ?W_links_of ?A_numbers_ahead ?L_numbers_ahead ?Q_numbers_ahead ?W_numbers_ahead ?A_numbers_behind ?L_numbers_behind ?Q_numbers_behind ?W_numbers_behind ?A_numbers_through ?L_numbers_through ?Q_numbers_through ?W_numbers_through ?A_floors_at ?L_floors_at ?Q_floors_at ?W_floors_at ?A_next_floors_by ?L_next_floors_by ?Q_next_floors_by ?W_next_floors_by ?A_floors_left ?L_floors_left ?Q_floors_left ?W_floors_left ?A_floors_by ?L_floors_by ?Q_floors_by ?W_floors_by ?A_least_slack ?L_least_slack ?Q_least_slack ?W_least_slack ?A__law_mix ?L__law_mix ?Q__law_mix ?W__law_mix ?A__law_next ?L__law_next ?Q__law_next ?W__law_next ?A__law_alike ?L__law_alike ?Q__law_alike ?W__law_alike ?A__law_house ?L__law_house ?Q__law_house ?W__law_house ?A__law_far ?L__law_far ?Q__law_far ?W__law_far ?A__law_next_floors ?L__law_next_floors ?Q__law_next_floors ?W__law_next_floors ?A__law_row ?L__law_row ?Q__law_row ?W__law_row ?A__law_log ?L__law_log ?Q__law_log ?W__law_log ?A__law_start ?L__law_start ?Q__law_start ?W__law_start ?A__law_by ?L__law_by ?Q__law_by ?W__law_by ?A_law ?L_law ?Q_law ?W_law ?A_House_init ?I_House_init ?L_House_init ?Q_House_init ?W_House_init ?A_House_gaps ?R_House_gaps ?G_House_gaps ?T_House_gaps ?L_House_gaps ?Q_House_gaps ?W_House_gaps ?A_House_bells ?R_House_bells ?G_House_bells ?T_House_bells ?L_House_bells ?Q_House_bells ?W_House_bells ?A_House_floors ?R_House_floors ?G_House_floors ?T_House_floors ?L_House_floors ?Q_House_floors ?W_House_floors ?A_House_len ?I_House_len ?L_House_len ?Q_House_len ?W_House_len ?A_House_eq ?I_House_eq ?L_House_eq ?Q_House_eq ?W_House_eq ?A_House_seconds ?I_House_seconds ?L_House_seconds ?Q_House_seconds ?W_House_seconds ?pg_House ?hd_House ?po_House ?sa_House ?mk_House ?kc_House ?a_House_gaps ?a_House_bells ?a_House_floors ?z_len ?z_range ?z_enumerate ?z_zip ?z_min ?z_max ?z_sum ?z_abs ?z_sorted ?z_reversed ?z_int ?z_str ?z_bool ?z_list ?z_tuple ?z_dict ?z_set ?z_isinstance ?z_all ?v_MOST_GAPS ?v_LONGEST_GAP ?v_LONGEST_GO ?v_MOST_SLACK
    (case A_House => k_is)
    (case A_check_gaps => k_is)
    (case L_check_gaps => k_is)
    (case Q_check_gaps => k_is)
    (case W_check_gaps => k_is)
    (case A_check_bells => k_is)
    (case L_check_bells => k_is)
    (case Q_check_bells => k_is)
    (case W_check_bells => k_is)
    (case A_check_floors => k_is)
    (case L_check_floors => k_is)
    (case Q_check_floors => k_is)
    (case W_check_floors => k_is)
    (case A_is_row_of => k_is)
    (case L_is_row_of => k_is)
    (case Q_is_row_of => k_is)
    (case W_is_row_of => k_is)
    (case A_check_log => k_is)
    (case L_check_log => k_is)
    (case Q_check_log => k_is)
    (case W_check_log => k_is)
    (case A_check_hearing => k_is)
    (case L_check_hearing => k_is)
    (case Q_check_hearing => k_is)
    (case W_check_hearing => k_is)
    (case A_next_floors => k_is)
    (case L_next_floors => k_is)
    (case Q_next_floors => k_is)
    (case W_next_floors => k_is)
    (case A_links_of => k_is)
    (case L_links_of => k_is)
    (case Q_links_of => k_is)
    (case W_links_of => k_is)
    (case A_numbers_ahead => k_is)
    (case L_numbers_ahead => k_is)
    (case Q_numbers_ahead => k_is)
    (case W_numbers_ahead => k_is)
    (case A_numbers_behind => k_is)
    (case L_numbers_behind => k_is)
    (case Q_numbers_behind => k_is)
    (case W_numbers_behind => k_is)
    (case A_numbers_through => k_is)
    (case L_numbers_through => k_is)
    (case Q_numbers_through => k_is)
    (case W_numbers_through => k_is)
    (case A_floors_at => k_is)
    (case L_floors_at => k_is)
    (case Q_floors_at => k_is)
    (case W_floors_at => k_is)
    (case A_next_floors_by => k_is)
    (case L_next_floors_by => k_is)
    (case Q_next_floors_by => k_is)
    (case W_next_floors_by => k_is)
    (case A_floors_left => k_is)
    (case L_floors_left => k_is)
    (case Q_floors_left => k_is)
    (case W_floors_left => k_is)
    (case A_floors_by => k_is)
    (case L_floors_by => k_is)
    (case Q_floors_by => k_is)
    (case W_floors_by => k_is)
    (case A_least_slack => k_is)
    (case L_least_slack => k_is)
    (case Q_least_slack => k_is)
    (case W_least_slack => k_is)
    (case A__law_mix => k_is)
    (case L__law_mix => k_is)
    (case Q__law_mix => k_is)
    (case W__law_mix => k_is)
    (case A__law_next => k_is)
    (case L__law_next => k_is)
    (case Q__law_next => k_is)
    (case W__law_next => k_is)
    (case A__law_alike => k_is)
    (case L__law_alike => k_is)
    (case Q__law_alike => k_is)
    (case W__law_alike => k_is)
    (case A__law_house => k_is)
    (case L__law_house => k_is)
    (case Q__law_house => k_is)
    (case W__law_house => k_is)
    (case A__law_far => k_is)
    (case L__law_far => k_is)
    (case Q__law_far => k_is)
    (case W__law_far => k_is)
    (case A__law_next_floors => k_is)
    (case L__law_next_floors => k_is)
    (case Q__law_next_floors => k_is)
    (case W__law_next_floors => k_is)
    (case A__law_row => k_is)
    (case L__law_row => k_is)
    (case Q__law_row => k_is)
    (case W__law_row => k_is)
    (case A__law_log => k_is)
    (case L__law_log => k_is)
    (case Q__law_log => k_is)
    (case W__law_log => k_is)
    (case A__law_start => k_is)
    (case L__law_start => k_is)
    (case Q__law_start => k_is)
    (case W__law_start => k_is)
    (case A__law_by => k_is)
    (case L__law_by => k_is)
    (case Q__law_by => k_is)
    (case W__law_by => k_is)
    (case A_law => k_is)
    (case L_law => k_is)
    (case Q_law => k_is)
    (case W_law => k_is)
    (case A_House_init => k_is)
    (case I_House_init => k_is)
    (case L_House_init => k_is)
    (case Q_House_init => k_is)
    (case W_House_init => k_is)
    (case A_House_gaps => k_is)
    (case R_House_gaps => k_is)
    (case G_House_gaps => k_is)
    (case T_House_gaps => k_is)
    (case L_House_gaps => k_is)
    (case Q_House_gaps => k_is)
    (case W_House_gaps => k_is)
    (case A_House_bells => k_is)
    (case R_House_bells => k_is)
    (case G_House_bells => k_is)
    (case T_House_bells => k_is)
    (case L_House_bells => k_is)
    (case Q_House_bells => k_is)
    (case W_House_bells => k_is)
    (case A_House_floors => k_is)
    (case R_House_floors => k_is)
    (case G_House_floors => k_is)
    (case T_House_floors => k_is)
    (case L_House_floors => k_is)
    (case Q_House_floors => k_is)
    (case W_House_floors => k_is)
    (case A_House_len => k_is)
    (case I_House_len => k_is)
    (case L_House_len => k_is)
    (case Q_House_len => k_is)
    (case W_House_len => k_is)
    (case A_House_eq => k_is)
    (case I_House_eq => k_is)
    (case L_House_eq => k_is)
    (case Q_House_eq => k_is)
    (case W_House_eq => k_is)
    (case A_House_seconds => k_is)
    (case I_House_seconds => k_is)
    (case L_House_seconds => k_is)
    (case Q_House_seconds => k_is)
    (case W_House_seconds => k_is)
    (case pg_House => k_is)
    (case hd_House => k_is)
    (case po_House => k_is)
    (case sa_House => k_is)
    (case mk_House => k_is)
    (case kc_House => k_is)
    (case a_House_gaps => k_is)
    (case a_House_bells => k_is)
    (case a_House_floors => k_is)
    (case z_len => k_is)
    (case z_range => k_is)
    (case z_enumerate => k_is)
    (case z_zip => k_is)
    (case z_min => k_is)
    (case z_max => k_is)
    (case z_sum => k_is)
    (case z_abs => k_is)
    (case z_sorted => k_is)
    (case z_reversed => k_is)
    (case z_int => k_is)
    (case z_str => k_is)
    (case z_bool => k_is)
    (case z_list => k_is)
    (case z_tuple => k_is)
    (case z_dict => k_is)
    (case z_set => k_is)
    (case z_isinstance => k_is)
    (case z_all => k_is)
    (case v_MOST_GAPS => k_is)
    (case v_LONGEST_GAP => k_is)
    (case v_LONGEST_GO => k_is)
    (case v_MOST_SLACK => k_is)
#print axioms PySem.Challenge.cw_liftheard_k33_whole_slack_holds
