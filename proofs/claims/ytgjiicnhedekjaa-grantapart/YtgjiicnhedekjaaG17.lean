/- What the reference's PutGrant puts together, grant by grant, as plain mathematics. -/
import Derived.Test.YtgjiicnhedekjaaG16
set_option linter.unusedSimpArgs false
set_option linter.unusedVariables false
namespace Go.Proofs.Ytgjiicnhedekjaa.Pp

/-- One round: the grant goes ahead of the first one that is not ahead of it; what the same one had is left out. -/
def gstp (x : Gr) (s : List Gr × Bool) (y : Gr) : List Gr × Bool :=
  (if othG x y = true then (if s.2 = false ∧ ltG y x = false then s.1 ++ [x] else s.1) ++ [y] else (if s.2 = false ∧ ltG y x = false then s.1 ++ [x] else s.1), s.2 || !(ltG y x))
def gputS (x : Gr) (b : Bool) (L : List Gr) : List Gr × Bool := L.foldl (gstp x) ([], b)
def gputR (x : Gr) (b : Bool) (L : List Gr) : List Gr := if (gputS x b L).2 = true then (gputS x b L).1 else (gputS x b L).1 ++ [x]
theorem gputS_snoc (x : Gr) (b : Bool) (A : List Gr) (y : Gr) : gputS x b (A ++ [y]) = gstp x (gputS x b A) y := by rw [gputS, List.foldl_append]; rfl
theorem ginsG_pre {x : Gr} : ∀ {A : List Gr}, (∀ y ∈ A, ltG y x = true) → ∀ B, insG x (A ++ B) = A ++ insG x B
  | [], _, _ => rfl
  | y :: r, h, B => by
    rw [List.cons_append, insG, if_pos (h y (by simp)), ginsG_pre (fun z hz => h z (by simp [hz]))]; rfl
theorem gins_snoc {x y : Gr} (h : ltG y x = false) : ∀ K, insG x (K ++ [y]) = insG x K ++ [y]
  | [] => by simp [insG, h]
  | z :: r => by
    rw [List.cons_append, insG, insG]
    split
    · rw [gins_snoc h r]; rfl
    · rfl
theorem gout_all {x : Gr} {A : List Gr} (h : ∀ y ∈ A, ltG y x = true) : outG x A = A := by
  rw [outG, List.filter_eq_self]
  intro y hy
  exact (oth_iff x y).2 (Or.inl (h y hy))
theorem gout_app (x : Gr) (A B : List Gr) : outG x (A ++ B) = outG x A ++ outG x B := by rw [outG, List.filter_append]; rfl
/-- Where the grant itself is to be put. -/
theorem gputS_take {x : Gr} {L : List Gr} (hL : L.Pairwise (fun x y => ltG x y = true)) : ∀ k, k ≤ L.length → gputS x false (L.take k) = if (L.take k).all (fun y => ltG y x) = true then (L.take k, false) else (insG x (outG x (L.take k)), true) := by
  intro k
  induction k with
  | zero => intro _; simp [gputS]
  | succ k ih =>
    intro hk
    have hlt : k < L.length := by omega
    have ih := ih (by omega)
    have hpre : ∀ z ∈ L.take k, ltG z L[k] = true := fun z hz => by
      obtain ⟨i, hi, rfl⟩ := List.getElem_of_mem hz
      rw [List.length_take] at hi
      rw [List.getElem_take]
      exact List.pairwise_iff_getElem.1 hL i k (by omega) hlt (by omega)
    rw [List.take_succ_eq_append_getElem hlt, gputS_snoc, ih]
    generalize L[k] = y at *
    generalize L.take k = A at *
    cases hall : A.all (fun y => ltG y x) with
    | true =>
      have hA : ∀ z ∈ A, ltG z x = true := fun z hz => List.all_eq_true.1 hall z hz
      cases hy : ltG y x with
      | true =>
        have ho : othG x y = true := (oth_iff x y).2 (Or.inl hy)
        have e1 : (A ++ [y]).all (fun y => ltG y x) = true := by rw [List.all_append, hall]; simp [hy]
        rw [if_pos rfl, if_pos e1, gstp]
        simp [hy, ho]
      | false =>
        have e1 : (A ++ [y]).all (fun y => ltG y x) = false := by rw [List.all_append, hall]; simp [hy]
        rw [if_pos rfl, if_neg (by rw [e1]; decide), gstp, gout_app, gout_all hA, ginsG_pre hA]
        cases ho : othG x y with
        | true =>
          have e2 : outG x [y] = [y] := by simp [outG, ho]
          rw [e2]; simp [insG, hy]
        | false =>
          have e2 : outG x [y] = [] := by simp [outG, ho]
          rw [e2]; simp [insG, hy]
    | false =>
      obtain ⟨z, hz, hzx⟩ : ∃ z ∈ A, ltG z x = false := by
        have := List.all_eq_false.1 hall
        simpa using this
      have hzy := hpre z hz
      have hy : ltG y x = false := by
        cases hh : ltG y x with
        | false => rfl
        | true => rw [ltG_trans z y x hzy hh] at hzx; cases hzx
      have hxy : ltG x y = true := by
        cases hh : ltG x y with
        | true => rfl
        | false => have := ltG_ntrans z x y hzx hh; rw [this] at hzy; cases hzy
      have ho : othG x y = true := (oth_iff x y).2 (Or.inr hxy)
      have e1 : (A ++ [y]).all (fun y => ltG y x) = false := by rw [List.all_append, hall]; rfl
      have e2 : outG x [y] = [y] := by simp [outG, ho]
      rw [if_neg (by decide), if_neg (by rw [e1]; decide), gstp, gout_app, e2, gins_snoc hy]
      simp [ho]
theorem gputR_eq {x : Gr} {L : List Gr} (hL : L.Pairwise (fun x y => ltG x y = true)) : gputR x false L = insG x (outG x L) := by
  have h := gputS_take (x := x) hL L.length (Nat.le_refl _)
  rw [List.take_length] at h
  rw [gputR, h]
  cases hall : L.all (fun y => ltG y x) with
  | true =>
    have hA : ∀ z ∈ L, ltG z x = true := fun z hz => List.all_eq_true.1 hall z hz
    have e := ginsG_pre hA []
    rw [List.append_nil] at e
    rw [gout_all hA, e]; simp [insG]
  | false => simp
/-- Where a right is taken. -/
theorem gputS_none (x : Gr) (L : List Gr) : gputS x true L = (outG x L, true) := by
  have : ∀ (L A : List Gr), L.foldl (gstp x) (A, true) = (A ++ outG x L, true) := by
    intro L
    induction L with
    | nil => intro A; simp [outG]
    | cons y r ih =>
      intro A
      rw [List.foldl_cons]
      have e : gstp x (A, true) y = (A ++ outG x [y], true) := by
        rw [gstp]
        cases ho : othG x y <;> simp [outG, ho]
      rw [e, ih, show outG x (y :: r) = outG x [y] ++ outG x r from by rw [← gout_app]; rfl, List.append_assoc]
  rw [gputS, this, List.nil_append]
theorem gputR_none (x : Gr) (L : List Gr) : gputR x true L = outG x L := by rw [gputR, gputS_none, if_pos rfl]
end Go.Proofs.Ytgjiicnhedekjaa.Pp
