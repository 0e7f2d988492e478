/- What the law DeltaSame answers: true, for every two trees. -/
import Derived.Test.YtogbahkoijkclaaD12
import Derived.Test.YtogbahkoijkclaaD5
set_option linter.unusedSimpArgs false
set_option linter.unusedVariables false
namespace Go.Proofs.Ytogbahkoijkclaa
open Go.RowKit

theorem Sp.sameB_no {A B : List En} (h : ¬ Sp.dfE A B = 0) : Sp.sameB A B = false := by
  have : (Sp.dfE A B == 0) = false := by simpa using h
  rw [Sp.sameB, this]; rfl
theorem Sp.sameB_iff {A B : List En} (h : Sp.dfE A B = 0) : Sp.sameB A B = true ↔ Sp.likeP A B := by
  have hab : Pp.treeE A = 0 ∧ Pp.treeE B = 0 := by
    by_cases ha : Pp.treeE A = 0
    · rw [Sp.dfE, if_pos ha] at h; exact ⟨ha, h⟩
    · rw [Sp.dfE, if_neg ha] at h; exact absurd h ha
  rw [← Sp.none_like ((Pp.good_iff A).1 hab.1) ((Pp.good_iff B).1 hab.2), Sp.sameB, Sp.dfL, if_pos h, h]
  simp

set_option maxRecDepth 100000 in
set_option maxHeartbeats 2000000 in
theorem deltaSame_walk (A B : List En) (va vb : Value) (w : World) (hA : Lies w va A) (hB : Lies w vb B) (hsA : ∀ e ∈ A, e.path.size ≤ 1000000000 ∧ e.text.size ≤ 1000000000) (hsB : ∀ e ∈ B, e.path.size ≤ 1000000000 ∧ e.text.size ≤ 1000000000) :
    Calls Try.prog 3 #[va, vb] w fun e w' => e = .returned (.bool true) ∧ Below w.heap.size w w' := by
  have HVA := hid hA
  have HVB := hid hB
  have HSA : Hid (Sized A) := (fun e he => ⟨by have := (hsA e he).1; omega, by have := (hsA e he).2; omega⟩ : Sized A)
  have HSB : Hid (Sized B) := (fun e he => ⟨by have := (hsB e he).1; omega, by have := (hsB e he).2; omega⟩ : Sized B)
  have HPA : Hid (∀ e ∈ A, e.path.size ≤ 1000000000) := (fun e he => (hsA e he).1 : ∀ e ∈ A, e.path.size ≤ 1000000000)
  have HPB : Hid (∀ e ∈ B, e.path.size ≤ 1000000000) := (fun e he => (hsB e he).1 : ∀ e ∈ B, e.path.size ≤ 1000000000)
  clear hA hB hsA hsB
  have HI : Hid (Sp.dfE A B = 0 → (Sp.sameB A B = true ↔ Sp.likeP A B)) := (fun h => Sp.sameB_iff h : Sp.dfE A B = 0 → (Sp.sameB A B = true ↔ Sp.likeP A B))
  have HN : Hid (¬ Sp.dfE A B = 0 → Sp.sameB A B = false) := (fun h => Sp.sameB_no h : ¬ Sp.dfE A B = 0 → Sp.sameB A B = false)
  obtain ⟨s, hs⟩ : ∃ s, s = Sp.sameB A B := ⟨_, rfl⟩
  obtain ⟨x, hx⟩ : ∃ x, x = Sp.dfE A B := ⟨_, rfl⟩
  rw [← hs, ← hx] at HI HN
  have HS := hid hs
  have HX := hid hx
  clear hs hx
  by_cases h0 : x = 0
  · have HLK := hid (HI.out h0)
    subst h0
    clear HI HN
    go_enter Try.func3, Try.ntmps3
    go_wp2_with fail
    refine (same_any A B _ _ _ HVA.out HVB.out HSA.out HSB.out).mono ?_
    rintro e w1 ⟨rfl, hb1⟩
    rw [← HS.out, ← HX.out]
    go_wp2_with fail
    refine (twoTrees_any A B _ _ _ (HVA.out.below hb1) (HVB.out.below hb1) HPA.out HPB.out).mono ?_
    rintro e w2 ⟨rfl, hb2⟩
    rw [← HX.out]
    have hb02 := below_trans hb1 hb2
    clear hb1 hb2
    go_wp2_with fail
    refine (deltaBegun_yes _).mono ?_
    rintro e w3 ⟨rfl, hb3⟩
    have hb03 := below_trans hb02 hb3
    clear hb02 hb3
    go_wp2_with fail
    refine (rLike_any A B _ _ _ (HVA.out.below hb03) (HVB.out.below hb03) s HLK.out).mono ?_
    rintro e w4 ⟨rfl, hb4⟩
    have hb04 := below_trans hb03 hb4
    go_wp2_with fail
    go_ret
    exact ⟨by simp, hb04⟩
  · have HF := hid (HN.out h0)
    have h0' : (x == 0) = false := by simpa using h0
    clear HI HN
    go_enter Try.func3, Try.ntmps3
    go_wp2_with fail
    refine (same_any A B _ _ _ HVA.out HVB.out HSA.out HSB.out).mono ?_
    rintro e w1 ⟨rfl, hb1⟩
    rw [← HS.out, ← HX.out, HF.out]
    go_wp2_with fail
    refine (twoTrees_any A B _ _ _ (HVA.out.below hb1) (HVB.out.below hb1) HPA.out HPB.out).mono ?_
    rintro e w2 ⟨rfl, hb2⟩
    rw [← HX.out]
    have hb02 := below_trans hb1 hb2
    clear hb1 hb2
    go_wp2_with fail
    refine (deltaBegun_yes _).mono ?_
    rintro e w3 ⟨rfl, hb3⟩
    have hb03 := below_trans hb02 hb3
    go_wp2_with fail
    go_ret
    exact ⟨by simp, hb03⟩
end Go.Proofs.Ytogbahkoijkclaa
