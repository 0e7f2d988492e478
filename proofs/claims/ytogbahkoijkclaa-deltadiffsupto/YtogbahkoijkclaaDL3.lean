/- What the law DeltaDiffs answers: true, for every two trees. -/
import Derived.Test.YtogbahkoijkclaaD12
import Derived.Test.YtogbahkoijkclaaD5
import Derived.Test.YtogbahkoijkclaaD16
set_option linter.unusedSimpArgs false
set_option linter.unusedVariables false
namespace Go.Proofs.Ytogbahkoijkclaa
open Go.RowKit

theorem liesC_nil (w : World) : LiesC w (.slice none 0 0) [] := ⟨none, 0, rfl, Nat.le_refl _, by simp, fun i hi => absurd hi (by simp)⟩

set_option maxRecDepth 100000 in
set_option maxHeartbeats 2000000 in
theorem deltaDiffs_walk (A B : List En) (va vb : Value) (w : World) (hA : Lies w va A) (hB : Lies w vb B) (hsA : ∀ e ∈ A, e.path.size ≤ 1000000000 ∧ e.text.size ≤ 1000000000) (hsB : ∀ e ∈ B, e.path.size ≤ 1000000000 ∧ e.text.size ≤ 1000000000) :
    Calls Try.prog 4 #[va, vb] w fun e w' => e = .returned (.bool true) ∧ Below w.heap.size w w' := by
  have HVA := hid hA
  have HVB := hid hB
  have HSA : Hid (Sized A) := (fun e he => ⟨by have := (hsA e he).1; omega, by have := (hsA e he).2; omega⟩ : Sized A)
  have HSB : Hid (Sized B) := (fun e he => ⟨by have := (hsB e he).1; omega, by have := (hsB e he).2; omega⟩ : Sized B)
  have HPA : Hid (∀ e ∈ A, e.path.size ≤ 1000000000) := (fun e he => (hsA e he).1 : ∀ e ∈ A, e.path.size ≤ 1000000000)
  have HPB : Hid (∀ e ∈ B, e.path.size ≤ 1000000000) := (fun e he => (hsB e he).1 : ∀ e ∈ B, e.path.size ≤ 1000000000)
  clear hA hB hsA hsB
  by_cases h0 : Sp.dfE A B = 0
  · have hab : Pp.treeE A = 0 ∧ Pp.treeE B = 0 := by
      by_cases ha : Pp.treeE A = 0
      · rw [Sp.dfE, if_pos ha] at h0; exact ⟨ha, h0⟩
      · rw [Sp.dfE, if_neg ha] at h0; exact absurd h0 ha
    have hgA := (Pp.good_iff A).1 hab.1
    have hgB := (Pp.good_iff B).1 hab.2
    have HGA := hid hgA
    have HGB := hid hgB
    have HLN : Hid ((Sp.dels A B ++ Sp.mks A B).length ≤ 1000000000000000) := (by
      have h1 := Sp.dels_len A B
      have h2 := Sp.mks_len A B
      have h3 := hgA.len
      have h4 := hgB.len
      rw [List.length_append]; omega : (Sp.dels A B ++ Sp.mks A B).length ≤ 1000000000000000)
    have HDL : Hid (Sp.dfL A B = Sp.dels A B ++ Sp.mks A B) := (by rw [Sp.dfL, if_pos h0] : Sp.dfL A B = Sp.dels A B ++ Sp.mks A B)
    have H0 := hid h0
    clear h0 hab hgA hgB
    go_enter Try.func4, Try.ntmps4
    go_wp2_with fail
    refine (diff_any A B _ _ _ HVA.out HVB.out HSA.out HSB.out).mono ?_
    rintro e w1 ⟨u, rfl, hou, hb1⟩
    rw [H0.out]
    rw [HDL.out] at hou
    have HU1 := hid (liesC_row hou HLN.out)
    clear hou
    go_wp2_with fail
    refine (twoTrees_any A B _ _ _ (HVA.out.below hb1) (HVB.out.below hb1) HPA.out HPB.out).mono ?_
    rintro e w2 ⟨rfl, hb2⟩
    rw [H0.out]
    have hb02 := below_trans hb1 hb2
    have HU2 := hid (HU1.out.below hb2)
    clear hb1 hb2 HU1
    go_wp2_with fail
    refine (diffOf_any A B _ _ _ (HVA.out.below hb02) (HVB.out.below hb02) HGA.out HGB.out).mono ?_
    rintro e w3 ⟨u2, rfl, hou, hb3⟩
    have HV3 := hid (liesC_row hou HLN.out)
    have hb03 := below_trans hb02 hb3
    have HU3 := hid (HU2.out.below hb3)
    clear hb02 hb3 HU2 hou
    go_wp2_with fail
    refine (deltaBegun_yes _).mono ?_
    rintro e w4 ⟨rfl, hb4⟩
    have hb04 := below_trans hb03 hb4
    have HU4 := hid (HU3.out.below hb4)
    have HV4 := hid (HV3.out.below hb4)
    clear hb03 hb4 HU3 HV3
    go_wp2_with fail
    refine (sameChg_yes _ _ _ _ HU4.out HV4.out).mono ?_
    rintro e w5 ⟨rfl, hb5⟩
    have hb05 := below_trans hb04 hb5
    go_wp2_with fail
    go_ret
    exact ⟨by simp, hb05⟩
  · have HDL : Hid (Sp.dfL A B = []) := (by rw [Sp.dfL, if_neg h0] : Sp.dfL A B = [])
    obtain ⟨x, hx⟩ : ∃ x, x = Sp.dfE A B := ⟨_, rfl⟩
    rw [← hx] at h0
    have HX := hid hx
    have h0' : (x == 0) = false := by simpa using h0
    clear hx h0
    go_enter Try.func4, Try.ntmps4
    go_wp2_with fail
    refine (diff_any A B _ _ _ HVA.out HVB.out HSA.out HSB.out).mono ?_
    rintro e w1 ⟨u, rfl, hou, hb1⟩
    rw [← HX.out]
    rw [HDL.out] at hou
    have HU1 : Hid (LiesC w1 u []) := liesC_row (L := []) hou (by simp)
    clear hou
    go_wp2_with fail
    refine (twoTrees_any A B _ _ _ (HVA.out.below hb1) (HVB.out.below hb1) HPA.out HPB.out).mono ?_
    rintro e w2 ⟨rfl, hb2⟩
    rw [← HX.out]
    have hb02 := below_trans hb1 hb2
    have HU2 := hid (HU1.out.below hb2)
    clear hb1 hb2 HU1
    go_wp2_with fail
    refine (deltaBegun_yes _).mono ?_
    rintro e w4 ⟨rfl, hb4⟩
    have hb04 := below_trans hb02 hb4
    have HU4 := hid (HU2.out.below hb4)
    clear hb02 hb4 HU2
    go_wp2_with fail
    refine (sameChg_yes [] _ _ _ HU4.out (liesC_nil _)).mono ?_
    rintro e w5 ⟨rfl, hb5⟩
    have hb05 := below_trans hb04 hb5
    go_wp2_with fail
    go_ret
    exact ⟨by simp, hb05⟩
end Go.Proofs.Ytogbahkoijkclaa
