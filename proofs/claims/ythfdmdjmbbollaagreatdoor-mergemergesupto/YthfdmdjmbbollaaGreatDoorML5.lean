/- The law MergeMerges: Merge and Clean answer just what the document says. -/
import Derived.Test.YthfdmdjmbbollaaGreatDoorM15
import Derived.Test.YthfdmdjmbbollaaGreatDoorPK
import Derived.Test.YthfdmdjmbbollaaGreatDoorPN
import Derived.Test.YthfdmdjmbbollaaGreatDoorML1
set_option linter.unusedSimpArgs false
set_option linter.unusedVariables false
namespace Go.Proofs.YthfdmdjmbbollaaGreatDoor
open Go.RowKit Go.Maps

namespace Mg
def thE (B M T : List En) : Int := if Sp.dfE B M = 0 then Pp.treeE T else Sp.dfE B M
theorem th_no {B M T : List En} (h : ¬ thE B M T = 0) : mE B M T = thE B M T ∧ mT B M T = [] ∧ mC B M T = [] := by
  by_cases hB : Pp.treeE B = 0
  · by_cases hM : Pp.treeE M = 0
    · have e : thE B M T = Pp.treeE T := by rw [thE, Sp.dfE, if_pos hB, if_pos hM]
      rw [e] at h ⊢
      exact m_no3 hB hM h
    · have e : thE B M T = Pp.treeE M := by rw [thE, Sp.dfE, if_pos hB, if_neg hM]
      rw [e]
      exact m_no2 hB hM
  · have e : thE B M T = Pp.treeE B := by rw [thE, Sp.dfE, if_neg hB, if_neg hB]
    rw [e]
    exact m_no1 hB
theorem th_yes {B M T : List En} (h : thE B M T = 0) : Pp.treeE B = 0 ∧ Pp.treeE M = 0 ∧ Pp.treeE T = 0 := by
  by_cases hB : Pp.treeE B = 0
  · by_cases hM : Pp.treeE M = 0
    · rw [thE, Sp.dfE, if_pos hB, if_pos hM] at h
      exact ⟨hB, hM, h⟩
    · rw [thE, Sp.dfE, if_pos hB, if_neg hM] at h
      exact absurd h hM
  · rw [thE, Sp.dfE, if_neg hB, if_neg hB] at h
    exact absurd h hB
end Mg

set_option maxRecDepth 100000 in
set_option maxHeartbeats 4000000 in
theorem mergeMerges_walk (B M T : List En) (vb vm vt : Value) (w : World) (hB : Lies w vb B) (hM : Lies w vm M) (hT : Lies w vt T) (nB : B.length ≤ 1048576) (nM : M.length ≤ 1048576) (nT : T.length ≤ 1048576) (zB : ∀ e ∈ B, e.path.size ≤ 1048576 ∧ e.text.size ≤ 1048576) (zM : ∀ e ∈ M, e.path.size ≤ 1048576 ∧ e.text.size ≤ 1048576) (zT : ∀ e ∈ T, e.path.size ≤ 1048576 ∧ e.text.size ≤ 1048576) :
    Calls Tryz.prog 3 #[vb, vm, vt] w fun e w' => e = .returned (.bool true) ∧ Below w.heap.size w w' := by
  have HB := hid hB
  have HM := hid hM
  have HT := hid hT
  have sz : ∀ {L : List En}, (∀ e ∈ L, e.path.size ≤ 1048576 ∧ e.text.size ≤ 1048576) → Sized L := fun h e he => ⟨by have := (h e he).1; omega, by have := (h e he).2; omega⟩
  have sp : ∀ {L : List En}, (∀ e ∈ L, e.path.size ≤ 1048576 ∧ e.text.size ≤ 1048576) → ∀ e ∈ L, e.path.size ≤ 1000000000 := fun h e he => by have := (h e he).1; omega
  have HSB := hid (sz zB)
  have HSM := hid (sz zM)
  have HST := hid (sz zT)
  have HPB := hid (sp zB)
  have HPM := hid (sp zM)
  have HPT := hid (sp zT)
  obtain ⟨ab, cb, rfl⟩ := lies_shape hB
  obtain ⟨am, cm, rfl⟩ := lies_shape hM
  obtain ⟨at1, ct, rfl⟩ := lies_shape hT
  clear hB hM hT sz sp nB nM nT zB zM zT
  go_enter Tryz.func3, Tryz.ntmps3
  go_wp2_with fail
  refine (merge_any B M T _ _ _ _ HB.out HM.out HT.out HSB.out HSM.out HST.out).mono ?_
  rintro e w1 ⟨v1, c1, rfl, hl1, hk1, hb1⟩
  obtain ⟨a1, p1, rfl⟩ := lies_shape hl1
  obtain ⟨b1, q1, rfl⟩ := liesK_shape hk1
  go_wp2_with fail
  refine (clean_any B M T _ _ _ _ (HB.out.below hb1) (HM.out.below hb1) (HT.out.below hb1) HSB.out HSM.out HST.out).mono ?_
  rintro e w2 ⟨rfl, hb2⟩
  have hb02 := below_tr hb1 hb2
  have HL2 := hid (hl1.below hb2)
  have HK2 := hid (hk1.below hb2)
  clear hl1 hk1
  go_wp2_with fail
  refine (threeTrees_any B M T _ _ _ _ (HB.out.below hb02) (HM.out.below hb02) (HT.out.below hb02) HPB.out HPM.out HPT.out).mono ?_
  rintro e w3 ⟨rfl, hb3⟩
  have hb03 := below_tr hb02 hb3
  have HL3 := hid (HL2.out.below hb3)
  have HK3 := hid (HK2.out.below hb3)
  clear HL2 HK2
  rw [show (if Sp.dfE B M = 0 then Pp.treeE T else Sp.dfE B M) = Mg.thE B M T from rfl]
  by_cases h0 : Mg.thE B M T = 0
  · obtain ⟨gB, gM, gT⟩ := Mg.th_yes h0
    rw [h0]
    go_wp2_with fail
    refine (mergeOf_any B M T _ _ _ _ (HB.out.below hb03) (HM.out.below hb03) (HT.out.below hb03) ((Pp.good_iff B).1 gB) ((Pp.good_iff M).1 gM) ((Pp.good_iff T).1 gT)).mono ?_
    rintro e w4 ⟨hn, hs, hb4⟩
    have hb04 := below_tr hb03 hb4
    have HL4 := hid (HL3.out.below hb4)
    have HK4 := hid (HK3.out.below hb4)
    cases hr : Mg.mrg B M T with
    | none =>
      obtain ⟨e1, e2, e3⟩ := Mg.m_none gB gM gT hr
      obtain rfl := hn hr
      rw [e2] at HL4
      rw [e3] at HK4
      rw [e1, e2, e3]
      clear hn hs hr e1 e2 e3 h0 gB gM gT HL3 HK3
      go_wp2_with fail
      refine (mergeBegun_yes _).mono ?_
      rintro e w5 ⟨rfl, hb5⟩
      have hb05 := below_tr hb04 hb5
      go_wp2_with fail
      refine (treeIs_yes [] [] _ _ 2 _ (HL4.out.below hb5) (fun h => absurd h (by decide))).mono ?_
      rintro e w6 ⟨rfl, hb6⟩
      have hb56 := below_tr hb5 hb6
      have hb06 := below_tr hb05 hb6
      go_wp2_with fail
      refine (sameCopies_yes [] _ _ _ (HK4.out.below hb56) (LiesK.nil _)).mono ?_
      rintro e w7 ⟨rfl, hb7⟩
      have hb07 := below_tr hb06 hb7
      go_wp2_with fail
      go_ret
      exact ⟨rfl, hb07⟩
    | some x =>
      obtain ⟨X, C⟩ := x
      obtain ⟨e1, e2, e3⟩ := Mg.m_some gB gM gT hr
      obtain ⟨ve, vc, rfl, hle, hke⟩ := hs X C hr
      have HLE := hid hle
      have HKE := hid hke
      obtain ⟨a9, p9, rfl⟩ := lies_shape hle
      obtain ⟨b9, q9, rfl⟩ := liesK_shape hke
      rw [e2] at HL4
      rw [e3] at HK4
      rw [e1, e2, e3]
      clear hn hs hr e1 e2 e3 h0 gB gM gT HL3 HK3 hle hke
      go_wp2_with fail
      refine (mergeBegun_yes _).mono ?_
      rintro e w5 ⟨rfl, hb5⟩
      have hb05 := below_tr hb04 hb5
      go_wp2_with fail
      refine (treeIs_yes X X _ _ 0 _ (HL4.out.below hb5) (fun _ => HLE.out.below hb5)).mono ?_
      rintro e w6 ⟨rfl, hb6⟩
      have hb56 := below_tr hb5 hb6
      have hb06 := below_tr hb05 hb6
      go_wp2_with fail
      refine (sameCopies_yes C _ _ _ (HK4.out.below hb56) (HKE.out.below hb56)).mono ?_
      rintro e w7 ⟨rfl, hb7⟩
      have hb07 := below_tr hb06 hb7
      by_cases hc : C.length = 0
      · have HC : Hid (C = []) := (List.length_eq_zero_iff.1 hc : C = [])
        rw [hc]
        go_wp2_with fail
        go_ret
        exact ⟨by show Ending.returned (.bool (decide (C = []))) = _; simp [HC.out], hb07⟩
      · have hc1 : ((C.length : Int) == 0) = false := by simpa using (by omega : ¬ (C.length : Int) = 0)
        have hc2 : decide (C.length = 0) = false := by simpa using hc
        have HC : Hid (¬ C = []) := (fun e => hc (by rw [e]; rfl) : ¬ C = [])
        generalize C.length = n at hc1 hc2 ⊢
        clear hc
        go_wp2_with fail
        go_ret
        exact ⟨by show Ending.returned (.bool (!decide (C = []))) = _; simp [HC.out], hb07⟩
  · obtain ⟨e1, e2, e3⟩ := Mg.th_no h0
    rw [e2] at HL3
    rw [e3] at HK3
    rw [e1, e2, e3]
    generalize Mg.thE B M T = r at *
    have h0' : (r == 0) = false := by simpa using h0
    have h0'' : decide (r = 0) = false := by simpa using h0
    have HR := hid h0
    clear e1 e2 e3 h0
    go_wp2_with fail
    refine (mergeBegun_yes _).mono ?_
    rintro e w5 ⟨rfl, hb5⟩
    have hb05 := below_tr hb03 hb5
    go_wp2_with fail
    refine (treeIs_yes [] [] _ _ r _ (by rw [Pp.ifz_no HR.out]; exact HL3.out.below hb5) (fun h => absurd h HR.out)).mono ?_
    rintro e w6 ⟨rfl, hb6⟩
    have hb56 := below_tr hb5 hb6
    have hb06 := below_tr hb05 hb6
    go_wp2_with fail
    refine (sameCopies_yes [] _ _ _ (HK3.out.below hb56) (LiesK.nil _)).mono ?_
    rintro e w7 ⟨rfl, hb7⟩
    have hb07 := below_tr hb06 hb7
    go_wp2_with fail
    go_ret
    exact ⟨rfl, hb07⟩
end Go.Proofs.YthfdmdjmbbollaaGreatDoor
