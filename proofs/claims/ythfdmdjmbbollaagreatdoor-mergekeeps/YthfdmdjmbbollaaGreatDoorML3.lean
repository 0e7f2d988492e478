/- The law MergeAgain: who merged once, and merges that again with the same side, changes nothing more. -/
import Derived.Test.YthfdmdjmbbollaaGreatDoorML2w
import Derived.Test.YthfdmdjmbbollaaGreatDoorPA
set_option linter.unusedSimpArgs false
set_option linter.unusedVariables false
namespace Go.Proofs.YthfdmdjmbbollaaGreatDoor
open Go.RowKit Go.Maps

theorem Sp.likeP_symm {A B : List En} (h : Sp.likeP A B) : Sp.likeP B A := by
  refine ⟨h.1.symm, fun j h1 h2 => ?_⟩
  have := Sp.likeE_iff.1 (h.2 j h2 h1)
  exact Sp.likeE_iff.2 ⟨this.1.symm, this.2.1.symm, this.2.2.symm⟩
theorem good_sized {X : List En} (g : Pp.Good X) : Sized X := fun e he => by
  have h1 := Mg.good_len g he
  have h2 := Mg.good_txt g he
  rw [Mg.good_text g he] at h2
  exact ⟨by omega, by omega⟩

set_option maxRecDepth 100000 in
set_option maxHeartbeats 4000000 in
theorem mergeAgain_walk (B M T : List En) (vb vm vt : Value) (w : World) (hB : Lies w vb B) (hM : Lies w vm M) (hT : Lies w vt T) (sB : Sized B) (sM : Sized M) (sT : Sized T) :
    Calls Tryz.prog 6 #[vb, vm, vt] w fun e w' => e = .returned (.bool true) ∧ Below w.heap.size w w' := by
  have HB := hid hB
  have HM := hid hM
  have HT := hid hT
  have HSB := hid sB
  have HSM := hid sM
  have HST := hid sT
  obtain ⟨ab, cb, rfl⟩ := lies_shape hB
  obtain ⟨am, cm, rfl⟩ := lies_shape hM
  obtain ⟨at1, ct, rfl⟩ := lies_shape hT
  clear hB hM hT sB sM sT
  go_enter Tryz.func6, Tryz.ntmps6
  go_wp2_with fail
  refine (mergeBegun_yes _).mono ?_
  rintro e w1 ⟨rfl, hb1⟩
  go_wp2_with fail
  refine (merge_any B M T _ _ _ _ (HB.out.below hb1) (HM.out.below hb1) (HT.out.below hb1) HSB.out HSM.out HST.out).mono ?_
  rintro e w2 ⟨v2, c2, rfl, hl2, hk2, hb2⟩
  have hb02 := below_tr hb1 hb2
  have H2 := hid hl2
  obtain ⟨a2, p2, rfl⟩ := lies_shape hl2
  obtain ⟨b2, q2, rfl⟩ := liesK_shape hk2
  clear hl2 hk2
  by_cases e1 : Mg.mE B M T = 0
  · obtain ⟨g1, g2, g3, X, C, hX⟩ := Mg.m_ok e1
    have gT := (Pp.good_iff T).1 g3
    have gX := Mg.mrg_good ((Pp.good_iff B).1 g1) ((Pp.good_iff M).1 g2) gT hX
    obtain ⟨_, n2, n3⟩ := Mg.m_some g1 g2 g3 hX
    obtain ⟨Y, hY1, hY2⟩ := Mg.one_mine gT gX
    obtain ⟨o1, o2, o3⟩ := Mg.m_some g3 ((Pp.good_iff X).2 gX) g3 hY1
    have HSX := hid (good_sized gX)
    have HLK := hid (Sp.likeP_symm hY2)
    have HO := hid (And.intro o1 (And.intro o2 o3))
    rw [e1]
    rw [n2] at H2 ⊢
    clear e1 n2 n3 hX g1 g2 g3 gX hY1 hY2 o1 o2 o3
    go_wp2_with fail
    refine (merge_any T X T _ _ _ _ (HT.out.below hb02) H2.out (HT.out.below hb02) HST.out HSX.out HST.out).mono ?_
    rintro e w3 ⟨v3, c3, rfl, hl3, hk3, hb3⟩
    have hb03 := below_tr hb02 hb3
    rw [HO.out.2.1] at hl3
    rw [HO.out.2.2] at hk3
    have H3 := hid hl3
    obtain ⟨a3, p3, rfl⟩ := lies_shape hl3
    obtain ⟨b3, q3, rfl⟩ := liesK_shape hk3
    rw [HO.out.1]
    clear hl3 hk3
    simp only [List.length_nil]
    go_wp2_with fail
    refine (rLike_any X Y _ _ _ (H2.out.below hb3) H3.out true (by simp [HLK.out])).mono ?_
    rintro e w4 ⟨rfl, hb4⟩
    have hb04 := below_tr hb03 hb4
    go_wp2_with fail
    go_ret
    exact ⟨rfl, hb04⟩
  · have hE' : (Mg.mE B M T != 0) = true := by simpa using e1
    generalize Mg.mE B M T = E1 at *
    go_wp2_with fail
    go_ret
    exact ⟨rfl, hb02⟩
end Go.Proofs.YthfdmdjmbbollaaGreatDoor
