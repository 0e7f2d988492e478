/- The walk of the law MergeTurns. -/
import Derived.Test.YthfdmdjmbbollaaGreatDoorML2
set_option linter.unusedSimpArgs false
set_option linter.unusedVariables false
namespace Go.Proofs.YthfdmdjmbbollaaGreatDoor
open Go.RowKit Go.Maps

theorem Mg.m_ok {B M T : List En} (h : Mg.mE B M T = 0) : Pp.treeE B = 0 ∧ Pp.treeE M = 0 ∧ Pp.treeE T = 0 ∧ ∃ X C, Mg.mrg B M T = some (X, C) := by
  by_cases h1 : Pp.treeE B = 0
  · by_cases h2 : Pp.treeE M = 0
    · by_cases h3 : Pp.treeE T = 0
      · cases hm : Mg.mrg B M T with
        | none => rw [(Mg.m_none h1 h2 h3 hm).1] at h; cases h
        | some x => exact ⟨h1, h2, h3, x.1, x.2, rfl⟩
      · rw [(Mg.m_no3 h1 h2 h3).1] at h; exact absurd h h3
    · rw [(Mg.m_no2 h1 h2).1] at h; exact absurd h h2
  · rw [(Mg.m_no1 h1).1] at h; exact absurd h h1

set_option maxRecDepth 100000 in
set_option maxHeartbeats 4000000 in
theorem mergeTurns_walk (B M T : List En) (vb vm vt : Value) (w : World) (hB : Lies w vb B) (hM : Lies w vm M) (hT : Lies w vt T) (sB : Sized B) (sM : Sized M) (sT : Sized T) :
    Calls Tryz.prog 7 #[vb, vm, vt] w fun e w' => e = .returned (.bool true) ∧ Below w.heap.size w w' := by
  have HB := hid hB
  have HM := hid hM
  have HT := hid hT
  have HSB := hid sB
  have HSM := hid sM
  have HST := hid sT
  obtain ⟨ab, cb, rfl⟩ := lies_shape hB
  obtain ⟨am, cm, rfl⟩ := lies_shape hM
  obtain ⟨at1, ct, rfl⟩ := lies_shape hT
  clear hB hM hT sB sM sT
  go_enter Tryz.func7, Tryz.ntmps7
  go_wp2_with fail
  refine (mergeBegun_yes _).mono ?_
  rintro e w1 ⟨rfl, hb1⟩
  go_wp2_with fail
  refine (merge_any B M T _ _ _ _ (HB.out.below hb1) (HM.out.below hb1) (HT.out.below hb1) HSB.out HSM.out HST.out).mono ?_
  rintro e w2 ⟨v2, c2, rfl, hl2, hk2, hb2⟩
  have hb02 := below_tr hb1 hb2
  go_wp2_with fail
  refine (merge_any B T M _ _ _ _ (HB.out.below hb02) (HT.out.below hb02) (HM.out.below hb02) HSB.out HST.out HSM.out).mono ?_
  rintro e w3 ⟨v3, c3, rfl, hl3, hk3, hb3⟩
  have hb03 := below_tr hb02 hb3
  have H2 := hid (hl2.below hb3)
  have H3 := hid hl3
  have K2 := hid (hk2.below hb3)
  have K3 := hid hk3
  clear hl2 hl3 hk2 hk3
  obtain ⟨a2, p2, rfl⟩ := lies_shape H2.out
  obtain ⟨a3, p3, rfl⟩ := lies_shape H3.out
  obtain ⟨b2, q2, rfl⟩ := liesK_shape K2.out
  obtain ⟨b3, q3, rfl⟩ := liesK_shape K3.out
  by_cases e1 : Mg.mE B M T = 0
  · by_cases e2 : Mg.mE B T M = 0
    · obtain ⟨g1, g2, g3, X, C, hX⟩ := Mg.m_ok e1
      obtain ⟨_, _, _, X', C', hX'⟩ := Mg.m_ok e2
      obtain ⟨t1, t2⟩ := Mg.turns ((Pp.good_iff B).1 g1) ((Pp.good_iff M).1 g2) ((Pp.good_iff T).1 g3) hX hX'
      obtain ⟨_, n2, n3⟩ := Mg.m_some g1 g2 g3 hX
      obtain ⟨_, o2, o3⟩ := Mg.m_some g1 g3 g2 hX'
      rw [e1, e2]
      rw [n2] at H2 ⊢
      rw [o2] at H3 ⊢
      rw [n3] at K2 ⊢
      rw [o3] at K3 ⊢
      clear e1 e2 n2 n3 o2 o3 hX hX' g1 g2 g3
      by_cases hC : C = []
      · have hC' := t1.1 hC
        have HX := hid (t2 hC)
        clear t1 t2
        subst hC hC'
        simp only [List.length_nil]
        go_wp2_with fail
        refine (rLike_any X X' _ _ _ H2.out H3.out true (by simp [HX.out])).mono ?_
        rintro e w4 ⟨rfl, hb4⟩
        have hb04 := below_tr hb03 hb4
        go_wp2_with fail
        go_ret
        exact ⟨rfl, hb04⟩
      · have hC' : C' ≠ [] := fun e => hC (t1.2 e)
        have l1 : 0 < C.length := List.length_pos_iff.2 hC
        have l2 : 0 < C'.length := List.length_pos_iff.2 hC'
        have l1' : (0 : Int) < C.length := by omega
        have z1 : ((C.length : Int) == 0) = false := by simpa using (by omega : ¬ (C.length : Int) = 0)
        have z2 : ((C'.length : Int) == 0) = false := by simpa using (by omega : ¬ (C'.length : Int) = 0)
        clear t1 t2 hC hC'
        generalize C.length = c1 at *
        generalize C'.length = c2 at *
        go_wp2_with fail
        go_ret
        exact ⟨rfl, hb03⟩
    · have hE' : (Mg.mE B T M != 0) = true := by simpa using e2
      rw [e1]
      generalize Mg.mE B T M = E2 at *
      clear e1 e2
      go_wp2_with fail
      go_ret
      exact ⟨rfl, hb03⟩
  · have hE' : (Mg.mE B M T != 0) = true := by simpa using e1
    generalize Mg.mE B M T = E1 at *
    generalize Mg.mE B T M = E2 at *
    go_wp2_with fail
    all_goals
      go_ret
      exact ⟨rfl, hb03⟩
end Go.Proofs.YthfdmdjmbbollaaGreatDoor
