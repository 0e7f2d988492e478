/- The law MergeOne: what only one side changed is as that side has it. -/
import Derived.Test.YthfdmdjmbbollaaGreatDoorPD
import Derived.Test.YthfdmdjmbbollaaGreatDoorPA
import Derived.Test.YthfdmdjmbbollaaGreatDoorPH
set_option linter.unusedSimpArgs false
set_option linter.unusedVariables false
namespace Go.Proofs.YthfdmdjmbbollaaGreatDoor
open Go.RowKit Go.Maps

theorem liesK_shape {w : World} {v : Value} {C : Mg.CC} (h : LiesK w v C) : ∃ a cap, v = .slice a C.length cap := by
  obtain ⟨a, cap, h1, _⟩ := h
  exact ⟨a, cap, h1⟩
theorem lies_shape {w : World} {v : Value} {L : List En} (h : Lies w v L) : ∃ a cap, v = .slice a L.length cap := by
  obtain ⟨a, cap, h1, _⟩ := h
  exact ⟨a, cap, h1⟩

set_option maxRecDepth 100000 in
set_option maxHeartbeats 4000000 in
theorem mergeOne_walk (B S : List En) (vb vs : Value) (w : World) (hB : Lies w vb B) (hS : Lies w vs S) (sB : Sized B) (sS : Sized S) :
    Calls Tryz.prog 4 #[vb, vs] w fun e w' => e = .returned (.bool true) ∧ Below w.heap.size w w' := by
  have HB := hid hB
  have HS := hid hS
  have HSB := hid sB
  have HSS := hid sS
  obtain ⟨ab, cb, rfl⟩ := lies_shape hB
  obtain ⟨as1, cs1, rfl⟩ := lies_shape hS
  clear hB hS sB sS
  go_enter Tryz.func4, Tryz.ntmps4
  go_wp2_with fail
  refine (mergeBegun_yes _).mono ?_
  rintro e w1 ⟨rfl, hb1⟩
  go_wp2_with fail
  refine (merge_any B S B _ _ _ _ (HB.out.below hb1) (HS.out.below hb1) (HB.out.below hb1) HSB.out HSS.out HSB.out).mono ?_
  rintro e w2 ⟨v2, c2, rfl, hl2, hk2, hb2⟩
  have hb02 := below_tr hb1 hb2
  go_wp2_with fail
  refine (merge_any B B S _ _ _ _ (HB.out.below hb02) (HB.out.below hb02) (HS.out.below hb02) HSB.out HSB.out HSS.out).mono ?_
  rintro e w3 ⟨v3, c3, rfl, hl3, hk3, hb3⟩
  have hb03 := below_tr hb02 hb3
  have hl2' := hl2.below hb3
  have hk2' := hk2.below hb3
  go_wp2_with fail
  refine (merge_any B S S _ _ _ _ (HB.out.below hb03) (HS.out.below hb03) (HS.out.below hb03) HSB.out HSS.out HSS.out).mono ?_
  rintro e w4 ⟨v4, c4, rfl, hl4, hk4, hb4⟩
  have hb04 := below_tr hb03 hb4
  have H2 := hid (hl2'.below hb4)
  have H3 := hid (hl3.below hb4)
  have H4 := hid hl4
  have K2 := hid (hk2'.below hb4)
  have K3 := hid (hk3.below hb4)
  have K4 := hid hk4
  clear hl2 hl3 hl4 hk2 hk3 hk4 hl2' hk2'
  obtain ⟨a2, p2, rfl⟩ := lies_shape H2.out
  obtain ⟨a3, p3, rfl⟩ := lies_shape H3.out
  obtain ⟨a4, p4, rfl⟩ := lies_shape H4.out
  obtain ⟨b2, q2, rfl⟩ := liesK_shape K2.out
  obtain ⟨b3, q3, rfl⟩ := liesK_shape K3.out
  obtain ⟨b4, q4, rfl⟩ := liesK_shape K4.out
  by_cases eB : Pp.treeE B = 0
  · by_cases eS : Pp.treeE S = 0
    · have gB := (Pp.good_iff B).1 eB
      have gS := (Pp.good_iff S).1 eS
      obtain ⟨X, hX1, hX2⟩ := Mg.one_mine gB gS
      obtain ⟨m1, m2, m3⟩ := Mg.m_some eB eS eB hX1
      obtain ⟨n1, n2, n3⟩ := Mg.m_some eB eB eS (Mg.one_theirs gB gS)
      obtain ⟨o1, o2, o3⟩ := Mg.m_some eB eS eS (Mg.one_both gB gS)
      rw [m1, n1, o1]
      rw [m2] at H2 ⊢
      rw [n2] at H3 ⊢
      rw [o2] at H4 ⊢
      rw [m3, n3, o3]
      have HX := hid hX2
      clear m1 m2 m3 n1 n2 n3 o1 o2 o3 K2 K3 K4 hX1 hX2
      simp only [List.length_nil]
      go_wp2_with fail
      refine (rLike_any X S _ _ _ H2.out (HS.out.below hb04) true (by simp [HX.out])).mono ?_
      rintro e w5 ⟨rfl, hb5⟩
      have hb05 := below_tr hb04 hb5
      go_wp2_with fail
      refine (same_yes S _ _ _ (H3.out.below hb5) (HS.out.below hb05)).mono ?_
      rintro e w6 ⟨rfl, hb6⟩
      have hb06 := below_tr hb05 hb6
      go_wp2_with fail
      refine (same_yes S _ _ _ ((H4.out.below hb5).below hb6) (HS.out.below hb06)).mono ?_
      rintro e w7 ⟨rfl, hb7⟩
      have hb07 := below_tr hb06 hb7
      go_wp2_with fail
      go_ret
      exact ⟨rfl, hb07⟩
    · obtain ⟨m1, _, _⟩ := Mg.m_no2 (T := B) eB eS
      obtain ⟨n1, _, _⟩ := Mg.m_no3 eB eB eS
      obtain ⟨o1, _, _⟩ := Mg.m_no2 (T := S) eB eS
      have hE' : (Pp.treeE S != 0) = true := by simpa using eS
      have hE2 : (Pp.treeE S == 0) = false := by simpa using eS
      rw [m1, n1, o1]
      clear m1 n1 o1
      go_wp2_with fail
      go_ret
      exact ⟨rfl, hb04⟩
  · obtain ⟨m1, _, _⟩ := Mg.m_no1 (M := S) (T := B) eB
    obtain ⟨n1, _, _⟩ := Mg.m_no1 (M := B) (T := S) eB
    obtain ⟨o1, _, _⟩ := Mg.m_no1 (M := S) (T := S) eB
    have hE' : (Pp.treeE B != 0) = true := by simpa using eB
    have hE2 : (Pp.treeE B == 0) = false := by simpa using eB
    rw [m1, n1, o1]
    clear m1 n1 o1
    go_wp2_with fail
    go_ret
    exact ⟨rfl, hb04⟩
end Go.Proofs.YthfdmdjmbbollaaGreatDoor
