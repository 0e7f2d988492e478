/- What the law HubNews answers: true, whatever it is handed. -/
import Derived.Test.YtmdkecdhgjjceaaGreatKG
import Derived.Test.YtmdkecdhgjjceaaGreatU4
set_option linter.unusedSimpArgs false
set_option linter.unusedVariables false
namespace Go.Proofs.YtmdkecdhgjjceaaGreat
open Go.RowKit

set_option maxRecDepth 100000 in
set_option maxHeartbeats 8000000 in
theorem hubNews_walk (l r : Int) (w : World) :
    Calls Tryz.prog 3 #[.int .i64 l, .int .i64 r] w fun e w' => e = .returned (.bool true) ∧ Below w.heap.size w w' := by
  obtain ⟨rr, hrr⟩ : ∃ rr, rr = Pp.uchE [] 1 l r := ⟨_, rfl⟩
  obtain ⟨N, hN⟩ : ∃ N, N = Hu.nwH l r := ⟨_, rfl⟩
  have HRR := hid hrr
  have HN := hid hN
  have HNP : Hid (rr = 0 → N = ⟨[], [], [], 1, l, r, 0⟩) := (fun h => by rw [hN, Hu.nwH, ← hrr, if_pos h] : rr = 0 → N = ⟨[], [], [], 1, l, r, 0⟩)
  have HNZ : Hid (¬ rr = 0 → N = zeroH) := (fun h => by rw [hN, Hu.nwH, ← hrr, if_neg h] : ¬ rr = 0 → N = zeroH)
  clear hrr hN
  go_enter Tryz.func3, Tryz.ntmps3
  go_wp2_with fail
  refine (hnew_any l r _).mono ?_
  rintro e w1 ⟨u, rfl, hl, hb1⟩
  rw [← HRR.out]
  rw [← HN.out] at hl
  have HL := hid hl
  obtain ⟨fa, fc, ga, gc, sa, sc, rfl⟩ := hl.shape
  clear hl
  obtain ⟨wa, hwa⟩ : ∃ wa, wa = w1.alloc (.cells #[.slice fa N.fos.length fc, .slice ga N.gs.length gc, .slice sa N.ss.length sc, .int .i64 N.nx, .int .i64 N.la, .int .i64 N.ro, .int .i64 N.now] 28) := ⟨_, rfl⟩
  obtain ⟨wz, hwz⟩ : ∃ wz, wz = wa.alloc (.cells #[.slice none 0 0, .slice none 0 0, .slice none 0 0, .int .i64 1, .int .i64 l, .int .i64 r, .int .i64 0] 28) := ⟨_, rfl⟩
  have sa1 : wa.heap.size = w1.heap.size + 1 := by rw [hwa]; simp
  have bwa : Below w1.heap.size w1 wa := by rw [hwa]; exact (Below.refl _ _).alloc (Nat.le_refl _) _
  have bwz : Below wa.heap.size wa wz := by rw [hwz]; exact (Below.refl _ _).alloc (Nat.le_refl _) _
  have hbz : Below w1.heap.size w1 wz := below_tr bwa bwz
  have HX : Hid (Cs wz w1.heap.size [.slice fa N.fos.length fc, .slice ga N.gs.length gc, .slice sa N.ss.length sc, .int .i64 N.nx, .int .i64 N.la, .int .i64 N.ro, .int .i64 N.now]) := ((by rw [hwa]; exact Cs.new w1 [.slice fa N.fos.length fc, .slice ga N.gs.length gc, .slice sa N.ss.length sc, .int .i64 N.nx, .int .i64 N.la, .int .i64 N.ro, .int .i64 N.now] _ : Cs wa w1.heap.size [.slice fa N.fos.length fc, .slice ga N.gs.length gc, .slice sa N.ss.length sc, .int .i64 N.nx, .int .i64 N.la, .int .i64 N.ro, .int .i64 N.now]).below bwz : Cs wz w1.heap.size _)
  have HY : Hid (Cs wz (w1.heap.size + 1) [.slice none 0 0, .slice none 0 0, .slice none 0 0, .int .i64 1, .int .i64 l, .int .i64 r, .int .i64 0]) := (by rw [← sa1, hwz]; exact Cs.new wa [.slice none 0 0, .slice none 0 0, .slice none 0 0, .int .i64 1, .int .i64 l, .int .i64 r, .int .i64 0] _ : Cs wz (w1.heap.size + 1) _)
  have hwzz : (w1.alloc (.cells #[.slice fa N.fos.length fc, .slice ga N.gs.length gc, .slice sa N.ss.length sc, .int .i64 N.nx, .int .i64 N.la, .int .i64 N.ro, .int .i64 N.now] 28)).alloc (.cells #[.slice none 0 0, .slice none 0 0, .slice none 0 0, .int .i64 1, .int .i64 l, .int .i64 r, .int .i64 0] 28) = wz := by rw [hwz, hwa]
  have HWZ := hid hwzz
  have hb0z := below_tr hb1 hbz
  clear hwa hwz bwa bwz sa1 hwzz
  have y0 := HY.out.cell 0 rfl
  have y1 := HY.out.cell 1 rfl
  have y2 := HY.out.cell 2 rfl
  have y3 := HY.out.cell 3 rfl
  have y4 := HY.out.cell 4 rfl
  have y5 := HY.out.cell 5 rfl
  have y6 := HY.out.cell 6 rfl
  go_upto_region 3 with fail
  try simp only [World.setCell_alloc_new]
  rw [HWZ.out]
  clear HWZ
  go_wp2_with fail
  refine (rCheckUploads_any [] _ 1 l r _ ⟨none, 0, rfl, Nat.le_refl _, Nat.zero_le _, fun i h => absurd h (by simp)⟩ (fun s hs => by cases hs)).mono ?_
  rintro e w2 ⟨rfl, hb2⟩
  rw [← HRR.out]
  have HX2 := hid (HX.out.below hb2)
  have HY2 := hid (HY.out.below hb2)
  have HL2 := hid ((HL.out.below hbz).below hb2)
  have hb02 := below_tr hb0z hb2
  have hs2 := hb2.size
  have hlx := HY.out.lt
  clear y0 y1 y2 y3 y4 y5 y6
  by_cases h0 : rr = 0
  · subst h0
    obtain rfl := HNP.out rfl
    go_wp2_with fail
    refine (hubBegun_yes _).mono ?_
    rintro e w3 ⟨rfl, hb3⟩
    have hb03 := below_tr hb02 hb3
    have HX3 := hid (HX2.out.below hb3)
    have HY3 := hid (HY2.out.below hb3)
    have HL3 := hid (HL2.out.below hb3)
    have x0 := HX3.out.cell 0 rfl
    have x1 := HX3.out.cell 1 rfl
    have x2 := HX3.out.cell 2 rfl
    have x3 := HX3.out.cell 3 rfl
    have x4 := HX3.out.cell 4 rfl
    have x5 := HX3.out.cell 5 rfl
    have x6 := HX3.out.cell 6 rfl
    have y0 := HY3.out.cell 0 rfl
    have y1 := HY3.out.cell 1 rfl
    have y2 := HY3.out.cell 2 rfl
    have y3 := HY3.out.cell 3 rfl
    have y4 := HY3.out.cell 4 rfl
    have y5 := HY3.out.cell 5 rfl
    have y6 := HY3.out.cell 6 rfl
    go_wp2_with fail
    refine (sameHub_yes ⟨[], [], [], 1, l, r, 0⟩ _ _ _ HL3.out ⟨_, _, _, rfl, liesF_nil _, liesG_nil _, ⟨none, 0, rfl, Nat.le_refl _, Nat.zero_le _, fun i h => absurd h (by simp)⟩⟩).mono ?_
    rintro e w4 ⟨rfl, hb4⟩
    have hb04 := below_tr hb03 hb4
    go_wp2_with fail
    go_ret
    exact ⟨rfl, hb04⟩
  · have hz : (rr == 0) = false := by simpa using h0
    have hz2 : (rr != 0) = true := by simpa using h0
    obtain rfl := HNZ.out h0
    clear h0
    obtain ⟨w3, hw3⟩ : ∃ w3, w3 = (((((((w2.setCell ⟨w1.heap.size + 1, 0, none⟩ (.slice none 0 0)).setCell ⟨w1.heap.size + 1, 1, none⟩ (.slice none 0 0)).setCell ⟨w1.heap.size + 1, 2, none⟩ (.slice none 0 0)).setCell ⟨w1.heap.size + 1, 3, none⟩ (.int .i64 0)).setCell ⟨w1.heap.size + 1, 4, none⟩ (.int .i64 0)).setCell ⟨w1.heap.size + 1, 5, none⟩ (.int .i64 0)).setCell ⟨w1.heap.size + 1, 6, none⟩ (.int .i64 0)) := ⟨_, rfl⟩
    have hg3 : w2.grownBy w3 (some (w1.heap.size + 1)) := by rw [hw3]; exact (grown_on (grown_on (grown_on (grown_on (grown_on (grown_on (nb_set w2 (w1.heap.size + 1) 0 (.slice none 0 0)) (nb_set _ (w1.heap.size + 1) 1 (.slice none 0 0))) (nb_set _ (w1.heap.size + 1) 2 (.slice none 0 0))) (nb_set _ (w1.heap.size + 1) 3 (.int .i64 0))) (nb_set _ (w1.heap.size + 1) 4 (.int .i64 0))) (nb_set _ (w1.heap.size + 1) 5 (.int .i64 0))) (nb_set _ (w1.heap.size + 1) 6 (.int .i64 0)))
    have HY3 : Hid (Cs w3 (w1.heap.size + 1) [.slice none 0 0, .slice none 0 0, .slice none 0 0, .int .i64 0, .int .i64 0, .int .i64 0, .int .i64 0]) := (by rw [hw3]; exact (((((((HY2.out.set 0 (.slice none 0 0)).set 1 (.slice none 0 0)).set 2 (.slice none 0 0)).set 3 (.int .i64 0)).set 4 (.int .i64 0)).set 5 (.int .i64 0)).set 6 (.int .i64 0)) : Cs w3 (w1.heap.size + 1) _)
    have HX3 := hid (HX2.out.nb hg3 (by omega))
    have HL3 := hid (HL2.out.nb hg3 (noStr_hub HY2.out))
    have hb03 : Below w.heap.size w w3 := by rw [hw3]; exact (((((((hb02.setCell (p := ⟨w1.heap.size + 1, 0, none⟩) ((by show w.heap.size ≤ w1.heap.size + 1; have := hb1.size; omega)) _).setCell (p := ⟨w1.heap.size + 1, 1, none⟩) ((by show w.heap.size ≤ w1.heap.size + 1; have := hb1.size; omega)) _).setCell (p := ⟨w1.heap.size + 1, 2, none⟩) ((by show w.heap.size ≤ w1.heap.size + 1; have := hb1.size; omega)) _).setCell (p := ⟨w1.heap.size + 1, 3, none⟩) ((by show w.heap.size ≤ w1.heap.size + 1; have := hb1.size; omega)) _).setCell (p := ⟨w1.heap.size + 1, 4, none⟩) ((by show w.heap.size ≤ w1.heap.size + 1; have := hb1.size; omega)) _).setCell (p := ⟨w1.heap.size + 1, 5, none⟩) ((by show w.heap.size ≤ w1.heap.size + 1; have := hb1.size; omega)) _).setCell (p := ⟨w1.heap.size + 1, 6, none⟩) ((by show w.heap.size ≤ w1.heap.size + 1; have := hb1.size; omega)) _)
    have p0 := HY2.out.cell 0 rfl
    have f0 := HY2.out.fr 0
    have p1 := HY2.out.cell 1 rfl
    have f1 := HY2.out.fr 1
    have p2 := HY2.out.cell 2 rfl
    have f2 := HY2.out.fr 2
    have p3 := HY2.out.cell 3 rfl
    have f3 := HY2.out.fr 3
    have p4 := HY2.out.cell 4 rfl
    have f4 := HY2.out.fr 4
    have p5 := HY2.out.cell 5 rfl
    have f5 := HY2.out.fr 5
    have p6 := HY2.out.cell 6 rfl
    have f6 := HY2.out.fr 6
    go_upto_region 6 with fail
    rw [← hw3]
    clear hw3 p0 p1 p2 p3 p4 p5 p6 f0 f1 f2 f3 f4 f5 f6
    go_wp2_with fail
    refine (hubBegun_yes _).mono ?_
    rintro e w4 ⟨rfl, hb4⟩
    have hb04 := below_tr hb03 hb4
    have HX4 := hid (HX3.out.below hb4)
    have HY4 := hid (HY3.out.below hb4)
    have HL4 := hid (HL3.out.below hb4)
    have x0 := HX4.out.cell 0 rfl
    have x1 := HX4.out.cell 1 rfl
    have x2 := HX4.out.cell 2 rfl
    have x3 := HX4.out.cell 3 rfl
    have x4 := HX4.out.cell 4 rfl
    have x5 := HX4.out.cell 5 rfl
    have x6 := HX4.out.cell 6 rfl
    have y0 := HY4.out.cell 0 rfl
    have y1 := HY4.out.cell 1 rfl
    have y2 := HY4.out.cell 2 rfl
    have y3 := HY4.out.cell 3 rfl
    have y4 := HY4.out.cell 4 rfl
    have y5 := HY4.out.cell 5 rfl
    have y6 := HY4.out.cell 6 rfl
    go_wp2_with fail
    refine (sameHub_yes zeroH _ _ _ HL4.out (liesH_zero _)).mono ?_
    rintro e w5 ⟨rfl, hb5⟩
    have hb05 := below_tr hb04 hb5
    go_wp2_with fail
    go_ret
    exact ⟨rfl, hb05⟩
end Go.Proofs.YtmdkecdhgjjceaaGreat
