/- What the reference's SendOf answers. -/
import Derived.Test.YtflekhcmipmelaaGreatDoorPN
import Derived.Test.YtflekhcmipmelaaGreatDoorD16
import Derived.Test.YtflekhcmipmelaaGreatDoorW16d
import Derived.Test.YtflekhcmipmelaaGreatDoorD12a
set_option linter.unusedSimpArgs false
set_option linter.unusedVariables false
namespace Go.Proofs.YtflekhcmipmelaaGreatDoor
open Go.RowKit

namespace Cy
theorem ch_good {c : Cn} (h : chE c = 0) : Pp.Good c.base ∧ Pp.Good c.mine := ⟨(Pp.good_iff _).1 (ch_parts h).2.1, (Pp.good_iff _).1 (ch_parts h).2.2.1⟩
theorem ch_who {c : Cn} (h : chE c = 0) : c.who.size ≤ 10 := by
  have h1 := (ch_parts h).1
  unfold cnE at h1
  split at h1
  · rename_i h2; exact absurd h1 h2
  · split at h1
    · cases h1
    · omega
theorem df_is {c : Cn} (h : chE c = 0) : Sp.dfL c.base c.mine = Sp.dels c.base c.mine ++ Sp.mks c.base c.mine := by
  have hb := (ch_parts h).2.1
  have hm := (ch_parts h).2.2.1
  rw [Sp.dfL, if_pos (by rw [Sp.dfE, if_pos hb]; exact hm)]
end Cy

set_option maxRecDepth 100000 in
set_option maxHeartbeats 8000000 in
theorem sendOf_again (c : Cn) (v : Value) (w : World) (hv : LiesN w v c) (hk : ¬ c.key.size = 0) :
    Calls Tryz.prog 19 #[v] w fun e w' => ∃ u q, e = .returned (.tuple #[u, q, .bool true, .int .i64 0]) ∧ LiesN w' u c ∧ LiesQ w' q (Cy.rqOf c) ∧ Below w.heap.size w w' := by
  obtain ⟨kb2, kb, kb3⟩ := key_no hk
  clear hk
  have HV := hid hv
  obtain ⟨vb, vm, va, rfl, lb, lm, la⟩ := hv
  have HVB := hid lb
  have HVM := hid lm
  have HVA := hid la
  obtain ⟨ab, cb, rfl, _⟩ := lb
  obtain ⟨am, cm, rfl, _⟩ := lm
  obtain ⟨aa, ca, rfl, _⟩ := la
  obtain ⟨wz, hwz⟩ : ∃ wz, wz = ((w.alloc (.cells #[.string c.who, .string c.fo, .slice ab c.base.length cb, .int .i64 c.cur, .slice am c.mine.length cm, .string c.key, .slice aa c.ask.length ca, .int .i64 c.keys] 25)).alloc (.cells #[.string ⟨#[]⟩, .string ⟨#[]⟩, .slice none 0 0, .int .i64 0, .slice none 0 0, .string ⟨#[]⟩, .slice none 0 0, .int .i64 0] 25)).alloc (.cells #[.int .i64 0, .string ⟨#[]⟩, .string ⟨#[]⟩, .string ⟨#[]⟩, .string ⟨#[]⟩, .string ⟨#[]⟩, .int .i64 0, .int .i64 0, .int .i64 0, .slice none 0 0] 38) := ⟨_, rfl⟩
  obtain ⟨wa, hwa⟩ : ∃ wa, wa = w.alloc (.cells #[.string c.who, .string c.fo, .slice ab c.base.length cb, .int .i64 c.cur, .slice am c.mine.length cm, .string c.key, .slice aa c.ask.length ca, .int .i64 c.keys] 25) := ⟨_, rfl⟩
  obtain ⟨wb, hwb⟩ : ∃ wb, wb = wa.alloc (.cells #[.string ⟨#[]⟩, .string ⟨#[]⟩, .slice none 0 0, .int .i64 0, .slice none 0 0, .string ⟨#[]⟩, .slice none 0 0, .int .i64 0] 25) := ⟨_, rfl⟩
  have hwz2 : wz = wb.alloc (.cells #[.int .i64 0, .string ⟨#[]⟩, .string ⟨#[]⟩, .string ⟨#[]⟩, .string ⟨#[]⟩, .string ⟨#[]⟩, .int .i64 0, .int .i64 0, .int .i64 0, .slice none 0 0] 38) := by rw [hwz, hwb, hwa]
  have sa : wa.heap.size = w.heap.size + 1 := by rw [hwa]; simp
  have sb : wb.heap.size = w.heap.size + 1 + 1 := by rw [hwb]; simp [sa]
  have bwa : Below w.heap.size w wa := by rw [hwa]; exact (Below.refl _ _).alloc (Nat.le_refl _) _
  have bwb : Below wa.heap.size wa wb := by rw [hwb]; exact (Below.refl _ _).alloc (Nat.le_refl _) _
  have bwz : Below wb.heap.size wb wz := by rw [hwz2]; exact (Below.refl _ _).alloc (Nat.le_refl _) _
  have hbz : Below w.heap.size w wz := below_tr bwa (below_tr bwb bwz)
  have HX : Hid (Cs wz w.heap.size [.string c.who, .string c.fo, .slice ab c.base.length cb, .int .i64 c.cur, .slice am c.mine.length cm, .string c.key, .slice aa c.ask.length ca, .int .i64 c.keys]) := (((by rw [hwa]; exact Cs.new w [.string c.who, .string c.fo, .slice ab c.base.length cb, .int .i64 c.cur, .slice am c.mine.length cm, .string c.key, .slice aa c.ask.length ca, .int .i64 c.keys] _ : Cs wa w.heap.size [.string c.who, .string c.fo, .slice ab c.base.length cb, .int .i64 c.cur, .slice am c.mine.length cm, .string c.key, .slice aa c.ask.length ca, .int .i64 c.keys]).below bwb).below bwz : Cs wz w.heap.size _)
  have HY : Hid (Cs wz (w.heap.size + 1) zs) := ((by rw [← sa, hwb]; exact Cs.new wa zs _ : Cs wb (w.heap.size + 1) zs).below bwz : Cs wz (w.heap.size + 1) zs)
  have HQ : Hid (Cs wz (w.heap.size + 1 + 1) zq) := (by rw [← sb, hwz2]; exact Cs.new wb zq _ : Cs wz (w.heap.size + 1 + 1) zq)
  have hNz : w.heap.size + 1 + 1 < wz.heap.size := HQ.out.lt
  have HWZ := hid hwz
  clear hwa hwb hwz hwz2 bwa bwb bwz sa sb
  go_enter Tryz.func19, Tryz.ntmps19
  go_upto_region 1 with fail
  rw [← HWZ.out]
  clear HWZ
  have n1 : ¬ w.heap.size = w.heap.size + 1 := by omega
  have n2 : ¬ w.heap.size = w.heap.size + 1 + 1 := by omega
  have n3 : ¬ w.heap.size + 1 = w.heap.size + 1 + 1 := by omega
  have n8 : ¬ w.heap.size + 1 + 1 = w.heap.size := by omega
  have n9 : ¬ w.heap.size + 1 + 1 = w.heap.size + 1 := by omega
  have p0 := HX.out.cell 0 rfl
  have p1 := HX.out.cell 1 rfl
  have p2 := HX.out.cell 2 rfl
  have p3 := HX.out.cell 3 rfl
  have p4 := HX.out.cell 4 rfl
  have p5 := HX.out.cell 5 rfl
  have p6 := HX.out.cell 6 rfl
  have p7 := HX.out.cell 7 rfl
  have y0 := HY.out.cell 0 rfl
  have g0 := HY.out.fr 0
  have y1 := HY.out.cell 1 rfl
  have g1 := HY.out.fr 1
  have y2 := HY.out.cell 2 rfl
  have g2 := HY.out.fr 2
  have y3 := HY.out.cell 3 rfl
  have g3 := HY.out.fr 3
  have y4 := HY.out.cell 4 rfl
  have g4 := HY.out.fr 4
  have y5 := HY.out.cell 5 rfl
  have g5 := HY.out.fr 5
  have y6 := HY.out.cell 6 rfl
  have g6 := HY.out.fr 6
  have y7 := HY.out.cell 7 rfl
  have g7 := HY.out.fr 7
  have z0 := HQ.out.cell 0 rfl
  have k0 := HQ.out.fr 0
  have z1 := HQ.out.cell 1 rfl
  have k1 := HQ.out.fr 1
  have z2 := HQ.out.cell 2 rfl
  have k2 := HQ.out.fr 2
  have z3 := HQ.out.cell 3 rfl
  have k3 := HQ.out.fr 3
  have z4 := HQ.out.cell 4 rfl
  have k4 := HQ.out.fr 4
  have z5 := HQ.out.cell 5 rfl
  have k5 := HQ.out.fr 5
  have z6 := HQ.out.cell 6 rfl
  have k6 := HQ.out.fr 6
  have z7 := HQ.out.cell 7 rfl
  have k7 := HQ.out.fr 7
  have z8 := HQ.out.cell 8 rfl
  have k8 := HQ.out.fr 8
  have z9 := HQ.out.cell 9 rfl
  have k9 := HQ.out.fr 9
  go_upto_region 15 with fail
  go_region_held3 (fun W => W.cell? ⟨w.heap.size, 0, none⟩ = some (.string c.who) ∧ W.cell? ⟨w.heap.size, 1, none⟩ = some (.string c.fo) ∧ W.cell? ⟨w.heap.size, 2, none⟩ = some (.slice ab c.base.length cb) ∧ W.cell? ⟨w.heap.size, 3, none⟩ = some (.int .i64 c.cur) ∧ W.cell? ⟨w.heap.size, 4, none⟩ = some (.slice am c.mine.length cm) ∧ W.cell? ⟨w.heap.size, 5, none⟩ = some (.string c.key) ∧ W.cell? ⟨w.heap.size, 6, none⟩ = some (.slice aa c.ask.length ca) ∧ W.cell? ⟨w.heap.size, 7, none⟩ = some (.int .i64 c.keys)) (go_keep) (fail)
  all_goals
    go_wp2_with fail
    have hfin := ((((((((((((((((((hbz.setCell (p := ⟨w.heap.size + 1, 0, none⟩) (Nat.le_succ _) (.string c.who)).setCell (p := ⟨w.heap.size + 1, 1, none⟩) (Nat.le_succ _) (.string c.fo)).setCell (p := ⟨w.heap.size + 1, 2, none⟩) (Nat.le_succ _) (.slice ab c.base.length cb)).setCell (p := ⟨w.heap.size + 1, 3, none⟩) (Nat.le_succ _) (.int .i64 c.cur)).setCell (p := ⟨w.heap.size + 1, 4, none⟩) (Nat.le_succ _) (.slice am c.mine.length cm)).setCell (p := ⟨w.heap.size + 1, 5, none⟩) (Nat.le_succ _) (.string c.key)).setCell (p := ⟨w.heap.size + 1, 6, none⟩) (Nat.le_succ _) (.slice aa c.ask.length ca)).setCell (p := ⟨w.heap.size + 1, 7, none⟩) (Nat.le_succ _) (.int .i64 c.keys)).setCell (p := ⟨w.heap.size + 1 + 1, 0, none⟩) (by show _ ≤ w.heap.size + 1 + 1; omega) (.int .i64 1)).setCell (p := ⟨w.heap.size + 1 + 1, 1, none⟩) (by show _ ≤ w.heap.size + 1 + 1; omega) (.string c.who)).setCell (p := ⟨w.heap.size + 1 + 1, 2, none⟩) (by show _ ≤ w.heap.size + 1 + 1; omega) (.string c.fo)).setCell (p := ⟨w.heap.size + 1 + 1, 3, none⟩) (by show _ ≤ w.heap.size + 1 + 1; omega) (.string ⟨#[]⟩)).setCell (p := ⟨w.heap.size + 1 + 1, 4, none⟩) (by show _ ≤ w.heap.size + 1 + 1; omega) (.string c.key)).setCell (p := ⟨w.heap.size + 1 + 1, 5, none⟩) (by show _ ≤ w.heap.size + 1 + 1; omega) (.string ⟨#[]⟩)).setCell (p := ⟨w.heap.size + 1 + 1, 6, none⟩) (by show _ ≤ w.heap.size + 1 + 1; omega) (.int .i64 0)).setCell (p := ⟨w.heap.size + 1 + 1, 7, none⟩) (by show _ ≤ w.heap.size + 1 + 1; omega) (.int .i64 0)).setCell (p := ⟨w.heap.size + 1 + 1, 8, none⟩) (by show _ ≤ w.heap.size + 1 + 1; omega) (.int .i64 0)).setCell (p := ⟨w.heap.size + 1 + 1, 9, none⟩) (by show _ ≤ w.heap.size + 1 + 1; omega) (.slice aa c.ask.length ca)).drew
    refine bodyPost_ret (v := .tuple #[.agg #[.string c.who, .string c.fo, .slice ab c.base.length cb, .int .i64 c.cur, .slice am c.mine.length cm, .string c.key, .slice aa c.ask.length ca, .int .i64 c.keys], .agg #[.int .i64 1, .string c.who, .string c.fo, .string ⟨#[]⟩, .string c.key, .string ⟨#[]⟩, .int .i64 0, .int .i64 0, .int .i64 0, .slice aa c.ask.length ca], .bool true, .int .i64 0]) (by simp [results, Tryz.results19, go_sem, y0, y1, y2, y3, y4, y5, y6, y7, z0, z1, z2, z3, z4, z5, z6, z7, z8, z9]) rfl ⟨_, _, rfl, ?_, ?_, hfin⟩
    · exact HV.out.below hfin
    · exact ⟨_, rfl, HVA.out.below hfin⟩

set_option maxRecDepth 100000 in
set_option maxHeartbeats 8000000 in
theorem sendOf_none (c : Cn) (v : Value) (w : World) (hv : LiesN w v c) (h0 : Cy.chE c = 0) (hk : c.key.size = 0) (hn : (Sp.dfL c.base c.mine).length = 0) :
    Calls Tryz.prog 19 #[v] w fun e w' => ∃ u q, e = .returned (.tuple #[u, q, .bool false, .int .i64 0]) ∧ LiesN w' u c ∧ LiesQ w' q zeroQ ∧ Below w.heap.size w w' := by
  obtain ⟨kb2, kb, kb3⟩ := key_emp hk
  have HDF := hid (Cy.df_is h0)
  have HG := hid (Cy.ch_good h0)
  have HN0 := hid hn
  clear hk hn h0
  have HV := hid hv
  obtain ⟨vb, vm, va, rfl, lb, lm, la⟩ := hv
  have HVB := hid lb
  have HVM := hid lm
  have HVA := hid la
  obtain ⟨ab, cb, rfl, _⟩ := lb
  obtain ⟨am, cm, rfl, _⟩ := lm
  obtain ⟨aa, ca, rfl, _⟩ := la
  obtain ⟨wz, hwz⟩ : ∃ wz, wz = ((w.alloc (.cells #[.string c.who, .string c.fo, .slice ab c.base.length cb, .int .i64 c.cur, .slice am c.mine.length cm, .string c.key, .slice aa c.ask.length ca, .int .i64 c.keys] 25)).alloc (.cells #[.string ⟨#[]⟩, .string ⟨#[]⟩, .slice none 0 0, .int .i64 0, .slice none 0 0, .string ⟨#[]⟩, .slice none 0 0, .int .i64 0] 25)).alloc (.cells #[.int .i64 0, .string ⟨#[]⟩, .string ⟨#[]⟩, .string ⟨#[]⟩, .string ⟨#[]⟩, .string ⟨#[]⟩, .int .i64 0, .int .i64 0, .int .i64 0, .slice none 0 0] 38) := ⟨_, rfl⟩
  obtain ⟨wa, hwa⟩ : ∃ wa, wa = w.alloc (.cells #[.string c.who, .string c.fo, .slice ab c.base.length cb, .int .i64 c.cur, .slice am c.mine.length cm, .string c.key, .slice aa c.ask.length ca, .int .i64 c.keys] 25) := ⟨_, rfl⟩
  obtain ⟨wb, hwb⟩ : ∃ wb, wb = wa.alloc (.cells #[.string ⟨#[]⟩, .string ⟨#[]⟩, .slice none 0 0, .int .i64 0, .slice none 0 0, .string ⟨#[]⟩, .slice none 0 0, .int .i64 0] 25) := ⟨_, rfl⟩
  have hwz2 : wz = wb.alloc (.cells #[.int .i64 0, .string ⟨#[]⟩, .string ⟨#[]⟩, .string ⟨#[]⟩, .string ⟨#[]⟩, .string ⟨#[]⟩, .int .i64 0, .int .i64 0, .int .i64 0, .slice none 0 0] 38) := by rw [hwz, hwb, hwa]
  have sa : wa.heap.size = w.heap.size + 1 := by rw [hwa]; simp
  have sb : wb.heap.size = w.heap.size + 1 + 1 := by rw [hwb]; simp [sa]
  have bwa : Below w.heap.size w wa := by rw [hwa]; exact (Below.refl _ _).alloc (Nat.le_refl _) _
  have bwb : Below wa.heap.size wa wb := by rw [hwb]; exact (Below.refl _ _).alloc (Nat.le_refl _) _
  have bwz : Below wb.heap.size wb wz := by rw [hwz2]; exact (Below.refl _ _).alloc (Nat.le_refl _) _
  have hbz : Below w.heap.size w wz := below_tr bwa (below_tr bwb bwz)
  have HX : Hid (Cs wz w.heap.size [.string c.who, .string c.fo, .slice ab c.base.length cb, .int .i64 c.cur, .slice am c.mine.length cm, .string c.key, .slice aa c.ask.length ca, .int .i64 c.keys]) := (((by rw [hwa]; exact Cs.new w [.string c.who, .string c.fo, .slice ab c.base.length cb, .int .i64 c.cur, .slice am c.mine.length cm, .string c.key, .slice aa c.ask.length ca, .int .i64 c.keys] _ : Cs wa w.heap.size [.string c.who, .string c.fo, .slice ab c.base.length cb, .int .i64 c.cur, .slice am c.mine.length cm, .string c.key, .slice aa c.ask.length ca, .int .i64 c.keys]).below bwb).below bwz : Cs wz w.heap.size _)
  have HY : Hid (Cs wz (w.heap.size + 1) zs) := ((by rw [← sa, hwb]; exact Cs.new wa zs _ : Cs wb (w.heap.size + 1) zs).below bwz : Cs wz (w.heap.size + 1) zs)
  have HQ : Hid (Cs wz (w.heap.size + 1 + 1) zq) := (by rw [← sb, hwz2]; exact Cs.new wb zq _ : Cs wz (w.heap.size + 1 + 1) zq)
  have hNz : w.heap.size + 1 + 1 < wz.heap.size := HQ.out.lt
  have HWZ := hid hwz
  clear hwa hwb hwz hwz2 bwa bwb bwz sa sb
  go_enter Tryz.func19, Tryz.ntmps19
  go_upto_region 1 with fail
  rw [← HWZ.out]
  clear HWZ
  have x2 := HX.out.cell 2 rfl
  have x4 := HX.out.cell 4 rfl
  have x5 := HX.out.cell 5 rfl
  go_wp2_with fail
  refine (diffOf_any c.base c.mine _ _ _ (HVB.out.below hbz) (HVM.out.below hbz) HG.out.1 HG.out.2).mono ?_
  rintro e w1 ⟨u1, rfl, hr1, hb1⟩
  rw [← HDF.out, HN0.out] at hr1
  obtain ⟨la, lc, rfl⟩ := own_slice hr1
  have hb01 := below_tr hbz hb1
  have HX1 := hid (HX.out.below hb1)
  have HY1 := hid (HY.out.below hb1)
  have HQ1 := hid (HQ.out.below hb1)
  clear hr1 x2 x4 x5
  have n1 : ¬ w.heap.size = w.heap.size + 1 := by omega
  have n2 : ¬ w.heap.size = w.heap.size + 1 + 1 := by omega
  have n3 : ¬ w.heap.size + 1 = w.heap.size + 1 + 1 := by omega
  have p0 := HX1.out.cell 0 rfl
  have p1 := HX1.out.cell 1 rfl
  have p2 := HX1.out.cell 2 rfl
  have p3 := HX1.out.cell 3 rfl
  have p4 := HX1.out.cell 4 rfl
  have p5 := HX1.out.cell 5 rfl
  have p6 := HX1.out.cell 6 rfl
  have p7 := HX1.out.cell 7 rfl
  have y0 := HY1.out.cell 0 rfl
  have g0 := HY1.out.fr 0
  have y1 := HY1.out.cell 1 rfl
  have g1 := HY1.out.fr 1
  have y2 := HY1.out.cell 2 rfl
  have g2 := HY1.out.fr 2
  have y3 := HY1.out.cell 3 rfl
  have g3 := HY1.out.fr 3
  have y4 := HY1.out.cell 4 rfl
  have g4 := HY1.out.fr 4
  have y5 := HY1.out.cell 5 rfl
  have g5 := HY1.out.fr 5
  have y6 := HY1.out.cell 6 rfl
  have g6 := HY1.out.fr 6
  have y7 := HY1.out.cell 7 rfl
  have g7 := HY1.out.fr 7
  have z0 := HQ1.out.cell 0 rfl
  have k0 := HQ1.out.fr 0
  have z1 := HQ1.out.cell 1 rfl
  have k1 := HQ1.out.fr 1
  have z2 := HQ1.out.cell 2 rfl
  have k2 := HQ1.out.fr 2
  have z3 := HQ1.out.cell 3 rfl
  have k3 := HQ1.out.fr 3
  have z4 := HQ1.out.cell 4 rfl
  have k4 := HQ1.out.fr 4
  have z5 := HQ1.out.cell 5 rfl
  have k5 := HQ1.out.fr 5
  have z6 := HQ1.out.cell 6 rfl
  have k6 := HQ1.out.fr 6
  have z7 := HQ1.out.cell 7 rfl
  have k7 := HQ1.out.fr 7
  have z8 := HQ1.out.cell 8 rfl
  have k8 := HQ1.out.fr 8
  have z9 := HQ1.out.cell 9 rfl
  have k9 := HQ1.out.fr 9
  go_wp2_with fail
  have hfin := ((((((((((((((((((hb01.setCell (p := ⟨w.heap.size + 1, 0, none⟩) (Nat.le_succ _) (.string c.who)).setCell (p := ⟨w.heap.size + 1, 1, none⟩) (Nat.le_succ _) (.string c.fo)).setCell (p := ⟨w.heap.size + 1, 2, none⟩) (Nat.le_succ _) (.slice ab c.base.length cb)).setCell (p := ⟨w.heap.size + 1, 3, none⟩) (Nat.le_succ _) (.int .i64 c.cur)).setCell (p := ⟨w.heap.size + 1, 4, none⟩) (Nat.le_succ _) (.slice am c.mine.length cm)).setCell (p := ⟨w.heap.size + 1, 5, none⟩) (Nat.le_succ _) (.string c.key)).setCell (p := ⟨w.heap.size + 1, 6, none⟩) (Nat.le_succ _) (.slice aa c.ask.length ca)).setCell (p := ⟨w.heap.size + 1, 7, none⟩) (Nat.le_succ _) (.int .i64 c.keys)).setCell (p := ⟨w.heap.size + 1 + 1, 0, none⟩) (by show _ ≤ w.heap.size + 1 + 1; omega) (.int .i64 0)).setCell (p := ⟨w.heap.size + 1 + 1, 1, none⟩) (by show _ ≤ w.heap.size + 1 + 1; omega) (.string ⟨#[]⟩)).setCell (p := ⟨w.heap.size + 1 + 1, 2, none⟩) (by show _ ≤ w.heap.size + 1 + 1; omega) (.string ⟨#[]⟩)).setCell (p := ⟨w.heap.size + 1 + 1, 3, none⟩) (by show _ ≤ w.heap.size + 1 + 1; omega) (.string ⟨#[]⟩)).setCell (p := ⟨w.heap.size + 1 + 1, 4, none⟩) (by show _ ≤ w.heap.size + 1 + 1; omega) (.string ⟨#[]⟩)).setCell (p := ⟨w.heap.size + 1 + 1, 5, none⟩) (by show _ ≤ w.heap.size + 1 + 1; omega) (.string ⟨#[]⟩)).setCell (p := ⟨w.heap.size + 1 + 1, 6, none⟩) (by show _ ≤ w.heap.size + 1 + 1; omega) (.int .i64 0)).setCell (p := ⟨w.heap.size + 1 + 1, 7, none⟩) (by show _ ≤ w.heap.size + 1 + 1; omega) (.int .i64 0)).setCell (p := ⟨w.heap.size + 1 + 1, 8, none⟩) (by show _ ≤ w.heap.size + 1 + 1; omega) (.int .i64 0)).setCell (p := ⟨w.heap.size + 1 + 1, 9, none⟩) (by show _ ≤ w.heap.size + 1 + 1; omega) (.slice none 0 0))
  refine bodyPost_ret (v := .tuple #[.agg #[.string c.who, .string c.fo, .slice ab c.base.length cb, .int .i64 c.cur, .slice am c.mine.length cm, .string c.key, .slice aa c.ask.length ca, .int .i64 c.keys], .agg #[.int .i64 0, .string ⟨#[]⟩, .string ⟨#[]⟩, .string ⟨#[]⟩, .string ⟨#[]⟩, .string ⟨#[]⟩, .int .i64 0, .int .i64 0, .int .i64 0, .slice none 0 0], .bool false, .int .i64 0]) (by simp [results, Tryz.results19, go_sem, y0, y1, y2, y3, y4, y5, y6, y7, z0, z1, z2, z3, z4, z5, z6, z7, z8, z9]) rfl ⟨_, _, rfl, HV.out.below hfin, liesQ_zero _, hfin⟩

set_option maxRecDepth 100000 in
set_option maxHeartbeats 8000000 in
theorem sendOf_full (c : Cn) (v : Value) (w : World) (hv : LiesN w v c) (h0 : Cy.chE c = 0) (hk : c.key.size = 0) (hn : ¬ (Sp.dfL c.base c.mine).length = 0) (hkk : c.keys = 1000000) :
    Calls Tryz.prog 19 #[v] w fun e w' => ∃ u q, e = .returned (.tuple #[u, q, .bool false, .int .i64 3]) ∧ LiesN w' u zeroN ∧ LiesQ w' q zeroQ ∧ Below w.heap.size w w' := by
  obtain ⟨kb2, kb, kb3⟩ := key_emp hk
  have HDF := hid (Cy.df_is h0)
  have HG := hid (Cy.ch_good h0)
  have HN0 := hid hn
  have hke : (c.keys == 1000000) = true := by simpa using hkk
  have HLE := hid (Cy.df_len h0)
  clear hk hn h0 hkk
  have HV := hid hv
  obtain ⟨vb, vm, va, rfl, lb, lm, la⟩ := hv
  have HVB := hid lb
  have HVM := hid lm
  have HVA := hid la
  obtain ⟨ab, cb, rfl, _⟩ := lb
  obtain ⟨am, cm, rfl, _⟩ := lm
  obtain ⟨aa, ca, rfl, _⟩ := la
  obtain ⟨wz, hwz⟩ : ∃ wz, wz = ((w.alloc (.cells #[.string c.who, .string c.fo, .slice ab c.base.length cb, .int .i64 c.cur, .slice am c.mine.length cm, .string c.key, .slice aa c.ask.length ca, .int .i64 c.keys] 25)).alloc (.cells #[.string ⟨#[]⟩, .string ⟨#[]⟩, .slice none 0 0, .int .i64 0, .slice none 0 0, .string ⟨#[]⟩, .slice none 0 0, .int .i64 0] 25)).alloc (.cells #[.int .i64 0, .string ⟨#[]⟩, .string ⟨#[]⟩, .string ⟨#[]⟩, .string ⟨#[]⟩, .string ⟨#[]⟩, .int .i64 0, .int .i64 0, .int .i64 0, .slice none 0 0] 38) := ⟨_, rfl⟩
  obtain ⟨wa, hwa⟩ : ∃ wa, wa = w.alloc (.cells #[.string c.who, .string c.fo, .slice ab c.base.length cb, .int .i64 c.cur, .slice am c.mine.length cm, .string c.key, .slice aa c.ask.length ca, .int .i64 c.keys] 25) := ⟨_, rfl⟩
  obtain ⟨wb, hwb⟩ : ∃ wb, wb = wa.alloc (.cells #[.string ⟨#[]⟩, .string ⟨#[]⟩, .slice none 0 0, .int .i64 0, .slice none 0 0, .string ⟨#[]⟩, .slice none 0 0, .int .i64 0] 25) := ⟨_, rfl⟩
  have hwz2 : wz = wb.alloc (.cells #[.int .i64 0, .string ⟨#[]⟩, .string ⟨#[]⟩, .string ⟨#[]⟩, .string ⟨#[]⟩, .string ⟨#[]⟩, .int .i64 0, .int .i64 0, .int .i64 0, .slice none 0 0] 38) := by rw [hwz, hwb, hwa]
  have sa : wa.heap.size = w.heap.size + 1 := by rw [hwa]; simp
  have sb : wb.heap.size = w.heap.size + 1 + 1 := by rw [hwb]; simp [sa]
  have bwa : Below w.heap.size w wa := by rw [hwa]; exact (Below.refl _ _).alloc (Nat.le_refl _) _
  have bwb : Below wa.heap.size wa wb := by rw [hwb]; exact (Below.refl _ _).alloc (Nat.le_refl _) _
  have bwz : Below wb.heap.size wb wz := by rw [hwz2]; exact (Below.refl _ _).alloc (Nat.le_refl _) _
  have hbz : Below w.heap.size w wz := below_tr bwa (below_tr bwb bwz)
  have HX : Hid (Cs wz w.heap.size [.string c.who, .string c.fo, .slice ab c.base.length cb, .int .i64 c.cur, .slice am c.mine.length cm, .string c.key, .slice aa c.ask.length ca, .int .i64 c.keys]) := (((by rw [hwa]; exact Cs.new w [.string c.who, .string c.fo, .slice ab c.base.length cb, .int .i64 c.cur, .slice am c.mine.length cm, .string c.key, .slice aa c.ask.length ca, .int .i64 c.keys] _ : Cs wa w.heap.size [.string c.who, .string c.fo, .slice ab c.base.length cb, .int .i64 c.cur, .slice am c.mine.length cm, .string c.key, .slice aa c.ask.length ca, .int .i64 c.keys]).below bwb).below bwz : Cs wz w.heap.size _)
  have HY : Hid (Cs wz (w.heap.size + 1) zs) := ((by rw [← sa, hwb]; exact Cs.new wa zs _ : Cs wb (w.heap.size + 1) zs).below bwz : Cs wz (w.heap.size + 1) zs)
  have HQ : Hid (Cs wz (w.heap.size + 1 + 1) zq) := (by rw [← sb, hwz2]; exact Cs.new wb zq _ : Cs wz (w.heap.size + 1 + 1) zq)
  have hNz : w.heap.size + 1 + 1 < wz.heap.size := HQ.out.lt
  have HWZ := hid hwz
  clear hwa hwb hwz hwz2 bwa bwb bwz sa sb
  go_enter Tryz.func19, Tryz.ntmps19
  go_upto_region 1 with fail
  rw [← HWZ.out]
  clear HWZ
  have x2 := HX.out.cell 2 rfl
  have x4 := HX.out.cell 4 rfl
  have x5 := HX.out.cell 5 rfl
  go_wp2_with fail
  refine (diffOf_any c.base c.mine _ _ _ (HVB.out.below hbz) (HVM.out.below hbz) HG.out.1 HG.out.2).mono ?_
  rintro e w1 ⟨u1, rfl, hr1, hb1⟩
  rw [← HDF.out] at hr1
  obtain ⟨n, hnn⟩ : ∃ n, n = (Sp.dfL c.base c.mine).length := ⟨_, rfl⟩
  have hn0 : ((n : Int) == 0) = false := by have := HN0.out; simpa using (by omega : ¬ (n : Int) = 0)
  rw [← hnn] at hr1
  obtain ⟨la, lc, rfl⟩ := own_slice hr1
  have hb01 := below_tr hbz hb1
  have HX1 := hid (HX.out.below hb1)
  have HY1 := hid (HY.out.below hb1)
  have HQ1 := hid (HQ.out.below hb1)
  clear hr1 x2 x4 x5 hnn
  have n1 : ¬ w.heap.size = w.heap.size + 1 := by omega
  have n2 : ¬ w.heap.size = w.heap.size + 1 + 1 := by omega
  have n3 : ¬ w.heap.size + 1 = w.heap.size + 1 + 1 := by omega
  have p7 := HX1.out.cell 7 rfl
  have y0 := HY1.out.cell 0 rfl
  have g0 := HY1.out.fr 0
  have y1 := HY1.out.cell 1 rfl
  have g1 := HY1.out.fr 1
  have y2 := HY1.out.cell 2 rfl
  have g2 := HY1.out.fr 2
  have y3 := HY1.out.cell 3 rfl
  have g3 := HY1.out.fr 3
  have y4 := HY1.out.cell 4 rfl
  have g4 := HY1.out.fr 4
  have y5 := HY1.out.cell 5 rfl
  have g5 := HY1.out.fr 5
  have y6 := HY1.out.cell 6 rfl
  have g6 := HY1.out.fr 6
  have y7 := HY1.out.cell 7 rfl
  have g7 := HY1.out.fr 7
  have z0 := HQ1.out.cell 0 rfl
  have k0 := HQ1.out.fr 0
  have z1 := HQ1.out.cell 1 rfl
  have k1 := HQ1.out.fr 1
  have z2 := HQ1.out.cell 2 rfl
  have k2 := HQ1.out.fr 2
  have z3 := HQ1.out.cell 3 rfl
  have k3 := HQ1.out.fr 3
  have z4 := HQ1.out.cell 4 rfl
  have k4 := HQ1.out.fr 4
  have z5 := HQ1.out.cell 5 rfl
  have k5 := HQ1.out.fr 5
  have z6 := HQ1.out.cell 6 rfl
  have k6 := HQ1.out.fr 6
  have z7 := HQ1.out.cell 7 rfl
  have k7 := HQ1.out.fr 7
  have z8 := HQ1.out.cell 8 rfl
  have k8 := HQ1.out.fr 8
  have z9 := HQ1.out.cell 9 rfl
  have k9 := HQ1.out.fr 9
  go_wp2_with fail
  have hfin := ((((((((((((((((((hb01.setCell (p := ⟨w.heap.size + 1, 0, none⟩) (Nat.le_succ _) (.string ⟨#[]⟩)).setCell (p := ⟨w.heap.size + 1, 1, none⟩) (Nat.le_succ _) (.string ⟨#[]⟩)).setCell (p := ⟨w.heap.size + 1, 2, none⟩) (Nat.le_succ _) (.slice none 0 0)).setCell (p := ⟨w.heap.size + 1, 3, none⟩) (Nat.le_succ _) (.int .i64 0)).setCell (p := ⟨w.heap.size + 1, 4, none⟩) (Nat.le_succ _) (.slice none 0 0)).setCell (p := ⟨w.heap.size + 1, 5, none⟩) (Nat.le_succ _) (.string ⟨#[]⟩)).setCell (p := ⟨w.heap.size + 1, 6, none⟩) (Nat.le_succ _) (.slice none 0 0)).setCell (p := ⟨w.heap.size + 1, 7, none⟩) (Nat.le_succ _) (.int .i64 0)).setCell (p := ⟨w.heap.size + 1 + 1, 0, none⟩) (by show _ ≤ w.heap.size + 1 + 1; omega) (.int .i64 0)).setCell (p := ⟨w.heap.size + 1 + 1, 1, none⟩) (by show _ ≤ w.heap.size + 1 + 1; omega) (.string ⟨#[]⟩)).setCell (p := ⟨w.heap.size + 1 + 1, 2, none⟩) (by show _ ≤ w.heap.size + 1 + 1; omega) (.string ⟨#[]⟩)).setCell (p := ⟨w.heap.size + 1 + 1, 3, none⟩) (by show _ ≤ w.heap.size + 1 + 1; omega) (.string ⟨#[]⟩)).setCell (p := ⟨w.heap.size + 1 + 1, 4, none⟩) (by show _ ≤ w.heap.size + 1 + 1; omega) (.string ⟨#[]⟩)).setCell (p := ⟨w.heap.size + 1 + 1, 5, none⟩) (by show _ ≤ w.heap.size + 1 + 1; omega) (.string ⟨#[]⟩)).setCell (p := ⟨w.heap.size + 1 + 1, 6, none⟩) (by show _ ≤ w.heap.size + 1 + 1; omega) (.int .i64 0)).setCell (p := ⟨w.heap.size + 1 + 1, 7, none⟩) (by show _ ≤ w.heap.size + 1 + 1; omega) (.int .i64 0)).setCell (p := ⟨w.heap.size + 1 + 1, 8, none⟩) (by show _ ≤ w.heap.size + 1 + 1; omega) (.int .i64 0)).setCell (p := ⟨w.heap.size + 1 + 1, 9, none⟩) (by show _ ≤ w.heap.size + 1 + 1; omega) (.slice none 0 0))
  refine bodyPost_ret (v := .tuple #[.agg #[.string ⟨#[]⟩, .string ⟨#[]⟩, .slice none 0 0, .int .i64 0, .slice none 0 0, .string ⟨#[]⟩, .slice none 0 0, .int .i64 0], .agg #[.int .i64 0, .string ⟨#[]⟩, .string ⟨#[]⟩, .string ⟨#[]⟩, .string ⟨#[]⟩, .string ⟨#[]⟩, .int .i64 0, .int .i64 0, .int .i64 0, .slice none 0 0], .bool false, .int .i64 3]) (by simp [results, Tryz.results19, go_sem, y0, y1, y2, y3, y4, y5, y6, y7, z0, z1, z2, z3, z4, z5, z6, z7, z8, z9]) rfl ⟨_, _, rfl, (ownN_zero 0 _).lies, liesQ_zero _, hfin⟩

namespace Cy
/-- The text of the number of the next key. -/
def num (c : Cn) : ByteArray := ⟨(Lib.decDigits (c.keys + 1).toNat).toArray⟩
end Cy
theorem decimal_next (c : Cn) (h0 : 0 ≤ c.keys) (h1 : c.keys < 1000000) (W : World) : Calls Tryz.prog 39 #[.int .i64 (c.keys + 1)] W fun e w' => e = .returned (.string (Cy.num c)) ∧ Below W.heap.size W w' := by
  have h := decimal_any (c.keys + 1).toNat W (by omega)
  rw [show (((c.keys + 1).toNat : Nat) : Int) = c.keys + 1 from by omega] at h
  exact h
theorem num_len (c : Cn) (h0 : 0 ≤ c.keys) (h1 : c.keys < 1000000) : (Cy.num c).size ≤ 1000000000 := by
  have h := Pp.dec_le ((c.keys + 1).toNat + 1) (c.keys + 1).toNat (Nat.lt_succ_self _)
  show (Lib.decDigits (c.keys + 1).toNat).toArray.size ≤ _
  rw [List.size_toArray]
  omega


set_option maxRecDepth 100000 in
set_option maxHeartbeats 8000000 in
theorem sendOf_le (c : Cn) (v : Value) (w : World) (hv : LiesN w v c) (h0 : Cy.chE c = 0) (hk : c.key.size = 0) (hn : ¬ (Sp.dfL c.base c.mine).length = 0) (hkk : c.keys < 1000000) (h20 : (Sp.dfL c.base c.mine).length ≤ 20) :
    Calls Tryz.prog 19 #[v] w fun e w' => ∃ u q, e = .returned (.tuple #[u, q, .bool true, .int .i64 0]) ∧ LiesN w' u (Cy.nxt (Cy.num c) c) ∧ LiesQ w' q (Cy.rqOf (Cy.nxt (Cy.num c) c)) ∧ Below w.heap.size w w' := by
  obtain ⟨kb2, kb, kb3⟩ := key_emp hk
  have HDF := hid (Cy.df_is h0)
  have HG := hid (Cy.ch_good h0)
  have HN0 := hid hn
  have hrg : 0 ≤ c.keys := by
    have := (Cy.ch_parts h0).2.2.2.1
    simp [Cy.rgB] at this
    omega
  have hws : c.who.size ≤ 10 := Cy.ch_who h0
  have hnl := num_len c hrg hkk
  obtain ⟨nu, hnu⟩ : ∃ nu, nu = Cy.num c := ⟨_, rfl⟩
  have HDE : Hid (∀ W, Calls Tryz.prog 39 #[.int .i64 (c.keys + 1)] W fun e w' => e = .returned (.string nu) ∧ Below W.heap.size W w') := (fun W => by rw [hnu]; exact decimal_next c hrg hkk W : ∀ W, Calls Tryz.prog 39 #[.int .i64 (c.keys + 1)] W fun e w' => e = .returned (.string nu) ∧ Below W.heap.size W w')
  rw [← hnu] at hnl ⊢
  have HNU := hid hnu
  obtain ⟨c', hc'⟩ : ∃ c', c' = Cy.nxt nu c := ⟨_, rfl⟩
  rw [← hc']
  have HC' := hid hc'
  have hke : (c.keys == 1000000) = false := by simpa using (by omega : ¬ c.keys = 1000000)
  obtain ⟨l, hl⟩ : ∃ l, l = Sp.dfL c.base c.mine := ⟨_, rfl⟩
  have HLL := hid hl
  have HAK : Hid (Cy.akL c = (l.take 20).map (Cy.setB c.cur)) := (by rw [hl]; rfl : Cy.akL c = (l.take 20).map (Cy.setB c.cur))
  rw [← hl] at h20
  have hl0 : ¬ l.length = 0 := by rw [hl]; exact hn
  have hlm : l.length ≤ 1000 := by rw [hl]; exact Cy.df_len h0
  clear hk hn h0 hl hnu hc'
  have HV := hid hv
  obtain ⟨vb, vm, va, rfl, lb, lm, la⟩ := hv
  have HVB := hid lb
  have HVM := hid lm
  have HVA := hid la
  obtain ⟨ab, cb, rfl, _⟩ := lb
  obtain ⟨am, cm, rfl, _⟩ := lm
  obtain ⟨aa, ca, rfl, _⟩ := la
  obtain ⟨wz, hwz⟩ : ∃ wz, wz = ((w.alloc (.cells #[.string c.who, .string c.fo, .slice ab c.base.length cb, .int .i64 c.cur, .slice am c.mine.length cm, .string c.key, .slice aa c.ask.length ca, .int .i64 c.keys] 25)).alloc (.cells #[.string ⟨#[]⟩, .string ⟨#[]⟩, .slice none 0 0, .int .i64 0, .slice none 0 0, .string ⟨#[]⟩, .slice none 0 0, .int .i64 0] 25)).alloc (.cells #[.int .i64 0, .string ⟨#[]⟩, .string ⟨#[]⟩, .string ⟨#[]⟩, .string ⟨#[]⟩, .string ⟨#[]⟩, .int .i64 0, .int .i64 0, .int .i64 0, .slice none 0 0] 38) := ⟨_, rfl⟩
  obtain ⟨wa, hwa⟩ : ∃ wa, wa = w.alloc (.cells #[.string c.who, .string c.fo, .slice ab c.base.length cb, .int .i64 c.cur, .slice am c.mine.length cm, .string c.key, .slice aa c.ask.length ca, .int .i64 c.keys] 25) := ⟨_, rfl⟩
  obtain ⟨wb, hwb⟩ : ∃ wb, wb = wa.alloc (.cells #[.string ⟨#[]⟩, .string ⟨#[]⟩, .slice none 0 0, .int .i64 0, .slice none 0 0, .string ⟨#[]⟩, .slice none 0 0, .int .i64 0] 25) := ⟨_, rfl⟩
  have hwz2 : wz = wb.alloc (.cells #[.int .i64 0, .string ⟨#[]⟩, .string ⟨#[]⟩, .string ⟨#[]⟩, .string ⟨#[]⟩, .string ⟨#[]⟩, .int .i64 0, .int .i64 0, .int .i64 0, .slice none 0 0] 38) := by rw [hwz, hwb, hwa]
  have sa : wa.heap.size = w.heap.size + 1 := by rw [hwa]; simp
  have sb : wb.heap.size = w.heap.size + 1 + 1 := by rw [hwb]; simp [sa]
  have bwa : Below w.heap.size w wa := by rw [hwa]; exact (Below.refl _ _).alloc (Nat.le_refl _) _
  have bwb : Below wa.heap.size wa wb := by rw [hwb]; exact (Below.refl _ _).alloc (Nat.le_refl _) _
  have bwz : Below wb.heap.size wb wz := by rw [hwz2]; exact (Below.refl _ _).alloc (Nat.le_refl _) _
  have hbz : Below w.heap.size w wz := below_tr bwa (below_tr bwb bwz)
  have HX : Hid (Cs wz w.heap.size [.string c.who, .string c.fo, .slice ab c.base.length cb, .int .i64 c.cur, .slice am c.mine.length cm, .string c.key, .slice aa c.ask.length ca, .int .i64 c.keys]) := (((by rw [hwa]; exact Cs.new w [.string c.who, .string c.fo, .slice ab c.base.length cb, .int .i64 c.cur, .slice am c.mine.length cm, .string c.key, .slice aa c.ask.length ca, .int .i64 c.keys] _ : Cs wa w.heap.size [.string c.who, .string c.fo, .slice ab c.base.length cb, .int .i64 c.cur, .slice am c.mine.length cm, .string c.key, .slice aa c.ask.length ca, .int .i64 c.keys]).below bwb).below bwz : Cs wz w.heap.size _)
  have HY : Hid (Cs wz (w.heap.size + 1) zs) := ((by rw [← sa, hwb]; exact Cs.new wa zs _ : Cs wb (w.heap.size + 1) zs).below bwz : Cs wz (w.heap.size + 1) zs)
  have HQ : Hid (Cs wz (w.heap.size + 1 + 1) zq) := (by rw [← sb, hwz2]; exact Cs.new wb zq _ : Cs wz (w.heap.size + 1 + 1) zq)
  have hNz : w.heap.size + 1 + 1 < wz.heap.size := HQ.out.lt
  have HWZ := hid hwz
  clear hwa hwb hwz hwz2 bwa bwb bwz sa sb
  go_enter Tryz.func19, Tryz.ntmps19
  go_upto_region 1 with fail
  rw [← HWZ.out]
  clear HWZ
  have HVB' : Hid (Lies w (.slice ab c'.base.length cb) c'.base) := (by rw [HC'.out]; exact HVB.out : Lies w (.slice ab c'.base.length cb) c'.base)
  have HVM' : Hid (Lies w (.slice am c'.mine.length cm) c'.mine) := (by rw [HC'.out]; exact HVM.out : Lies w (.slice am c'.mine.length cm) c'.mine)
  have x2 := HX.out.cell 2 rfl
  have x4 := HX.out.cell 4 rfl
  have x5 := HX.out.cell 5 rfl
  go_wp2_with fail
  refine (diffOf_any c.base c.mine _ _ _ (HVB.out.below hbz) (HVM.out.below hbz) HG.out.1 HG.out.2).mono ?_
  rintro e w1 ⟨u1, rfl, hr1, hb1⟩
  rw [← HDF.out, ← HLL.out] at hr1
  have hn0 : ((l.length : Int) == 0) = false := by simpa using (by omega : ¬ (l.length : Int) = 0)
  have h20i : ¬ 20 < (l.length : Int) := by omega
  have HAL : Hid ((Cy.akL c).length = l.length) := (by rw [HAK.out, List.length_map, List.length_take]; omega : (Cy.akL c).length = l.length)
  obtain ⟨g, lc, rfl, hgl, hlc⟩ : ∃ g lc, u1 = .slice (some ⟨g, 0, none⟩) l.length lc ∧ wz.heap.size ≤ g ∧ l.length ≤ lc := by
    obtain ⟨_, h2⟩ := hr1
    rcases h2 with ⟨_, h3⟩ | ⟨g, cap, cur, rfl, hg, _, hc, _⟩
    · exact absurd h3 hl0
    · exact ⟨g, cap, rfl, hg, hc⟩
  have HR1 := hid hr1
  have hb01 := below_tr hbz hb1
  have HX1 := hid (HX.out.below hb1)
  have HY1 := hid (HY.out.below hb1)
  have HQ1 := hid (HQ.out.below hb1)
  clear hr1 x2 x4 x5
  have p7 := HX1.out.cell 7 rfl
  go_wp2_with fail
  clear p7
  go_loopw [7] (fun x wr => ∃ i : Nat, i ≤ l.length ∧ x = .int .i64 i ∧ Hid (wr.ownsRow wz.heap.size 35 5 (.slice (some ⟨g, 0, none⟩) l.length lc) l.length (Pp.flatC (Cy.toB c.cur l i))) ∧ Hid (Cs wr w.heap.size [.string c.who, .string c.fo, .slice ab c.base.length cb, .int .i64 c.cur, .slice am c.mine.length cm, .string c.key, .slice aa c.ask.length ca, .int .i64 c.keys]) ∧ Hid (Cs wr (w.heap.size + 1) zs) ∧ Hid (Cs wr (w.heap.size + 1 + 1) zq) ∧ Below w.heap.size w wr) (fun x _ => l.length - (intOf x).toNat)
  case atStart => exact ⟨0, Nat.zero_le _, rfl, (by rw [show Cy.toB c.cur l 0 = l from by simp [Cy.toB]]; exact HR1.out : w1.ownsRow wz.heap.size 35 5 (.slice (some ⟨g, 0, none⟩) l.length lc) l.length (Pp.flatC (Cy.toB c.cur l 0))), HX1, HY1, HQ1, hb01⟩
  case round =>
    obtain ⟨i, hi, rfl, HR2, HX2, HY2, HQ2, hbel⟩ := hrel
    clear HX1 HY1 HQ1 HR1
    by_cases hil : i < l.length
    · have hili : (i : Int) < l.length := by omega
      have p3 := HX2.out.cell 3 rfl
      have r4 := HR2.out.cellAt (i * 5 + 4) (by omega)
      rw [Pp.flatC_at _ i (by rw [Cy.toB_len]; omega) 4 (by decide)] at r4
      have f4 := HR2.out.frozenAt (i * 5 + 4)
      obtain ⟨ov, r4⟩ : ∃ ov : Int, wr.cell? ⟨g, i * 5 + 4, none⟩ = some (.int .i64 ov) := ⟨_, r4⟩
      have hne : ¬ w.heap.size = g := by omega
      have HR3 : Hid ((wr.setCell ⟨g, i * 5 + 4, none⟩ (.int .i64 c.cur)).ownsRow wz.heap.size 35 5 (.slice (some ⟨g, 0, none⟩) l.length lc) l.length (Pp.flatC (Cy.toB c.cur l (i + 1)))) := (by rw [Cy.toB_flat c.cur l i (by omega)]; exact ownsRow_set' HR2.out _ _ : (wr.setCell ⟨g, i * 5 + 4, none⟩ (.int .i64 c.cur)).ownsRow wz.heap.size 35 5 (.slice (some ⟨g, 0, none⟩) l.length lc) l.length (Pp.flatC (Cy.toB c.cur l (i + 1))))
      have HX3 := hid (HX2.out.other (b' := g) (o := i * 5 + 4) (by omega) (.int .i64 c.cur))
      have HY3 := hid (HY2.out.other (b' := g) (o := i * 5 + 4) (by omega) (.int .i64 c.cur))
      have HQ3 := hid (HQ2.out.other (b' := g) (o := i * 5 + 4) (by omega) (.int .i64 c.cur))
      have hbel3 : Below w.heap.size w (wr.setCell ⟨g, i * 5 + 4, none⟩ (.int .i64 c.cur)) := hbel.setCell (p := ⟨g, i * 5 + 4, none⟩) (by show w.heap.size ≤ g; omega) _
      clear HR2 HX2 HY2 HQ2
      go_wp2_with fail
      go_roundw
      case rel => exact ⟨i + 1, by omega, rfl, HR3, HX3, HY3, HQ3, hbel3⟩
      case measure => simp [intOf]; omega
    · have hili : ¬ (i : Int) < l.length := by omega
      have HLC : Hid (∀ W, W.ownsRow wz.heap.size 35 5 (.slice (some ⟨g, 0, none⟩) l.length lc) l.length (Pp.flatC (Cy.toB c.cur l i)) → LiesC W (.slice (some ⟨g, 0, none⟩) l.length lc) (Cy.akL c) ∧ Own wz.heap.size W (.slice (some ⟨g, 0, none⟩) l.length lc)) := (fun W h => by
        have him : i = l.length := by omega
        have hal : (Cy.akL c).length = l.length := by rw [HAK.out, List.length_map, List.length_take]; omega
        have hg : ∀ (j : Nat) (hj : j < (Cy.akL c).length) (hj2 : j < (Cy.toB c.cur l i).length), (Cy.toB c.cur l i)[j] = (Cy.akL c)[j] := fun j hj hj2 => by
          have h20 : j < 20 := by omega
          have hjl : j < l.length := by omega
          have e1 : (Cy.akL c)[j]? = some (Cy.setB c.cur l[j]) := by rw [HAK.out]; simp [h20, hjl]
          have e2 : (Cy.toB c.cur l i)[j]? = some (Cy.setB c.cur l[j]) := by
            rw [Cy.toB, List.getElem?_append_left (by rw [List.length_map, List.length_take]; omega)]
            have : j < i := by omega
            simp [this, hjl]
          rw [List.getElem?_eq_getElem hj2] at e2
          rw [List.getElem?_eq_getElem hj] at e1
          injection e1 with e1
          injection e2 with e2
          rw [e1, e2]
        have hlC : LiesC W (.slice (some ⟨g, 0, none⟩) l.length lc) (Cy.toB c.cur l i) := liesC_row (by rw [Cy.toB_len]; exact h) (by rw [Cy.toB_len]; omega)
        obtain ⟨a', cap', e, h1, h2, h3⟩ := hlC
        injection e with ea el ec
        subst ea
        subst ec
        refine ⟨⟨_, lc, by rw [hal], by rw [hal]; omega, by rw [hal]; omega, fun j hj => ?_⟩, fun b hb => ?_⟩
        · obtain ⟨b, o, e1, e2, e3⟩ := h3 j (by rw [Cy.toB_len]; omega)
          rw [hg j hj] at e3
          exact ⟨b, o, e1, e2, e3⟩
        · have h9 := own_row h b hb
          exact ⟨h9.1, h9.2⟩ : ∀ W, W.ownsRow wz.heap.size 35 5 (.slice (some ⟨g, 0, none⟩) l.length lc) l.length (Pp.flatC (Cy.toB c.cur l i)) → LiesC W (.slice (some ⟨g, 0, none⟩) l.length lc) (Cy.akL c) ∧ Own wz.heap.size W (.slice (some ⟨g, 0, none⟩) l.length lc))
      have p7 := HX2.out.cell 7 rfl
      have f7 := HX2.out.fr 7
      obtain ⟨w5, hw5⟩ : ∃ w5, w5 = wr.setCell ⟨w.heap.size, 7, none⟩ (.int .i64 (c.keys + 1)) := ⟨_, rfl⟩
      have HX5 : Hid (Cs w5 w.heap.size [.string c.who, .string c.fo, .slice ab c.base.length cb, .int .i64 c.cur, .slice am c.mine.length cm, .string c.key, .slice aa c.ask.length ca, .int .i64 (c.keys + 1)]) := (by rw [hw5]; exact HX2.out.set 7 _ : Cs w5 w.heap.size _)
      have HY5 : Hid (Cs w5 (w.heap.size + 1) zs) := (by rw [hw5]; exact HY2.out.other (by omega) _ : Cs w5 (w.heap.size + 1) zs)
      have HQ5 : Hid (Cs w5 (w.heap.size + 1 + 1) zq) := (by rw [hw5]; exact HQ2.out.other (by omega) _ : Cs w5 (w.heap.size + 1 + 1) zq)
      have HR5 : Hid (w5.ownsRow wz.heap.size 35 5 (.slice (some ⟨g, 0, none⟩) l.length lc) l.length (Pp.flatC (Cy.toB c.cur l i))) := (by rw [hw5]; exact HR2.out.kept (row := some w.heap.size) (nb_set _ _ _ _) (Or.inr (by simp [Value.ownBlock]; omega)) : w5.ownsRow wz.heap.size 35 5 (.slice (some ⟨g, 0, none⟩) l.length lc) l.length (Pp.flatC (Cy.toB c.cur l i)))
      have hb5 : Below w.heap.size w w5 := by rw [hw5]; exact hbel.setCell (p := ⟨w.heap.size, 7, none⟩) (Nat.le_refl _) _
      clear HR2 HX2 HY2 HQ2
      go_upto_region 14 with fail
      rw [← hw5]
      clear hw5 p7 f7
      have p0 := HX5.out.cell 0 rfl
      have f0 := HX5.out.fr 0
      have p5 := HX5.out.cell 5 rfl
      have f5 := HX5.out.fr 5
      have p6 := HX5.out.cell 6 rfl
      have f6 := HX5.out.fr 6
      have p7 := HX5.out.cell 7 rfl
      have f7 := HX5.out.fr 7
      have hdr : Below w5.heap.size w5 w5.drew := (Below.refl _ _).drew
      have l5 := HQ5.out.lt
      have hop1 : Op.stringOp BinOp.add c.who ⟨#[45]⟩ = pure (.string (c.who ++ ⟨#[45]⟩)) := by
        unfold Op.stringOp
        rw [if_neg (by show ¬ ((c.who.size + 1 : Nat) : Int) > 9223372036854775807; omega)]
      have hop2 : Op.stringOp BinOp.add (c.who ++ ⟨#[45]⟩) nu = pure (.string (c.who ++ ⟨#[45]⟩ ++ nu)) := by
        unfold Op.stringOp
        have hsz : (c.who ++ (⟨#[45]⟩ : ByteArray)).size = c.who.size + 1 := by rw [ByteArray.size_append]; rfl
        rw [if_neg (by rw [hsz]; show ¬ ((c.who.size + 1 + nu.size : Nat) : Int) > 9223372036854775807; omega)]
      have hn9 : (Value.slice (some ⟨g, 0, none⟩) l.length lc).ownBlock ≠ some w.heap.size := by simp [Value.ownBlock]; omega
      have HN9 := hid hn9
      clear hn9
      go_cut [1, 2, 3] (fun a b q W => a = .pointer (some ⟨w.heap.size, 0, none⟩) ∧ b = .pointer (some ⟨w.heap.size + 1, 0, none⟩) ∧ q = .pointer (some ⟨w.heap.size + 1 + 1, 0, none⟩) ∧ Hid (Cs W w.heap.size [.string c'.who, .string c'.fo, .slice ab c'.base.length cb, .int .i64 c'.cur, .slice am c'.mine.length cm, .string c'.key, .slice (some ⟨g, 0, none⟩) c'.ask.length lc, .int .i64 c'.keys]) ∧ Hid (Cs W (w.heap.size + 1) zs) ∧ Hid (Cs W (w.heap.size + 1 + 1) zq) ∧ Hid (W.ownsRow wz.heap.size 35 5 (.slice (some ⟨g, 0, none⟩) l.length lc) l.length (Pp.flatC (Cy.toB c.cur l i))) ∧ Below w.heap.size w W)
      case first =>
        go_region_held3 (fun W => W.cell? ⟨w.heap.size, 0, none⟩ = some (.string c.who) ∧ W.cell? ⟨w.heap.size, 7, none⟩ = some (.int .i64 (c.keys + 1))) (first | go_keep | (constructor <;> simp [World.cell?_setCell_other, *])) (first
          | (go_at_call 39; refine (HDE.out _).mono ?_; rintro e w6 ⟨rfl, hb6⟩; have hb56 : Below w5.heap.size w5 w6 := (by exact below_tr hdr hb6); have q0 := (HX5.out.below hb56).cell 0 rfl; have q7 := (HX5.out.below hb56).cell 7 rfl; have q5 := (HX5.out.below hb56).cell 5 rfl; have e5 := (HX5.out.below hb56).fr 5; have q6 := (HX5.out.below hb56).cell 6 rfl; have e6 := (HX5.out.below hb56).fr 6)
          | fail)
        all_goals
          go_wp2_with fail
          go_meet
          case rel => exact ⟨rfl, rfl, rfl, (by rw [HC'.out]; show Cs _ _ [.string c.who, .string c.fo, .slice ab c.base.length cb, .int .i64 c.cur, .slice am c.mine.length cm, .string (c.who ++ ⟨#[45]⟩ ++ nu), .slice (some ⟨g, 0, none⟩) (Cy.akL c).length lc, .int .i64 (c.keys + 1)]; rw [HAL.out]; exact ((HX5.out.below hb56).set 5 _).set 6 _), ((HY5.out.below hb56).other (by omega) _).other (by omega) _, ((HQ5.out.below hb56).other (by omega) _).other (by omega) _, ((HR5.out.kept9 hb56).kept (row := some w.heap.size) (nb_set _ _ _ _) (Or.inr HN9.out)).kept (row := some w.heap.size) (nb_set _ _ _ _) (Or.inr HN9.out), ((below_tr hb5 hb56).setCell (p := ⟨w.heap.size, 5, none⟩) (Nat.le_refl _) _).setCell (p := ⟨w.heap.size, 6, none⟩) (Nat.le_refl _) _⟩
      case rest =>
        obtain ⟨rfl, rfl, rfl, HXc, HYc, HQc, HRc, hbc⟩ := hcut
        have HLA : Hid (LiesC wc (.slice (some ⟨g, 0, none⟩) c'.ask.length lc) c'.ask ∧ Own wz.heap.size wc (.slice (some ⟨g, 0, none⟩) c'.ask.length lc)) := (by
          have h := HLC.out _ HRc.out
          rw [HC'.out]
          show LiesC wc (.slice (some ⟨g, 0, none⟩) (Cy.akL c).length lc) (Cy.akL c) ∧ Own wz.heap.size wc (.slice (some ⟨g, 0, none⟩) (Cy.akL c).length lc)
          rw [HAL.out]
          exact h : LiesC wc (.slice (some ⟨g, 0, none⟩) c'.ask.length lc) c'.ask ∧ Own wz.heap.size wc (.slice (some ⟨g, 0, none⟩) c'.ask.length lc))
        clear p0 p5 p6 p7 f0 f5 f6 f7 hop1 hop2 hdr HLC HRc HX5 HY5 HQ5 HR5
        have n1 : ¬ w.heap.size = w.heap.size + 1 := by omega
        have n2 : ¬ w.heap.size = w.heap.size + 1 + 1 := by omega
        have n3 : ¬ w.heap.size + 1 = w.heap.size + 1 + 1 := by omega
        have n8 : ¬ w.heap.size + 1 + 1 = w.heap.size := by omega
        have n9 : ¬ w.heap.size + 1 + 1 = w.heap.size + 1 := by omega
        have p0 := HXc.out.cell 0 rfl
        have p1 := HXc.out.cell 1 rfl
        have p2 := HXc.out.cell 2 rfl
        have p3 := HXc.out.cell 3 rfl
        have p4 := HXc.out.cell 4 rfl
        have p5 := HXc.out.cell 5 rfl
        have p6 := HXc.out.cell 6 rfl
        have p7 := HXc.out.cell 7 rfl
        have y0 := HYc.out.cell 0 rfl
        have g0 := HYc.out.fr 0
        have y1 := HYc.out.cell 1 rfl
        have g1 := HYc.out.fr 1
        have y2 := HYc.out.cell 2 rfl
        have g2 := HYc.out.fr 2
        have y3 := HYc.out.cell 3 rfl
        have g3 := HYc.out.fr 3
        have y4 := HYc.out.cell 4 rfl
        have g4 := HYc.out.fr 4
        have y5 := HYc.out.cell 5 rfl
        have g5 := HYc.out.fr 5
        have y6 := HYc.out.cell 6 rfl
        have g6 := HYc.out.fr 6
        have y7 := HYc.out.cell 7 rfl
        have g7 := HYc.out.fr 7
        have z0 := HQc.out.cell 0 rfl
        have k0 := HQc.out.fr 0
        have z1 := HQc.out.cell 1 rfl
        have k1 := HQc.out.fr 1
        have z2 := HQc.out.cell 2 rfl
        have k2 := HQc.out.fr 2
        have z3 := HQc.out.cell 3 rfl
        have k3 := HQc.out.fr 3
        have z4 := HQc.out.cell 4 rfl
        have k4 := HQc.out.fr 4
        have z5 := HQc.out.cell 5 rfl
        have k5 := HQc.out.fr 5
        have z6 := HQc.out.cell 6 rfl
        have k6 := HQc.out.fr 6
        have z7 := HQc.out.cell 7 rfl
        have k7 := HQc.out.fr 7
        have z8 := HQc.out.cell 8 rfl
        have k8 := HQc.out.fr 8
        have z9 := HQc.out.cell 9 rfl
        have k9 := HQc.out.fr 9
        go_upto_region 15 with fail
        go_region_held3 (fun W => W.cell? ⟨w.heap.size, 0, none⟩ = some (.string c'.who) ∧ W.cell? ⟨w.heap.size, 1, none⟩ = some (.string c'.fo) ∧ W.cell? ⟨w.heap.size, 2, none⟩ = some (.slice ab c'.base.length cb) ∧ W.cell? ⟨w.heap.size, 3, none⟩ = some (.int .i64 c'.cur) ∧ W.cell? ⟨w.heap.size, 4, none⟩ = some (.slice am c'.mine.length cm) ∧ W.cell? ⟨w.heap.size, 5, none⟩ = some (.string c'.key) ∧ W.cell? ⟨w.heap.size, 6, none⟩ = some (.slice (some ⟨g, 0, none⟩) c'.ask.length lc) ∧ W.cell? ⟨w.heap.size, 7, none⟩ = some (.int .i64 c'.keys)) (go_keep) (fail)
        all_goals
          go_wp2_with fail
          have hfin := ((((((((((((((((((hbc.setCell (p := ⟨w.heap.size + 1, 0, none⟩) (Nat.le_succ _) (.string c'.who)).setCell (p := ⟨w.heap.size + 1, 1, none⟩) (Nat.le_succ _) (.string c'.fo)).setCell (p := ⟨w.heap.size + 1, 2, none⟩) (Nat.le_succ _) (.slice ab c'.base.length cb)).setCell (p := ⟨w.heap.size + 1, 3, none⟩) (Nat.le_succ _) (.int .i64 c'.cur)).setCell (p := ⟨w.heap.size + 1, 4, none⟩) (Nat.le_succ _) (.slice am c'.mine.length cm)).setCell (p := ⟨w.heap.size + 1, 5, none⟩) (Nat.le_succ _) (.string c'.key)).setCell (p := ⟨w.heap.size + 1, 6, none⟩) (Nat.le_succ _) (.slice (some ⟨g, 0, none⟩) c'.ask.length lc)).setCell (p := ⟨w.heap.size + 1, 7, none⟩) (Nat.le_succ _) (.int .i64 c'.keys)).setCell (p := ⟨w.heap.size + 1 + 1, 0, none⟩) (by show _ ≤ w.heap.size + 1 + 1; omega) (.int .i64 1)).setCell (p := ⟨w.heap.size + 1 + 1, 1, none⟩) (by show _ ≤ w.heap.size + 1 + 1; omega) (.string c'.who)).setCell (p := ⟨w.heap.size + 1 + 1, 2, none⟩) (by show _ ≤ w.heap.size + 1 + 1; omega) (.string c'.fo)).setCell (p := ⟨w.heap.size + 1 + 1, 3, none⟩) (by show _ ≤ w.heap.size + 1 + 1; omega) (.string ⟨#[]⟩)).setCell (p := ⟨w.heap.size + 1 + 1, 4, none⟩) (by show _ ≤ w.heap.size + 1 + 1; omega) (.string c'.key)).setCell (p := ⟨w.heap.size + 1 + 1, 5, none⟩) (by show _ ≤ w.heap.size + 1 + 1; omega) (.string ⟨#[]⟩)).setCell (p := ⟨w.heap.size + 1 + 1, 6, none⟩) (by show _ ≤ w.heap.size + 1 + 1; omega) (.int .i64 0)).setCell (p := ⟨w.heap.size + 1 + 1, 7, none⟩) (by show _ ≤ w.heap.size + 1 + 1; omega) (.int .i64 0)).setCell (p := ⟨w.heap.size + 1 + 1, 8, none⟩) (by show _ ≤ w.heap.size + 1 + 1; omega) (.int .i64 0)).setCell (p := ⟨w.heap.size + 1 + 1, 9, none⟩) (by show _ ≤ w.heap.size + 1 + 1; omega) (.slice (some ⟨g, 0, none⟩) c'.ask.length lc)).drew
          refine bodyPost_ret (v := .tuple #[.agg #[.string c'.who, .string c'.fo, .slice ab c'.base.length cb, .int .i64 c'.cur, .slice am c'.mine.length cm, .string c'.key, .slice (some ⟨g, 0, none⟩) c'.ask.length lc, .int .i64 c'.keys], .agg #[.int .i64 1, .string c'.who, .string c'.fo, .string ⟨#[]⟩, .string c'.key, .string ⟨#[]⟩, .int .i64 0, .int .i64 0, .int .i64 0, .slice (some ⟨g, 0, none⟩) c'.ask.length lc], .bool true, .int .i64 0]) (by simp [results, Tryz.results19, go_sem, y0, y1, y2, y3, y4, y5, y6, y7, z0, z1, z2, z3, z4, z5, z6, z7, z8, z9]) rfl ⟨_, _, rfl, ?_, ?_, hfin⟩
          · exact ⟨_, _, _, rfl, HVB'.out.below hfin, HVM'.out.below hfin, ((HLA.out.1.nbo (grown_on (grown_on (grown_on (grown_on (grown_on (grown_on (grown_on (nb_set wc (w.heap.size + 1) 0 (.string c'.who)) (nb_set _ (w.heap.size + 1) 1 (.string c'.fo))) (nb_set _ (w.heap.size + 1) 2 (.slice ab c'.base.length cb))) (nb_set _ (w.heap.size + 1) 3 (.int .i64 c'.cur))) (nb_set _ (w.heap.size + 1) 4 (.slice am c'.mine.length cm))) (nb_set _ (w.heap.size + 1) 5 (.string c'.key))) (nb_set _ (w.heap.size + 1) 6 (.slice (some ⟨g, 0, none⟩) c'.ask.length lc))) (nb_set _ (w.heap.size + 1) 7 (.int .i64 c'.keys))) (fun b hb => by have := (HLA.out.2 b hb).1; omega)).nbo (grown_on (grown_on (grown_on (grown_on (grown_on (grown_on (grown_on (grown_on (grown_on (nb_set _ (w.heap.size + 1 + 1) 0 (.int .i64 1)) (nb_set _ (w.heap.size + 1 + 1) 1 (.string c'.who))) (nb_set _ (w.heap.size + 1 + 1) 2 (.string c'.fo))) (nb_set _ (w.heap.size + 1 + 1) 3 (.string ⟨#[]⟩))) (nb_set _ (w.heap.size + 1 + 1) 4 (.string c'.key))) (nb_set _ (w.heap.size + 1 + 1) 5 (.string ⟨#[]⟩))) (nb_set _ (w.heap.size + 1 + 1) 6 (.int .i64 0))) (nb_set _ (w.heap.size + 1 + 1) 7 (.int .i64 0))) (nb_set _ (w.heap.size + 1 + 1) 8 (.int .i64 0))) (nb_set _ (w.heap.size + 1 + 1) 9 (.slice (some ⟨g, 0, none⟩) c'.ask.length lc))) (fun b hb => by have := (HLA.out.2 b hb).1; omega)).below ((Below.refl _ _).drew)⟩
          · exact ⟨_, rfl, ((HLA.out.1.nbo (grown_on (grown_on (grown_on (grown_on (grown_on (grown_on (grown_on (nb_set wc (w.heap.size + 1) 0 (.string c'.who)) (nb_set _ (w.heap.size + 1) 1 (.string c'.fo))) (nb_set _ (w.heap.size + 1) 2 (.slice ab c'.base.length cb))) (nb_set _ (w.heap.size + 1) 3 (.int .i64 c'.cur))) (nb_set _ (w.heap.size + 1) 4 (.slice am c'.mine.length cm))) (nb_set _ (w.heap.size + 1) 5 (.string c'.key))) (nb_set _ (w.heap.size + 1) 6 (.slice (some ⟨g, 0, none⟩) c'.ask.length lc))) (nb_set _ (w.heap.size + 1) 7 (.int .i64 c'.keys))) (fun b hb => by have := (HLA.out.2 b hb).1; omega)).nbo (grown_on (grown_on (grown_on (grown_on (grown_on (grown_on (grown_on (grown_on (grown_on (nb_set _ (w.heap.size + 1 + 1) 0 (.int .i64 1)) (nb_set _ (w.heap.size + 1 + 1) 1 (.string c'.who))) (nb_set _ (w.heap.size + 1 + 1) 2 (.string c'.fo))) (nb_set _ (w.heap.size + 1 + 1) 3 (.string ⟨#[]⟩))) (nb_set _ (w.heap.size + 1 + 1) 4 (.string c'.key))) (nb_set _ (w.heap.size + 1 + 1) 5 (.string ⟨#[]⟩))) (nb_set _ (w.heap.size + 1 + 1) 6 (.int .i64 0))) (nb_set _ (w.heap.size + 1 + 1) 7 (.int .i64 0))) (nb_set _ (w.heap.size + 1 + 1) 8 (.int .i64 0))) (nb_set _ (w.heap.size + 1 + 1) 9 (.slice (some ⟨g, 0, none⟩) c'.ask.length lc))) (fun b hb => by have := (HLA.out.2 b hb).1; omega)).below ((Below.refl _ _).drew)⟩

set_option maxRecDepth 100000 in
set_option maxHeartbeats 8000000 in
theorem sendOf_gt (c : Cn) (v : Value) (w : World) (hv : LiesN w v c) (h0 : Cy.chE c = 0) (hk : c.key.size = 0) (hn : ¬ (Sp.dfL c.base c.mine).length = 0) (hkk : c.keys < 1000000) (h20 : 20 < (Sp.dfL c.base c.mine).length) :
    Calls Tryz.prog 19 #[v] w fun e w' => ∃ u q, e = .returned (.tuple #[u, q, .bool true, .int .i64 0]) ∧ LiesN w' u (Cy.nxt (Cy.num c) c) ∧ LiesQ w' q (Cy.rqOf (Cy.nxt (Cy.num c) c)) ∧ Below w.heap.size w w' := by
  obtain ⟨kb2, kb, kb3⟩ := key_emp hk
  have HDF := hid (Cy.df_is h0)
  have HG := hid (Cy.ch_good h0)
  have HN0 := hid hn
  have hrg : 0 ≤ c.keys := by
    have := (Cy.ch_parts h0).2.2.2.1
    simp [Cy.rgB] at this
    omega
  have hws : c.who.size ≤ 10 := Cy.ch_who h0
  have hnl := num_len c hrg hkk
  obtain ⟨nu, hnu⟩ : ∃ nu, nu = Cy.num c := ⟨_, rfl⟩
  have HDE : Hid (∀ W, Calls Tryz.prog 39 #[.int .i64 (c.keys + 1)] W fun e w' => e = .returned (.string nu) ∧ Below W.heap.size W w') := (fun W => by rw [hnu]; exact decimal_next c hrg hkk W : ∀ W, Calls Tryz.prog 39 #[.int .i64 (c.keys + 1)] W fun e w' => e = .returned (.string nu) ∧ Below W.heap.size W w')
  rw [← hnu] at hnl ⊢
  have HNU := hid hnu
  obtain ⟨c', hc'⟩ : ∃ c', c' = Cy.nxt nu c := ⟨_, rfl⟩
  rw [← hc']
  have HC' := hid hc'
  have hke : (c.keys == 1000000) = false := by simpa using (by omega : ¬ c.keys = 1000000)
  obtain ⟨l, hl⟩ : ∃ l, l = Sp.dfL c.base c.mine := ⟨_, rfl⟩
  have HLL := hid hl
  have HAK : Hid (Cy.akL c = (l.take 20).map (Cy.setB c.cur)) := (by rw [hl]; rfl : Cy.akL c = (l.take 20).map (Cy.setB c.cur))
  rw [← hl] at h20
  have hl0 : ¬ l.length = 0 := by rw [hl]; exact hn
  have hlm : l.length ≤ 1000 := by rw [hl]; exact Cy.df_len h0
  clear hk hn h0 hl hnu hc'
  have HV := hid hv
  obtain ⟨vb, vm, va, rfl, lb, lm, la⟩ := hv
  have HVB := hid lb
  have HVM := hid lm
  have HVA := hid la
  obtain ⟨ab, cb, rfl, _⟩ := lb
  obtain ⟨am, cm, rfl, _⟩ := lm
  obtain ⟨aa, ca, rfl, _⟩ := la
  obtain ⟨wz, hwz⟩ : ∃ wz, wz = ((w.alloc (.cells #[.string c.who, .string c.fo, .slice ab c.base.length cb, .int .i64 c.cur, .slice am c.mine.length cm, .string c.key, .slice aa c.ask.length ca, .int .i64 c.keys] 25)).alloc (.cells #[.string ⟨#[]⟩, .string ⟨#[]⟩, .slice none 0 0, .int .i64 0, .slice none 0 0, .string ⟨#[]⟩, .slice none 0 0, .int .i64 0] 25)).alloc (.cells #[.int .i64 0, .string ⟨#[]⟩, .string ⟨#[]⟩, .string ⟨#[]⟩, .string ⟨#[]⟩, .string ⟨#[]⟩, .int .i64 0, .int .i64 0, .int .i64 0, .slice none 0 0] 38) := ⟨_, rfl⟩
  obtain ⟨wa, hwa⟩ : ∃ wa, wa = w.alloc (.cells #[.string c.who, .string c.fo, .slice ab c.base.length cb, .int .i64 c.cur, .slice am c.mine.length cm, .string c.key, .slice aa c.ask.length ca, .int .i64 c.keys] 25) := ⟨_, rfl⟩
  obtain ⟨wb, hwb⟩ : ∃ wb, wb = wa.alloc (.cells #[.string ⟨#[]⟩, .string ⟨#[]⟩, .slice none 0 0, .int .i64 0, .slice none 0 0, .string ⟨#[]⟩, .slice none 0 0, .int .i64 0] 25) := ⟨_, rfl⟩
  have hwz2 : wz = wb.alloc (.cells #[.int .i64 0, .string ⟨#[]⟩, .string ⟨#[]⟩, .string ⟨#[]⟩, .string ⟨#[]⟩, .string ⟨#[]⟩, .int .i64 0, .int .i64 0, .int .i64 0, .slice none 0 0] 38) := by rw [hwz, hwb, hwa]
  have sa : wa.heap.size = w.heap.size + 1 := by rw [hwa]; simp
  have sb : wb.heap.size = w.heap.size + 1 + 1 := by rw [hwb]; simp [sa]
  have bwa : Below w.heap.size w wa := by rw [hwa]; exact (Below.refl _ _).alloc (Nat.le_refl _) _
  have bwb : Below wa.heap.size wa wb := by rw [hwb]; exact (Below.refl _ _).alloc (Nat.le_refl _) _
  have bwz : Below wb.heap.size wb wz := by rw [hwz2]; exact (Below.refl _ _).alloc (Nat.le_refl _) _
  have hbz : Below w.heap.size w wz := below_tr bwa (below_tr bwb bwz)
  have HX : Hid (Cs wz w.heap.size [.string c.who, .string c.fo, .slice ab c.base.length cb, .int .i64 c.cur, .slice am c.mine.length cm, .string c.key, .slice aa c.ask.length ca, .int .i64 c.keys]) := (((by rw [hwa]; exact Cs.new w [.string c.who, .string c.fo, .slice ab c.base.length cb, .int .i64 c.cur, .slice am c.mine.length cm, .string c.key, .slice aa c.ask.length ca, .int .i64 c.keys] _ : Cs wa w.heap.size [.string c.who, .string c.fo, .slice ab c.base.length cb, .int .i64 c.cur, .slice am c.mine.length cm, .string c.key, .slice aa c.ask.length ca, .int .i64 c.keys]).below bwb).below bwz : Cs wz w.heap.size _)
  have HY : Hid (Cs wz (w.heap.size + 1) zs) := ((by rw [← sa, hwb]; exact Cs.new wa zs _ : Cs wb (w.heap.size + 1) zs).below bwz : Cs wz (w.heap.size + 1) zs)
  have HQ : Hid (Cs wz (w.heap.size + 1 + 1) zq) := (by rw [← sb, hwz2]; exact Cs.new wb zq _ : Cs wz (w.heap.size + 1 + 1) zq)
  have hNz : w.heap.size + 1 + 1 < wz.heap.size := HQ.out.lt
  have HWZ := hid hwz
  clear hwa hwb hwz hwz2 bwa bwb bwz sa sb
  go_enter Tryz.func19, Tryz.ntmps19
  go_upto_region 1 with fail
  rw [← HWZ.out]
  clear HWZ
  have HVB' : Hid (Lies w (.slice ab c'.base.length cb) c'.base) := (by rw [HC'.out]; exact HVB.out : Lies w (.slice ab c'.base.length cb) c'.base)
  have HVM' : Hid (Lies w (.slice am c'.mine.length cm) c'.mine) := (by rw [HC'.out]; exact HVM.out : Lies w (.slice am c'.mine.length cm) c'.mine)
  have x2 := HX.out.cell 2 rfl
  have x4 := HX.out.cell 4 rfl
  have x5 := HX.out.cell 5 rfl
  go_wp2_with fail
  refine (diffOf_any c.base c.mine _ _ _ (HVB.out.below hbz) (HVM.out.below hbz) HG.out.1 HG.out.2).mono ?_
  rintro e w1 ⟨u1, rfl, hr1, hb1⟩
  rw [← HDF.out, ← HLL.out] at hr1
  have hn0 : ((l.length : Int) == 0) = false := by simpa using (by omega : ¬ (l.length : Int) = 0)
  have h20i : 20 < (l.length : Int) := by omega
  have HAL : Hid ((Cy.akL c).length = 20) := (by rw [HAK.out, List.length_map, List.length_take]; omega : (Cy.akL c).length = 20)
  obtain ⟨g, lc, rfl, hgl, hlc⟩ : ∃ g lc, u1 = .slice (some ⟨g, 0, none⟩) l.length lc ∧ wz.heap.size ≤ g ∧ l.length ≤ lc := by
    obtain ⟨_, h2⟩ := hr1
    rcases h2 with ⟨_, h3⟩ | ⟨g, cap, cur, rfl, hg, _, hc, _⟩
    · exact absurd h3 hl0
    · exact ⟨g, cap, rfl, hg, hc⟩
  have HR1 := hid hr1
  have hlc20 : (20 : Int) ≤ (lc : Int) := by omega
  have hb01 := below_tr hbz hb1
  have HX1 := hid (HX.out.below hb1)
  have HY1 := hid (HY.out.below hb1)
  have HQ1 := hid (HQ.out.below hb1)
  clear hr1 x2 x4 x5
  have p7 := HX1.out.cell 7 rfl
  go_wp2_with fail
  clear p7
  go_loopw [7] (fun x wr => ∃ i : Nat, i ≤ 20 ∧ x = .int .i64 i ∧ Hid (wr.ownsRow wz.heap.size 35 5 (.slice (some ⟨g, 0, none⟩) l.length lc) l.length (Pp.flatC (Cy.toB c.cur l i))) ∧ Hid (Cs wr w.heap.size [.string c.who, .string c.fo, .slice ab c.base.length cb, .int .i64 c.cur, .slice am c.mine.length cm, .string c.key, .slice aa c.ask.length ca, .int .i64 c.keys]) ∧ Hid (Cs wr (w.heap.size + 1) zs) ∧ Hid (Cs wr (w.heap.size + 1 + 1) zq) ∧ Below w.heap.size w wr) (fun x _ => 20 - (intOf x).toNat)
  case atStart => exact ⟨0, Nat.zero_le _, rfl, (by rw [show Cy.toB c.cur l 0 = l from by simp [Cy.toB]]; exact HR1.out : w1.ownsRow wz.heap.size 35 5 (.slice (some ⟨g, 0, none⟩) l.length lc) l.length (Pp.flatC (Cy.toB c.cur l 0))), HX1, HY1, HQ1, hb01⟩
  case round =>
    obtain ⟨i, hi, rfl, HR2, HX2, HY2, HQ2, hbel⟩ := hrel
    clear HX1 HY1 HQ1 HR1
    by_cases hil : i < 20
    · have hili : (i : Int) < 20 := by omega
      have p3 := HX2.out.cell 3 rfl
      have r4 := HR2.out.cellAt (i * 5 + 4) (by omega)
      rw [Pp.flatC_at _ i (by rw [Cy.toB_len]; omega) 4 (by decide)] at r4
      have f4 := HR2.out.frozenAt (i * 5 + 4)
      obtain ⟨ov, r4⟩ : ∃ ov : Int, wr.cell? ⟨g, i * 5 + 4, none⟩ = some (.int .i64 ov) := ⟨_, r4⟩
      have hne : ¬ w.heap.size = g := by omega
      have HR3 : Hid ((wr.setCell ⟨g, i * 5 + 4, none⟩ (.int .i64 c.cur)).ownsRow wz.heap.size 35 5 (.slice (some ⟨g, 0, none⟩) l.length lc) l.length (Pp.flatC (Cy.toB c.cur l (i + 1)))) := (by rw [Cy.toB_flat c.cur l i (by omega)]; exact ownsRow_set' HR2.out _ _ : (wr.setCell ⟨g, i * 5 + 4, none⟩ (.int .i64 c.cur)).ownsRow wz.heap.size 35 5 (.slice (some ⟨g, 0, none⟩) l.length lc) l.length (Pp.flatC (Cy.toB c.cur l (i + 1))))
      have HX3 := hid (HX2.out.other (b' := g) (o := i * 5 + 4) (by omega) (.int .i64 c.cur))
      have HY3 := hid (HY2.out.other (b' := g) (o := i * 5 + 4) (by omega) (.int .i64 c.cur))
      have HQ3 := hid (HQ2.out.other (b' := g) (o := i * 5 + 4) (by omega) (.int .i64 c.cur))
      have hbel3 : Below w.heap.size w (wr.setCell ⟨g, i * 5 + 4, none⟩ (.int .i64 c.cur)) := hbel.setCell (p := ⟨g, i * 5 + 4, none⟩) (by show w.heap.size ≤ g; omega) _
      clear HR2 HX2 HY2 HQ2
      go_wp2_with fail
      go_roundw
      case rel => exact ⟨i + 1, by omega, rfl, HR3, HX3, HY3, HQ3, hbel3⟩
      case measure => simp [intOf]; omega
    · have hili : ¬ (i : Int) < 20 := by omega
      have HLC : Hid (∀ W, W.ownsRow wz.heap.size 35 5 (.slice (some ⟨g, 0, none⟩) l.length lc) l.length (Pp.flatC (Cy.toB c.cur l i)) → LiesC W (.slice (some ⟨g, 0, none⟩) 20 lc) (Cy.akL c) ∧ Own wz.heap.size W (.slice (some ⟨g, 0, none⟩) 20 lc)) := (fun W h => by
        have him : i = 20 := by omega
        have hal : (Cy.akL c).length = 20 := by rw [HAK.out, List.length_map, List.length_take]; omega
        have hg : ∀ (j : Nat) (hj : j < (Cy.akL c).length) (hj2 : j < (Cy.toB c.cur l i).length), (Cy.toB c.cur l i)[j] = (Cy.akL c)[j] := fun j hj hj2 => by
          have h20 : j < 20 := by omega
          have hjl : j < l.length := by omega
          have e1 : (Cy.akL c)[j]? = some (Cy.setB c.cur l[j]) := by rw [HAK.out]; simp [h20, hjl]
          have e2 : (Cy.toB c.cur l i)[j]? = some (Cy.setB c.cur l[j]) := by
            rw [Cy.toB, List.getElem?_append_left (by rw [List.length_map, List.length_take]; omega)]
            have : j < i := by omega
            simp [this, hjl]
          rw [List.getElem?_eq_getElem hj2] at e2
          rw [List.getElem?_eq_getElem hj] at e1
          injection e1 with e1
          injection e2 with e2
          rw [e1, e2]
        have hlC : LiesC W (.slice (some ⟨g, 0, none⟩) l.length lc) (Cy.toB c.cur l i) := liesC_row (by rw [Cy.toB_len]; exact h) (by rw [Cy.toB_len]; omega)
        obtain ⟨a', cap', e, h1, h2, h3⟩ := hlC
        injection e with ea el ec
        subst ea
        subst ec
        refine ⟨⟨_, lc, by rw [hal], by rw [hal]; omega, by rw [hal]; omega, fun j hj => ?_⟩, fun b hb => ?_⟩
        · obtain ⟨b, o, e1, e2, e3⟩ := h3 j (by rw [Cy.toB_len]; omega)
          rw [hg j hj] at e3
          exact ⟨b, o, e1, e2, e3⟩
        · have h9 := own_row h b hb
          exact ⟨h9.1, h9.2⟩ : ∀ W, W.ownsRow wz.heap.size 35 5 (.slice (some ⟨g, 0, none⟩) l.length lc) l.length (Pp.flatC (Cy.toB c.cur l i)) → LiesC W (.slice (some ⟨g, 0, none⟩) 20 lc) (Cy.akL c) ∧ Own wz.heap.size W (.slice (some ⟨g, 0, none⟩) 20 lc))
      have p7 := HX2.out.cell 7 rfl
      have f7 := HX2.out.fr 7
      obtain ⟨w5, hw5⟩ : ∃ w5, w5 = wr.setCell ⟨w.heap.size, 7, none⟩ (.int .i64 (c.keys + 1)) := ⟨_, rfl⟩
      have HX5 : Hid (Cs w5 w.heap.size [.string c.who, .string c.fo, .slice ab c.base.length cb, .int .i64 c.cur, .slice am c.mine.length cm, .string c.key, .slice aa c.ask.length ca, .int .i64 (c.keys + 1)]) := (by rw [hw5]; exact HX2.out.set 7 _ : Cs w5 w.heap.size _)
      have HY5 : Hid (Cs w5 (w.heap.size + 1) zs) := (by rw [hw5]; exact HY2.out.other (by omega) _ : Cs w5 (w.heap.size + 1) zs)
      have HQ5 : Hid (Cs w5 (w.heap.size + 1 + 1) zq) := (by rw [hw5]; exact HQ2.out.other (by omega) _ : Cs w5 (w.heap.size + 1 + 1) zq)
      have HR5 : Hid (w5.ownsRow wz.heap.size 35 5 (.slice (some ⟨g, 0, none⟩) l.length lc) l.length (Pp.flatC (Cy.toB c.cur l i))) := (by rw [hw5]; exact HR2.out.kept (row := some w.heap.size) (nb_set _ _ _ _) (Or.inr (by simp [Value.ownBlock]; omega)) : w5.ownsRow wz.heap.size 35 5 (.slice (some ⟨g, 0, none⟩) l.length lc) l.length (Pp.flatC (Cy.toB c.cur l i)))
      have hb5 : Below w.heap.size w w5 := by rw [hw5]; exact hbel.setCell (p := ⟨w.heap.size, 7, none⟩) (Nat.le_refl _) _
      clear HR2 HX2 HY2 HQ2
      go_upto_region 14 with fail
      rw [← hw5]
      clear hw5 p7 f7
      have p0 := HX5.out.cell 0 rfl
      have f0 := HX5.out.fr 0
      have p5 := HX5.out.cell 5 rfl
      have f5 := HX5.out.fr 5
      have p6 := HX5.out.cell 6 rfl
      have f6 := HX5.out.fr 6
      have p7 := HX5.out.cell 7 rfl
      have f7 := HX5.out.fr 7
      have hdr : Below w5.heap.size w5 w5.drew := (Below.refl _ _).drew
      have l5 := HQ5.out.lt
      have hop1 : Op.stringOp BinOp.add c.who ⟨#[45]⟩ = pure (.string (c.who ++ ⟨#[45]⟩)) := by
        unfold Op.stringOp
        rw [if_neg (by show ¬ ((c.who.size + 1 : Nat) : Int) > 9223372036854775807; omega)]
      have hop2 : Op.stringOp BinOp.add (c.who ++ ⟨#[45]⟩) nu = pure (.string (c.who ++ ⟨#[45]⟩ ++ nu)) := by
        unfold Op.stringOp
        have hsz : (c.who ++ (⟨#[45]⟩ : ByteArray)).size = c.who.size + 1 := by rw [ByteArray.size_append]; rfl
        rw [if_neg (by rw [hsz]; show ¬ ((c.who.size + 1 + nu.size : Nat) : Int) > 9223372036854775807; omega)]
      have hn9 : (Value.slice (some ⟨g, 0, none⟩) l.length lc).ownBlock ≠ some w.heap.size := by simp [Value.ownBlock]; omega
      have HN9 := hid hn9
      clear hn9
      go_cut [1, 2, 3] (fun a b q W => a = .pointer (some ⟨w.heap.size, 0, none⟩) ∧ b = .pointer (some ⟨w.heap.size + 1, 0, none⟩) ∧ q = .pointer (some ⟨w.heap.size + 1 + 1, 0, none⟩) ∧ Hid (Cs W w.heap.size [.string c'.who, .string c'.fo, .slice ab c'.base.length cb, .int .i64 c'.cur, .slice am c'.mine.length cm, .string c'.key, .slice (some ⟨g, 0, none⟩) c'.ask.length lc, .int .i64 c'.keys]) ∧ Hid (Cs W (w.heap.size + 1) zs) ∧ Hid (Cs W (w.heap.size + 1 + 1) zq) ∧ Hid (W.ownsRow wz.heap.size 35 5 (.slice (some ⟨g, 0, none⟩) l.length lc) l.length (Pp.flatC (Cy.toB c.cur l i))) ∧ Below w.heap.size w W)
      case first =>
        go_region_held3 (fun W => W.cell? ⟨w.heap.size, 0, none⟩ = some (.string c.who) ∧ W.cell? ⟨w.heap.size, 7, none⟩ = some (.int .i64 (c.keys + 1))) (first | go_keep | (constructor <;> simp [World.cell?_setCell_other, *])) (first
          | (go_at_call 39; refine (HDE.out _).mono ?_; rintro e w6 ⟨rfl, hb6⟩; have hb56 : Below w5.heap.size w5 w6 := (by exact below_tr hdr hb6); have q0 := (HX5.out.below hb56).cell 0 rfl; have q7 := (HX5.out.below hb56).cell 7 rfl; have q5 := (HX5.out.below hb56).cell 5 rfl; have e5 := (HX5.out.below hb56).fr 5; have q6 := (HX5.out.below hb56).cell 6 rfl; have e6 := (HX5.out.below hb56).fr 6)
          | fail)
        all_goals
          go_wp2_with fail
          go_meet
          case rel => exact ⟨rfl, rfl, rfl, (by rw [HC'.out]; show Cs _ _ [.string c.who, .string c.fo, .slice ab c.base.length cb, .int .i64 c.cur, .slice am c.mine.length cm, .string (c.who ++ ⟨#[45]⟩ ++ nu), .slice (some ⟨g, 0, none⟩) (Cy.akL c).length lc, .int .i64 (c.keys + 1)]; rw [HAL.out]; exact ((HX5.out.below hb56).set 5 _).set 6 _), ((HY5.out.below hb56).other (by omega) _).other (by omega) _, ((HQ5.out.below hb56).other (by omega) _).other (by omega) _, ((HR5.out.kept9 hb56).kept (row := some w.heap.size) (nb_set _ _ _ _) (Or.inr HN9.out)).kept (row := some w.heap.size) (nb_set _ _ _ _) (Or.inr HN9.out), ((below_tr hb5 hb56).setCell (p := ⟨w.heap.size, 5, none⟩) (Nat.le_refl _) _).setCell (p := ⟨w.heap.size, 6, none⟩) (Nat.le_refl _) _⟩
      case rest =>
        obtain ⟨rfl, rfl, rfl, HXc, HYc, HQc, HRc, hbc⟩ := hcut
        have HLA : Hid (LiesC wc (.slice (some ⟨g, 0, none⟩) c'.ask.length lc) c'.ask ∧ Own wz.heap.size wc (.slice (some ⟨g, 0, none⟩) c'.ask.length lc)) := (by
          have h := HLC.out _ HRc.out
          rw [HC'.out]
          show LiesC wc (.slice (some ⟨g, 0, none⟩) (Cy.akL c).length lc) (Cy.akL c) ∧ Own wz.heap.size wc (.slice (some ⟨g, 0, none⟩) (Cy.akL c).length lc)
          rw [HAL.out]
          exact h : LiesC wc (.slice (some ⟨g, 0, none⟩) c'.ask.length lc) c'.ask ∧ Own wz.heap.size wc (.slice (some ⟨g, 0, none⟩) c'.ask.length lc))
        clear p0 p5 p6 p7 f0 f5 f6 f7 hop1 hop2 hdr HLC HRc HX5 HY5 HQ5 HR5
        have n1 : ¬ w.heap.size = w.heap.size + 1 := by omega
        have n2 : ¬ w.heap.size = w.heap.size + 1 + 1 := by omega
        have n3 : ¬ w.heap.size + 1 = w.heap.size + 1 + 1 := by omega
        have n8 : ¬ w.heap.size + 1 + 1 = w.heap.size := by omega
        have n9 : ¬ w.heap.size + 1 + 1 = w.heap.size + 1 := by omega
        have p0 := HXc.out.cell 0 rfl
        have p1 := HXc.out.cell 1 rfl
        have p2 := HXc.out.cell 2 rfl
        have p3 := HXc.out.cell 3 rfl
        have p4 := HXc.out.cell 4 rfl
        have p5 := HXc.out.cell 5 rfl
        have p6 := HXc.out.cell 6 rfl
        have p7 := HXc.out.cell 7 rfl
        have y0 := HYc.out.cell 0 rfl
        have g0 := HYc.out.fr 0
        have y1 := HYc.out.cell 1 rfl
        have g1 := HYc.out.fr 1
        have y2 := HYc.out.cell 2 rfl
        have g2 := HYc.out.fr 2
        have y3 := HYc.out.cell 3 rfl
        have g3 := HYc.out.fr 3
        have y4 := HYc.out.cell 4 rfl
        have g4 := HYc.out.fr 4
        have y5 := HYc.out.cell 5 rfl
        have g5 := HYc.out.fr 5
        have y6 := HYc.out.cell 6 rfl
        have g6 := HYc.out.fr 6
        have y7 := HYc.out.cell 7 rfl
        have g7 := HYc.out.fr 7
        have z0 := HQc.out.cell 0 rfl
        have k0 := HQc.out.fr 0
        have z1 := HQc.out.cell 1 rfl
        have k1 := HQc.out.fr 1
        have z2 := HQc.out.cell 2 rfl
        have k2 := HQc.out.fr 2
        have z3 := HQc.out.cell 3 rfl
        have k3 := HQc.out.fr 3
        have z4 := HQc.out.cell 4 rfl
        have k4 := HQc.out.fr 4
        have z5 := HQc.out.cell 5 rfl
        have k5 := HQc.out.fr 5
        have z6 := HQc.out.cell 6 rfl
        have k6 := HQc.out.fr 6
        have z7 := HQc.out.cell 7 rfl
        have k7 := HQc.out.fr 7
        have z8 := HQc.out.cell 8 rfl
        have k8 := HQc.out.fr 8
        have z9 := HQc.out.cell 9 rfl
        have k9 := HQc.out.fr 9
        go_upto_region 15 with fail
        go_region_held3 (fun W => W.cell? ⟨w.heap.size, 0, none⟩ = some (.string c'.who) ∧ W.cell? ⟨w.heap.size, 1, none⟩ = some (.string c'.fo) ∧ W.cell? ⟨w.heap.size, 2, none⟩ = some (.slice ab c'.base.length cb) ∧ W.cell? ⟨w.heap.size, 3, none⟩ = some (.int .i64 c'.cur) ∧ W.cell? ⟨w.heap.size, 4, none⟩ = some (.slice am c'.mine.length cm) ∧ W.cell? ⟨w.heap.size, 5, none⟩ = some (.string c'.key) ∧ W.cell? ⟨w.heap.size, 6, none⟩ = some (.slice (some ⟨g, 0, none⟩) c'.ask.length lc) ∧ W.cell? ⟨w.heap.size, 7, none⟩ = some (.int .i64 c'.keys)) (go_keep) (fail)
        all_goals
          go_wp2_with fail
          have hfin := ((((((((((((((((((hbc.setCell (p := ⟨w.heap.size + 1, 0, none⟩) (Nat.le_succ _) (.string c'.who)).setCell (p := ⟨w.heap.size + 1, 1, none⟩) (Nat.le_succ _) (.string c'.fo)).setCell (p := ⟨w.heap.size + 1, 2, none⟩) (Nat.le_succ _) (.slice ab c'.base.length cb)).setCell (p := ⟨w.heap.size + 1, 3, none⟩) (Nat.le_succ _) (.int .i64 c'.cur)).setCell (p := ⟨w.heap.size + 1, 4, none⟩) (Nat.le_succ _) (.slice am c'.mine.length cm)).setCell (p := ⟨w.heap.size + 1, 5, none⟩) (Nat.le_succ _) (.string c'.key)).setCell (p := ⟨w.heap.size + 1, 6, none⟩) (Nat.le_succ _) (.slice (some ⟨g, 0, none⟩) c'.ask.length lc)).setCell (p := ⟨w.heap.size + 1, 7, none⟩) (Nat.le_succ _) (.int .i64 c'.keys)).setCell (p := ⟨w.heap.size + 1 + 1, 0, none⟩) (by show _ ≤ w.heap.size + 1 + 1; omega) (.int .i64 1)).setCell (p := ⟨w.heap.size + 1 + 1, 1, none⟩) (by show _ ≤ w.heap.size + 1 + 1; omega) (.string c'.who)).setCell (p := ⟨w.heap.size + 1 + 1, 2, none⟩) (by show _ ≤ w.heap.size + 1 + 1; omega) (.string c'.fo)).setCell (p := ⟨w.heap.size + 1 + 1, 3, none⟩) (by show _ ≤ w.heap.size + 1 + 1; omega) (.string ⟨#[]⟩)).setCell (p := ⟨w.heap.size + 1 + 1, 4, none⟩) (by show _ ≤ w.heap.size + 1 + 1; omega) (.string c'.key)).setCell (p := ⟨w.heap.size + 1 + 1, 5, none⟩) (by show _ ≤ w.heap.size + 1 + 1; omega) (.string ⟨#[]⟩)).setCell (p := ⟨w.heap.size + 1 + 1, 6, none⟩) (by show _ ≤ w.heap.size + 1 + 1; omega) (.int .i64 0)).setCell (p := ⟨w.heap.size + 1 + 1, 7, none⟩) (by show _ ≤ w.heap.size + 1 + 1; omega) (.int .i64 0)).setCell (p := ⟨w.heap.size + 1 + 1, 8, none⟩) (by show _ ≤ w.heap.size + 1 + 1; omega) (.int .i64 0)).setCell (p := ⟨w.heap.size + 1 + 1, 9, none⟩) (by show _ ≤ w.heap.size + 1 + 1; omega) (.slice (some ⟨g, 0, none⟩) c'.ask.length lc)).drew
          refine bodyPost_ret (v := .tuple #[.agg #[.string c'.who, .string c'.fo, .slice ab c'.base.length cb, .int .i64 c'.cur, .slice am c'.mine.length cm, .string c'.key, .slice (some ⟨g, 0, none⟩) c'.ask.length lc, .int .i64 c'.keys], .agg #[.int .i64 1, .string c'.who, .string c'.fo, .string ⟨#[]⟩, .string c'.key, .string ⟨#[]⟩, .int .i64 0, .int .i64 0, .int .i64 0, .slice (some ⟨g, 0, none⟩) c'.ask.length lc], .bool true, .int .i64 0]) (by simp [results, Tryz.results19, go_sem, y0, y1, y2, y3, y4, y5, y6, y7, z0, z1, z2, z3, z4, z5, z6, z7, z8, z9]) rfl ⟨_, _, rfl, ?_, ?_, hfin⟩
          · exact ⟨_, _, _, rfl, HVB'.out.below hfin, HVM'.out.below hfin, ((HLA.out.1.nbo (grown_on (grown_on (grown_on (grown_on (grown_on (grown_on (grown_on (nb_set wc (w.heap.size + 1) 0 (.string c'.who)) (nb_set _ (w.heap.size + 1) 1 (.string c'.fo))) (nb_set _ (w.heap.size + 1) 2 (.slice ab c'.base.length cb))) (nb_set _ (w.heap.size + 1) 3 (.int .i64 c'.cur))) (nb_set _ (w.heap.size + 1) 4 (.slice am c'.mine.length cm))) (nb_set _ (w.heap.size + 1) 5 (.string c'.key))) (nb_set _ (w.heap.size + 1) 6 (.slice (some ⟨g, 0, none⟩) c'.ask.length lc))) (nb_set _ (w.heap.size + 1) 7 (.int .i64 c'.keys))) (fun b hb => by have := (HLA.out.2 b hb).1; omega)).nbo (grown_on (grown_on (grown_on (grown_on (grown_on (grown_on (grown_on (grown_on (grown_on (nb_set _ (w.heap.size + 1 + 1) 0 (.int .i64 1)) (nb_set _ (w.heap.size + 1 + 1) 1 (.string c'.who))) (nb_set _ (w.heap.size + 1 + 1) 2 (.string c'.fo))) (nb_set _ (w.heap.size + 1 + 1) 3 (.string ⟨#[]⟩))) (nb_set _ (w.heap.size + 1 + 1) 4 (.string c'.key))) (nb_set _ (w.heap.size + 1 + 1) 5 (.string ⟨#[]⟩))) (nb_set _ (w.heap.size + 1 + 1) 6 (.int .i64 0))) (nb_set _ (w.heap.size + 1 + 1) 7 (.int .i64 0))) (nb_set _ (w.heap.size + 1 + 1) 8 (.int .i64 0))) (nb_set _ (w.heap.size + 1 + 1) 9 (.slice (some ⟨g, 0, none⟩) c'.ask.length lc))) (fun b hb => by have := (HLA.out.2 b hb).1; omega)).below ((Below.refl _ _).drew)⟩
          · exact ⟨_, rfl, ((HLA.out.1.nbo (grown_on (grown_on (grown_on (grown_on (grown_on (grown_on (grown_on (nb_set wc (w.heap.size + 1) 0 (.string c'.who)) (nb_set _ (w.heap.size + 1) 1 (.string c'.fo))) (nb_set _ (w.heap.size + 1) 2 (.slice ab c'.base.length cb))) (nb_set _ (w.heap.size + 1) 3 (.int .i64 c'.cur))) (nb_set _ (w.heap.size + 1) 4 (.slice am c'.mine.length cm))) (nb_set _ (w.heap.size + 1) 5 (.string c'.key))) (nb_set _ (w.heap.size + 1) 6 (.slice (some ⟨g, 0, none⟩) c'.ask.length lc))) (nb_set _ (w.heap.size + 1) 7 (.int .i64 c'.keys))) (fun b hb => by have := (HLA.out.2 b hb).1; omega)).nbo (grown_on (grown_on (grown_on (grown_on (grown_on (grown_on (grown_on (grown_on (grown_on (nb_set _ (w.heap.size + 1 + 1) 0 (.int .i64 1)) (nb_set _ (w.heap.size + 1 + 1) 1 (.string c'.who))) (nb_set _ (w.heap.size + 1 + 1) 2 (.string c'.fo))) (nb_set _ (w.heap.size + 1 + 1) 3 (.string ⟨#[]⟩))) (nb_set _ (w.heap.size + 1 + 1) 4 (.string c'.key))) (nb_set _ (w.heap.size + 1 + 1) 5 (.string ⟨#[]⟩))) (nb_set _ (w.heap.size + 1 + 1) 6 (.int .i64 0))) (nb_set _ (w.heap.size + 1 + 1) 7 (.int .i64 0))) (nb_set _ (w.heap.size + 1 + 1) 8 (.int .i64 0))) (nb_set _ (w.heap.size + 1 + 1) 9 (.slice (some ⟨g, 0, none⟩) c'.ask.length lc))) (fun b hb => by have := (HLA.out.2 b hb).1; omega)).below ((Below.refl _ _).drew)⟩
end Go.Proofs.YtflekhcmipmelaaGreatDoor
