/- What hub.Serve answers, where what answer does is known. What the server's makeFolder does. What the server's number answers to requests that make a folder, give a right, or commit. -/
import Derived.Test.YtchlgpeiombmdaaGreatQS
set_option linter.unusedSimpArgs false
set_option linter.unusedVariables false
namespace Go.Proofs.YtchlgpeiombmdaaGreat
open Go.RowKit

set_option maxRecDepth 100000 in
set_option maxHeartbeats 4000000 in
theorem serve_bad (H : Hb) (q : Rq) (v vq : Value) (w : World) (hv : LiesH w v H) (hs : SizedH H) (hq : LiesQ w vq q) (h0 : ¬ Hu.hE H = 0) :
    Calls Tryz.prog 9 #[v, vq] w fun e w' => ∃ u a, e = .returned (.tuple #[u, a, .int .i64 (Hu.hE H)]) ∧ LiesH w' u zeroH ∧ LiesA w' a zeroA ∧ Below w.heap.size w w' := by
 obtain ⟨r, hrr⟩ : ∃ r, r = Hu.hE H := ⟨_, rfl⟩
 rw [← hrr] at h0 ⊢
 have HRR := hid hrr
 have H0 := hid h0
 clear h0 hrr
 have HV := hid hv
 have HS := hid hs
 obtain ⟨fa, fc, ga, gc, sa, sc, rfl⟩ := hv.shape
 obtain ⟨va, rfl, lq⟩ := hq
 have HLQ := hid lq
 obtain ⟨qa, qc, rfl, _⟩ := lq
 obtain ⟨kind, who, fo, name, key, text, num, off, base, ch⟩ := q
 simp only at *
 obtain ⟨wa, hwa⟩ : ∃ wa, wa = w.alloc (.cells #[.slice fa H.fos.length fc, .slice ga H.gs.length gc, .slice sa H.ss.length sc, .int .i64 H.nx, .int .i64 H.la, .int .i64 H.ro, .int .i64 H.now] 28) := ⟨_, rfl⟩
 obtain ⟨wb, hwb⟩ : ∃ wb, wb = wa.alloc (.cells #[.int .i64 kind, .string who, .string fo, .string name, .string key, .string text, .int .i64 num, .int .i64 off, .int .i64 base, .slice qa ch.length qc] 31) := ⟨_, rfl⟩
 obtain ⟨wc, hwc⟩ : ∃ wc, wc = wb.alloc (.cells #[.slice none 0 0, .slice none 0 0, .slice none 0 0, .int .i64 0, .int .i64 0, .int .i64 0, .int .i64 0] 28) := ⟨_, rfl⟩
 obtain ⟨wz, hwz⟩ : ∃ wz, wz = wc.alloc (.cells #[.int .i64 0, .int .i64 0, .bool false, .slice none 0 0, .slice none 0 0, .int .i64 0, .bool false] 39) := ⟨_, rfl⟩
 have sa1 : wa.heap.size = w.heap.size + 1 := by rw [hwa]; simp
 have sb1 : wb.heap.size = w.heap.size + 1 + 1 := by rw [hwb]; simp [sa1]
 have sc1 : wc.heap.size = w.heap.size + 1 + 1 + 1 := by rw [hwc]; simp [sb1]
 have bwa : Below w.heap.size w wa := by rw [hwa]; exact (Below.refl _ _).alloc (Nat.le_refl _) _
 have bwb : Below wa.heap.size wa wb := by rw [hwb]; exact (Below.refl _ _).alloc (Nat.le_refl _) _
 have bwc : Below wb.heap.size wb wc := by rw [hwc]; exact (Below.refl _ _).alloc (Nat.le_refl _) _
 have bwz : Below wc.heap.size wc wz := by rw [hwz]; exact (Below.refl _ _).alloc (Nat.le_refl _) _
 have hbz : Below w.heap.size w wz := below_tr bwa (below_tr bwb (below_tr bwc bwz))
 have HX : Hid (Cs wz w.heap.size [.slice fa H.fos.length fc, .slice ga H.gs.length gc, .slice sa H.ss.length sc, .int .i64 H.nx, .int .i64 H.la, .int .i64 H.ro, .int .i64 H.now]) := ((((by rw [hwa]; exact Cs.new w [.slice fa H.fos.length fc, .slice ga H.gs.length gc, .slice sa H.ss.length sc, .int .i64 H.nx, .int .i64 H.la, .int .i64 H.ro, .int .i64 H.now] _ : Cs wa w.heap.size [.slice fa H.fos.length fc, .slice ga H.gs.length gc, .slice sa H.ss.length sc, .int .i64 H.nx, .int .i64 H.la, .int .i64 H.ro, .int .i64 H.now]).below bwb).below bwc).below bwz : Cs wz w.heap.size _)
 have HQX : Hid (Cs wz (w.heap.size + 1) [.int .i64 kind, .string who, .string fo, .string name, .string key, .string text, .int .i64 num, .int .i64 off, .int .i64 base, .slice qa ch.length qc]) := (((by rw [← sa1, hwb]; exact Cs.new wa [.int .i64 kind, .string who, .string fo, .string name, .string key, .string text, .int .i64 num, .int .i64 off, .int .i64 base, .slice qa ch.length qc] _ : Cs wb (w.heap.size + 1) [.int .i64 kind, .string who, .string fo, .string name, .string key, .string text, .int .i64 num, .int .i64 off, .int .i64 base, .slice qa ch.length qc]).below bwc).below bwz : Cs wz (w.heap.size + 1) _)
 have HRX := hid (show Cs wz (w.heap.size + 1 + 1) [.slice none 0 0, .slice none 0 0, .slice none 0 0, .int .i64 0, .int .i64 0, .int .i64 0, .int .i64 0] from (by rw [← sb1, hwc]; exact Cs.new wb [.slice none 0 0, .slice none 0 0, .slice none 0 0, .int .i64 0, .int .i64 0, .int .i64 0, .int .i64 0] _ : Cs wc (w.heap.size + 1 + 1) [.slice none 0 0, .slice none 0 0, .slice none 0 0, .int .i64 0, .int .i64 0, .int .i64 0, .int .i64 0]).below bwz)
 have HAX := hid (show Cs wz (w.heap.size + 1 + 1 + 1) [.int .i64 0, .int .i64 0, .bool false, .slice none 0 0, .slice none 0 0, .int .i64 0, .bool false] from by rw [← sc1, hwz]; exact Cs.new wc [.int .i64 0, .int .i64 0, .bool false, .slice none 0 0, .slice none 0 0, .int .i64 0, .bool false] _)
 have hwzz : (((w.alloc (.cells #[.slice fa H.fos.length fc, .slice ga H.gs.length gc, .slice sa H.ss.length sc, .int .i64 H.nx, .int .i64 H.la, .int .i64 H.ro, .int .i64 H.now] 28)).alloc (.cells #[.int .i64 kind, .string who, .string fo, .string name, .string key, .string text, .int .i64 num, .int .i64 off, .int .i64 base, .slice qa ch.length qc] 31)).alloc (.cells #[.slice none 0 0, .slice none 0 0, .slice none 0 0, .int .i64 0, .int .i64 0, .int .i64 0, .int .i64 0] 28)).alloc (.cells #[.int .i64 0, .int .i64 0, .bool false, .slice none 0 0, .slice none 0 0, .int .i64 0, .bool false] 39) = wz := by rw [hwz, hwc, hwb, hwa]
 have HWZ := hid hwzz
 have hsz : w.heap.size + 1 + 1 + 1 < wz.heap.size := HAX.out.lt
 clear hwa hwb hwc hwz bwa bwb bwc bwz sa1 sb1 sc1 hwzz hv hs
 have x0 := HX.out.cell 0 rfl
 have x1 := HX.out.cell 1 rfl
 have x2 := HX.out.cell 2 rfl
 have x3 := HX.out.cell 3 rfl
 have x4 := HX.out.cell 4 rfl
 have x5 := HX.out.cell 5 rfl
 have x6 := HX.out.cell 6 rfl
 go_enter Tryz.func9, Tryz.ntmps9
 go_upto_region 1 with fail
 rw [HWZ.out]
 clear HWZ
 go_wp2_with fail
 refine (serving_any H _ _ (HV.out.below hbz) HS.out).mono ?_
 rintro e w1 ⟨p, rfl, hok, hbad, hb1⟩
 clear x0 x1 x2 x3 x4 x5 x6
 have hb01 := below_tr hbz hb1
 have HQ1 := hid (HQX.out.below hb1)
 have HR1 := hid (HRX.out.below hb1)
 have HA1 := hid (HAX.out.below hb1)
 have hs1 := hb1.size
 rw [← HRR.out]
 have hz : (r == 0) = false := by simpa using H0.out
 have hz2 : (r != 0) = true := by simpa using H0.out
 clear hok hbad
 have p0 := HR1.out.cell 0 rfl
 have f0 := HR1.out.fr 0
 have p1 := HR1.out.cell 1 rfl
 have f1 := HR1.out.fr 1
 have p2 := HR1.out.cell 2 rfl
 have f2 := HR1.out.fr 2
 have p3 := HR1.out.cell 3 rfl
 have f3 := HR1.out.fr 3
 have p4 := HR1.out.cell 4 rfl
 have f4 := HR1.out.fr 4
 have p5 := HR1.out.cell 5 rfl
 have f5 := HR1.out.fr 5
 have p6 := HR1.out.cell 6 rfl
 have f6 := HR1.out.fr 6
 have y0 := HA1.out.cell 0 rfl
 have g0 := HA1.out.fr 0
 have y1 := HA1.out.cell 1 rfl
 have g1 := HA1.out.fr 1
 have y2 := HA1.out.cell 2 rfl
 have g2 := HA1.out.fr 2
 have y3 := HA1.out.cell 3 rfl
 have g3 := HA1.out.fr 3
 have y4 := HA1.out.cell 4 rfl
 have g4 := HA1.out.fr 4
 have y5 := HA1.out.cell 5 rfl
 have g5 := HA1.out.fr 5
 have y6 := HA1.out.cell 6 rfl
 have g6 := HA1.out.fr 6
 go_wp2_with fail
 refine bodyPost_ret (v := .tuple #[.agg #[.slice none 0 0, .slice none 0 0, .slice none 0 0, .int .i64 0, .int .i64 0, .int .i64 0, .int .i64 0], .agg #[.int .i64 0, .int .i64 0, .bool false, .slice none 0 0, .slice none 0 0, .int .i64 0, .bool false], .int .i64 r]) (by simp [results, Tryz.results9, go_sem, p0, p1, p2, p3, p4, p5, p6, y0, y1, y2, y3, y4, y5, y6]) rfl ⟨_, _, rfl, liesH_zero _, liesA_num _ _ _, ?_⟩
 exact ((((((((((((((hb01.setCell (p := ⟨w.heap.size + 1 + 1, 0, none⟩) (by show _ ≤ w.heap.size + 1 + 1; omega) _).setCell (p := ⟨w.heap.size + 1 + 1, 1, none⟩) (by show _ ≤ w.heap.size + 1 + 1; omega) _).setCell (p := ⟨w.heap.size + 1 + 1, 2, none⟩) (by show _ ≤ w.heap.size + 1 + 1; omega) _).setCell (p := ⟨w.heap.size + 1 + 1, 3, none⟩) (by show _ ≤ w.heap.size + 1 + 1; omega) _).setCell (p := ⟨w.heap.size + 1 + 1, 4, none⟩) (by show _ ≤ w.heap.size + 1 + 1; omega) _).setCell (p := ⟨w.heap.size + 1 + 1, 5, none⟩) (by show _ ≤ w.heap.size + 1 + 1; omega) _).setCell (p := ⟨w.heap.size + 1 + 1, 6, none⟩) (by show _ ≤ w.heap.size + 1 + 1; omega) _).setCell (p := ⟨w.heap.size + 1 + 1 + 1, 0, none⟩) (by show _ ≤ w.heap.size + 1 + 1 + 1; omega) _).setCell (p := ⟨w.heap.size + 1 + 1 + 1, 1, none⟩) (by show _ ≤ w.heap.size + 1 + 1 + 1; omega) _).setCell (p := ⟨w.heap.size + 1 + 1 + 1, 2, none⟩) (by show _ ≤ w.heap.size + 1 + 1 + 1; omega) _).setCell (p := ⟨w.heap.size + 1 + 1 + 1, 3, none⟩) (by show _ ≤ w.heap.size + 1 + 1 + 1; omega) _).setCell (p := ⟨w.heap.size + 1 + 1 + 1, 4, none⟩) (by show _ ≤ w.heap.size + 1 + 1 + 1; omega) _).setCell (p := ⟨w.heap.size + 1 + 1 + 1, 5, none⟩) (by show _ ≤ w.heap.size + 1 + 1 + 1; omega) _).setCell (p := ⟨w.heap.size + 1 + 1 + 1, 6, none⟩) (by show _ ≤ w.heap.size + 1 + 1 + 1; omega) _)
set_option maxRecDepth 100000 in
set_option maxHeartbeats 8000000 in
theorem serve_ok (H H' : Hb) (A : An) (q : Rq) (v vq : Value) (w : World) (hv : LiesH w v H) (hs : SizedH H) (hq : LiesQ w vq q) (h0 : Hu.hE H = 0)
    (hans : ∀ (B : Nat) (W : World) (g mb : Nat) (vf vg vs vq : Value), Sv B W g mb vf vg vs H → SvM W mb H.gs.length H → g < B → B ≤ W.heap.size → LiesQ W vq q → AnsOK W g mb vf vq A H') :
    Calls Tryz.prog 9 #[v, vq] w fun e w' => ∃ u a, e = .returned (.tuple #[u, a, .int .i64 0]) ∧ LiesH w' u H' ∧ LiesA w' a A ∧ Below w.heap.size w w' := by
 have H0 := hid h0
 have HAN := hid hans
 clear h0 hans
 have HV := hid hv
 have HS := hid hs
 obtain ⟨fa, fc, ga, gc, sa, sc, rfl⟩ := hv.shape
 obtain ⟨va, rfl, lq⟩ := hq
 have HLQ := hid lq
 obtain ⟨qa, qc, rfl, _⟩ := lq
 obtain ⟨kind, who, fo, name, key, text, num, off, base, ch⟩ := q
 simp only at *
 obtain ⟨wa, hwa⟩ : ∃ wa, wa = w.alloc (.cells #[.slice fa H.fos.length fc, .slice ga H.gs.length gc, .slice sa H.ss.length sc, .int .i64 H.nx, .int .i64 H.la, .int .i64 H.ro, .int .i64 H.now] 28) := ⟨_, rfl⟩
 obtain ⟨wb, hwb⟩ : ∃ wb, wb = wa.alloc (.cells #[.int .i64 kind, .string who, .string fo, .string name, .string key, .string text, .int .i64 num, .int .i64 off, .int .i64 base, .slice qa ch.length qc] 31) := ⟨_, rfl⟩
 obtain ⟨wc, hwc⟩ : ∃ wc, wc = wb.alloc (.cells #[.slice none 0 0, .slice none 0 0, .slice none 0 0, .int .i64 0, .int .i64 0, .int .i64 0, .int .i64 0] 28) := ⟨_, rfl⟩
 obtain ⟨wz, hwz⟩ : ∃ wz, wz = wc.alloc (.cells #[.int .i64 0, .int .i64 0, .bool false, .slice none 0 0, .slice none 0 0, .int .i64 0, .bool false] 39) := ⟨_, rfl⟩
 have sa1 : wa.heap.size = w.heap.size + 1 := by rw [hwa]; simp
 have sb1 : wb.heap.size = w.heap.size + 1 + 1 := by rw [hwb]; simp [sa1]
 have sc1 : wc.heap.size = w.heap.size + 1 + 1 + 1 := by rw [hwc]; simp [sb1]
 have bwa : Below w.heap.size w wa := by rw [hwa]; exact (Below.refl _ _).alloc (Nat.le_refl _) _
 have bwb : Below wa.heap.size wa wb := by rw [hwb]; exact (Below.refl _ _).alloc (Nat.le_refl _) _
 have bwc : Below wb.heap.size wb wc := by rw [hwc]; exact (Below.refl _ _).alloc (Nat.le_refl _) _
 have bwz : Below wc.heap.size wc wz := by rw [hwz]; exact (Below.refl _ _).alloc (Nat.le_refl _) _
 have hbz : Below w.heap.size w wz := below_tr bwa (below_tr bwb (below_tr bwc bwz))
 have HX : Hid (Cs wz w.heap.size [.slice fa H.fos.length fc, .slice ga H.gs.length gc, .slice sa H.ss.length sc, .int .i64 H.nx, .int .i64 H.la, .int .i64 H.ro, .int .i64 H.now]) := ((((by rw [hwa]; exact Cs.new w [.slice fa H.fos.length fc, .slice ga H.gs.length gc, .slice sa H.ss.length sc, .int .i64 H.nx, .int .i64 H.la, .int .i64 H.ro, .int .i64 H.now] _ : Cs wa w.heap.size [.slice fa H.fos.length fc, .slice ga H.gs.length gc, .slice sa H.ss.length sc, .int .i64 H.nx, .int .i64 H.la, .int .i64 H.ro, .int .i64 H.now]).below bwb).below bwc).below bwz : Cs wz w.heap.size _)
 have HQX : Hid (Cs wz (w.heap.size + 1) [.int .i64 kind, .string who, .string fo, .string name, .string key, .string text, .int .i64 num, .int .i64 off, .int .i64 base, .slice qa ch.length qc]) := (((by rw [← sa1, hwb]; exact Cs.new wa [.int .i64 kind, .string who, .string fo, .string name, .string key, .string text, .int .i64 num, .int .i64 off, .int .i64 base, .slice qa ch.length qc] _ : Cs wb (w.heap.size + 1) [.int .i64 kind, .string who, .string fo, .string name, .string key, .string text, .int .i64 num, .int .i64 off, .int .i64 base, .slice qa ch.length qc]).below bwc).below bwz : Cs wz (w.heap.size + 1) _)
 have HRX := hid (show Cs wz (w.heap.size + 1 + 1) [.slice none 0 0, .slice none 0 0, .slice none 0 0, .int .i64 0, .int .i64 0, .int .i64 0, .int .i64 0] from (by rw [← sb1, hwc]; exact Cs.new wb [.slice none 0 0, .slice none 0 0, .slice none 0 0, .int .i64 0, .int .i64 0, .int .i64 0, .int .i64 0] _ : Cs wc (w.heap.size + 1 + 1) [.slice none 0 0, .slice none 0 0, .slice none 0 0, .int .i64 0, .int .i64 0, .int .i64 0, .int .i64 0]).below bwz)
 have HAX := hid (show Cs wz (w.heap.size + 1 + 1 + 1) [.int .i64 0, .int .i64 0, .bool false, .slice none 0 0, .slice none 0 0, .int .i64 0, .bool false] from by rw [← sc1, hwz]; exact Cs.new wc [.int .i64 0, .int .i64 0, .bool false, .slice none 0 0, .slice none 0 0, .int .i64 0, .bool false] _)
 have hwzz : (((w.alloc (.cells #[.slice fa H.fos.length fc, .slice ga H.gs.length gc, .slice sa H.ss.length sc, .int .i64 H.nx, .int .i64 H.la, .int .i64 H.ro, .int .i64 H.now] 28)).alloc (.cells #[.int .i64 kind, .string who, .string fo, .string name, .string key, .string text, .int .i64 num, .int .i64 off, .int .i64 base, .slice qa ch.length qc] 31)).alloc (.cells #[.slice none 0 0, .slice none 0 0, .slice none 0 0, .int .i64 0, .int .i64 0, .int .i64 0, .int .i64 0] 28)).alloc (.cells #[.int .i64 0, .int .i64 0, .bool false, .slice none 0 0, .slice none 0 0, .int .i64 0, .bool false] 39) = wz := by rw [hwz, hwc, hwb, hwa]
 have HWZ := hid hwzz
 have hsz : w.heap.size + 1 + 1 + 1 < wz.heap.size := HAX.out.lt
 clear hwa hwb hwc hwz bwa bwb bwc bwz sa1 sb1 sc1 hwzz hv hs
 have x0 := HX.out.cell 0 rfl
 have x1 := HX.out.cell 1 rfl
 have x2 := HX.out.cell 2 rfl
 have x3 := HX.out.cell 3 rfl
 have x4 := HX.out.cell 4 rfl
 have x5 := HX.out.cell 5 rfl
 have x6 := HX.out.cell 6 rfl
 go_enter Tryz.func9, Tryz.ntmps9
 go_upto_region 1 with fail
 rw [HWZ.out]
 clear HWZ
 go_wp2_with fail
 refine (serving_any H _ _ (HV.out.below hbz) HS.out).mono ?_
 rintro e w1 ⟨p, rfl, hok, hbad, hb1⟩
 clear x0 x1 x2 x3 x4 x5 x6
 have hb01 := below_tr hbz hb1
 have HQ1 := hid (HQX.out.below hb1)
 have HR1 := hid (HRX.out.below hb1)
 have HA1 := hid (HAX.out.below hb1)
 have hs1 := hb1.size
 obtain ⟨rfl, B, vf, vg, vs, hB1, hB2, hsv, hm⟩ := hok H0.out
 have HSV := hid hsv
 have HM := hid hm
 have HVB := hid (show ∀ b, vf.ownBlock = some b → B ≤ b ∧ b < w1.heap.size from fun b hb => by obtain ⟨_, _, _, ho, _⟩ := hsv.2.1; exact ⟨(ho b hb).1, ho.lt b hb⟩)
 have HGL : Hid (wz.heap.size + 1 + 1 < w1.heap.size) := hsv.1.lt
 rw [H0.out]
 clear hok hbad hsv hm
 have x0 := HQ1.out.cell 0 rfl
 have x1 := HQ1.out.cell 1 rfl
 have x2 := HQ1.out.cell 2 rfl
 have x3 := HQ1.out.cell 3 rfl
 have x4 := HQ1.out.cell 4 rfl
 have x5 := HQ1.out.cell 5 rfl
 have x6 := HQ1.out.cell 6 rfl
 have x7 := HQ1.out.cell 7 rfl
 have x8 := HQ1.out.cell 8 rfl
 have x9 := HQ1.out.cell 9 rfl
 go_wp2_with fail
 refine (HAN.out B w1 (wz.heap.size + 1 + 1) (wz.heap.size + 1) vf vg vs _ HSV.out HM.out (by omega) hB2 ⟨_, rfl, HLQ.out.below hb01⟩).mono ?_
 rintro z w3 ⟨u3, rfl, hA3, hsv3, hn3⟩
 have hgl := HGL.out
 have hbo : wz.heap.size ≤ bo vf (wz.heap.size + 1 + 1) := by
  rw [bo]
  cases hb : vf.ownBlock with
  | none => show wz.heap.size ≤ wz.heap.size + 1 + 1; omega
  | some b => show wz.heap.size ≤ b; have := (HVB.out b hb).1; omega
 have HR3 := hid (HR1.out.nb2 hn3 (by omega) (by omega))
 have HA3 := hid (HA1.out.nb2 hn3 (by omega) (by omega))
 have hb13 : Below wz.heap.size w1 w3 := hn3.to hs1 (by omega) hbo
 have hb03 : Below w.heap.size w w3 := hb01.trans (hb13.mono (by have := hbz.size; omega))
 have HLA3 := hid hA3
 have HSV3 := hid hsv3
 have hs3 := hn3.size
 obtain ⟨ta, tc, ca, cc, rfl⟩ := hA3.shape
 clear hA3 hsv3 hn3 x0 x1 x2 x3 x4 x5 x6 x7 x8 x9
 obtain ⟨w4, hw4⟩ : ∃ w4, w4 = w3.alloc (.cells #[.int .i64 A.err, .int .i64 A.num, .bool A.pg.reset, .slice ta A.pg.tree.length tc, .slice ca A.pg.cos.length cc, .int .i64 A.pg.cur, .bool A.pg.more] 39) := ⟨_, rfl⟩
 have hb4 : Below w3.heap.size w3 w4 := by rw [hw4]; exact (Below.refl _ _).alloc (Nat.le_refl _) _
 have HB4 : Hid (Cs w4 w3.heap.size [.int .i64 A.err, .int .i64 A.num, .bool A.pg.reset, .slice ta A.pg.tree.length tc, .slice ca A.pg.cos.length cc, .int .i64 A.pg.cur, .bool A.pg.more]) := (by rw [hw4]; exact Cs.new w3 [.int .i64 A.err, .int .i64 A.num, .bool A.pg.reset, .slice ta A.pg.tree.length tc, .slice ca A.pg.cos.length cc, .int .i64 A.pg.cur, .bool A.pg.more] _ : Cs w4 w3.heap.size _)
 have HR4 := hid (HR3.out.below hb4)
 have HA4 := hid (HA3.out.below hb4)
 have HLA4 := hid (HLA3.out.below hb4)
 have HSV4 := hid (HSV3.out.below hb4)
 have hb04 := below_tr hb03 hb4
 obtain ⟨fb, fd, gb, gd, sb, sd, hC4, hH4⟩ := HSV4.out.hub
 have HH4 := hid hH4
 have HC4 := hid hC4
 have hs4 := hb4.size
 clear hH4 hC4
 go_upto_region 5 with fail
 try simp only [World.setCell_alloc_new]
 rw [← hw4]
 clear hw4
 have hgl4 := HC4.out.lt
 have hbl4 := HB4.out.lt
 have p0 := HC4.out.cell 0 rfl
 have p1 := HC4.out.cell 1 rfl
 have p2 := HC4.out.cell 2 rfl
 have p3 := HC4.out.cell 3 rfl
 have p4 := HC4.out.cell 4 rfl
 have p5 := HC4.out.cell 5 rfl
 have p6 := HC4.out.cell 6 rfl
 have q0 := HB4.out.cell 0 rfl
 have q1 := HB4.out.cell 1 rfl
 have q2 := HB4.out.cell 2 rfl
 have q3 := HB4.out.cell 3 rfl
 have q4 := HB4.out.cell 4 rfl
 have q5 := HB4.out.cell 5 rfl
 have q6 := HB4.out.cell 6 rfl
 have y0 := HR4.out.cell 0 rfl
 have f0 := HR4.out.fr 0
 have y1 := HR4.out.cell 1 rfl
 have f1 := HR4.out.fr 1
 have y2 := HR4.out.cell 2 rfl
 have f2 := HR4.out.fr 2
 have y3 := HR4.out.cell 3 rfl
 have f3 := HR4.out.fr 3
 have y4 := HR4.out.cell 4 rfl
 have f4 := HR4.out.fr 4
 have y5 := HR4.out.cell 5 rfl
 have f5 := HR4.out.fr 5
 have y6 := HR4.out.cell 6 rfl
 have f6 := HR4.out.fr 6
 have z0 := HA4.out.cell 0 rfl
 have h0 := HA4.out.fr 0
 have z1 := HA4.out.cell 1 rfl
 have h1 := HA4.out.fr 1
 have z2 := HA4.out.cell 2 rfl
 have h2 := HA4.out.fr 2
 have z3 := HA4.out.cell 3 rfl
 have h3 := HA4.out.fr 3
 have z4 := HA4.out.cell 4 rfl
 have h4 := HA4.out.fr 4
 have z5 := HA4.out.cell 5 rfl
 have h5 := HA4.out.fr 5
 have z6 := HA4.out.cell 6 rfl
 have h6 := HA4.out.fr 6
 have n1 : ¬ wz.heap.size + 1 + 1 = w.heap.size + 1 + 1 := by omega
 have n2 : ¬ wz.heap.size + 1 + 1 = w.heap.size + 1 + 1 + 1 := by omega
 have n3 : ¬ w3.heap.size = w.heap.size + 1 + 1 := by omega
 have n4 : ¬ w3.heap.size = w.heap.size + 1 + 1 + 1 := by omega
 have n5 : ¬ w.heap.size + 1 + 1 = w.heap.size + 1 + 1 + 1 := by omega
 have n6 : ¬ w.heap.size + 1 + 1 + 1 = w.heap.size + 1 + 1 := by omega
 go_region
 all_goals
  go_wp2_with fail
  refine bodyPost_ret (v := .tuple #[.agg #[.slice fb H'.fos.length fd, .slice gb H'.gs.length gd, .slice sb H'.ss.length sd, .int .i64 H'.nx, .int .i64 H'.la, .int .i64 H'.ro, .int .i64 H'.now], .agg #[.int .i64 A.err, .int .i64 A.num, .bool A.pg.reset, .slice ta A.pg.tree.length tc, .slice ca A.pg.cos.length cc, .int .i64 A.pg.cur, .bool A.pg.more], .int .i64 0]) (by simp [results, Tryz.results9, go_sem, y0, y1, y2, y3, y4, y5, y6, z0, z1, z2, z3, z4, z5, z6]) rfl ⟨_, _, rfl, ?_, ?_, ?_⟩
  · exact ((HH4.out.nb (grown_on (grown_on (grown_on (grown_on (grown_on (grown_on (nb_set w4 (w.heap.size + 1 + 1) 0 (.slice fb H'.fos.length fd)) (nb_set _ (w.heap.size + 1 + 1) 1 (.slice gb H'.gs.length gd))) (nb_set _ (w.heap.size + 1 + 1) 2 (.slice sb H'.ss.length sd))) (nb_set _ (w.heap.size + 1 + 1) 3 (.int .i64 H'.nx))) (nb_set _ (w.heap.size + 1 + 1) 4 (.int .i64 H'.la))) (nb_set _ (w.heap.size + 1 + 1) 5 (.int .i64 H'.ro))) (nb_set _ (w.heap.size + 1 + 1) 6 (.int .i64 H'.now))) (noStr_hub HR4.out)).nb (grown_on (grown_on (grown_on (grown_on (grown_on (grown_on (nb_set _ (w.heap.size + 1 + 1 + 1) 0 (.int .i64 A.err)) (nb_set _ (w.heap.size + 1 + 1 + 1) 1 (.int .i64 A.num))) (nb_set _ (w.heap.size + 1 + 1 + 1) 2 (.bool A.pg.reset))) (nb_set _ (w.heap.size + 1 + 1 + 1) 3 (.slice ta A.pg.tree.length tc))) (nb_set _ (w.heap.size + 1 + 1 + 1) 4 (.slice ca A.pg.cos.length cc))) (nb_set _ (w.heap.size + 1 + 1 + 1) 5 (.int .i64 A.pg.cur))) (nb_set _ (w.heap.size + 1 + 1 + 1) 6 (.bool A.pg.more))) (noStr_ans (HA4.out.nb (grown_on (grown_on (grown_on (grown_on (grown_on (grown_on (nb_set w4 (w.heap.size + 1 + 1) 0 (.slice fb H'.fos.length fd)) (nb_set _ (w.heap.size + 1 + 1) 1 (.slice gb H'.gs.length gd))) (nb_set _ (w.heap.size + 1 + 1) 2 (.slice sb H'.ss.length sd))) (nb_set _ (w.heap.size + 1 + 1) 3 (.int .i64 H'.nx))) (nb_set _ (w.heap.size + 1 + 1) 4 (.int .i64 H'.la))) (nb_set _ (w.heap.size + 1 + 1) 5 (.int .i64 H'.ro))) (nb_set _ (w.heap.size + 1 + 1) 6 (.int .i64 H'.now))) (by omega)))).below ((Below.refl _ _).drew)
  · exact ((HLA4.out.nb (grown_on (grown_on (grown_on (grown_on (grown_on (grown_on (nb_set w4 (w.heap.size + 1 + 1) 0 (.slice fb H'.fos.length fd)) (nb_set _ (w.heap.size + 1 + 1) 1 (.slice gb H'.gs.length gd))) (nb_set _ (w.heap.size + 1 + 1) 2 (.slice sb H'.ss.length sd))) (nb_set _ (w.heap.size + 1 + 1) 3 (.int .i64 H'.nx))) (nb_set _ (w.heap.size + 1 + 1) 4 (.int .i64 H'.la))) (nb_set _ (w.heap.size + 1 + 1) 5 (.int .i64 H'.ro))) (nb_set _ (w.heap.size + 1 + 1) 6 (.int .i64 H'.now))) (noStr_hub HR4.out)).nb (grown_on (grown_on (grown_on (grown_on (grown_on (grown_on (nb_set _ (w.heap.size + 1 + 1 + 1) 0 (.int .i64 A.err)) (nb_set _ (w.heap.size + 1 + 1 + 1) 1 (.int .i64 A.num))) (nb_set _ (w.heap.size + 1 + 1 + 1) 2 (.bool A.pg.reset))) (nb_set _ (w.heap.size + 1 + 1 + 1) 3 (.slice ta A.pg.tree.length tc))) (nb_set _ (w.heap.size + 1 + 1 + 1) 4 (.slice ca A.pg.cos.length cc))) (nb_set _ (w.heap.size + 1 + 1 + 1) 5 (.int .i64 A.pg.cur))) (nb_set _ (w.heap.size + 1 + 1 + 1) 6 (.bool A.pg.more))) (noStr_ans (HA4.out.nb (grown_on (grown_on (grown_on (grown_on (grown_on (grown_on (nb_set w4 (w.heap.size + 1 + 1) 0 (.slice fb H'.fos.length fd)) (nb_set _ (w.heap.size + 1 + 1) 1 (.slice gb H'.gs.length gd))) (nb_set _ (w.heap.size + 1 + 1) 2 (.slice sb H'.ss.length sd))) (nb_set _ (w.heap.size + 1 + 1) 3 (.int .i64 H'.nx))) (nb_set _ (w.heap.size + 1 + 1) 4 (.int .i64 H'.la))) (nb_set _ (w.heap.size + 1 + 1) 5 (.int .i64 H'.ro))) (nb_set _ (w.heap.size + 1 + 1) 6 (.int .i64 H'.now))) (by omega)))).below ((Below.refl _ _).drew)
  · exact ((((((((((((((hb04.setCell (p := ⟨w.heap.size + 1 + 1, 0, none⟩) (by show _ ≤ w.heap.size + 1 + 1; omega) _).setCell (p := ⟨w.heap.size + 1 + 1, 1, none⟩) (by show _ ≤ w.heap.size + 1 + 1; omega) _).setCell (p := ⟨w.heap.size + 1 + 1, 2, none⟩) (by show _ ≤ w.heap.size + 1 + 1; omega) _).setCell (p := ⟨w.heap.size + 1 + 1, 3, none⟩) (by show _ ≤ w.heap.size + 1 + 1; omega) _).setCell (p := ⟨w.heap.size + 1 + 1, 4, none⟩) (by show _ ≤ w.heap.size + 1 + 1; omega) _).setCell (p := ⟨w.heap.size + 1 + 1, 5, none⟩) (by show _ ≤ w.heap.size + 1 + 1; omega) _).setCell (p := ⟨w.heap.size + 1 + 1, 6, none⟩) (by show _ ≤ w.heap.size + 1 + 1; omega) _).setCell (p := ⟨w.heap.size + 1 + 1 + 1, 0, none⟩) (by show _ ≤ w.heap.size + 1 + 1 + 1; omega) _).setCell (p := ⟨w.heap.size + 1 + 1 + 1, 1, none⟩) (by show _ ≤ w.heap.size + 1 + 1 + 1; omega) _).setCell (p := ⟨w.heap.size + 1 + 1 + 1, 2, none⟩) (by show _ ≤ w.heap.size + 1 + 1 + 1; omega) _).setCell (p := ⟨w.heap.size + 1 + 1 + 1, 3, none⟩) (by show _ ≤ w.heap.size + 1 + 1 + 1; omega) _).setCell (p := ⟨w.heap.size + 1 + 1 + 1, 4, none⟩) (by show _ ≤ w.heap.size + 1 + 1 + 1; omega) _).setCell (p := ⟨w.heap.size + 1 + 1 + 1, 5, none⟩) (by show _ ≤ w.heap.size + 1 + 1 + 1; omega) _).setCell (p := ⟨w.heap.size + 1 + 1 + 1, 6, none⟩) (by show _ ≤ w.heap.size + 1 + 1 + 1; omega) _).drew
end Go.Proofs.YtchlgpeiombmdaaGreat
set_option linter.unusedSimpArgs false
set_option linter.unusedVariables false
namespace Go.Proofs.YtchlgpeiombmdaaGreat
open Go.RowKit

theorem Nb2.of_row {w w' : World} {v : Value} {g : Nat} (h : w.grownBy w' v.ownBlock) : Nb2 w w' g (bo v g) :=
 ⟨h.os, h.tape, h.output, h.size, fun k hk _ h2 => h.block k hk (fun e => h2 (by rw [bo, ← e]; rfl))⟩
set_option maxRecDepth 100000 in
set_option maxHeartbeats 8000000 in
theorem smake_any (H : Hb) (q : Rq) (vq vf vg vs : Value) (B g mb : Nat) (w : World) (hsv : Sv B w g mb vf vg vs H) (hgB : g < B) (hBw : B ≤ w.heap.size) (hs : SizedG H.gs) (hr : Hu.risB H.fos = true) (h8 : H.fos.length ≤ 8) (hq : LiesQ w vq q) (hsq : SizedQ q) (hins : InsOK B vf H.fos (Hu.plc H.fos q.fo) q.fo) :
    Calls Tryz.prog 77 #[.pointer (some ⟨g, 0, none⟩), vq] w fun z w' => z = .returned (.int .i64 (Hu.mkE H q.fo q.who)) ∧ SvL w' g mb (Hu.mkH H q.fo q.who) ∧ Nb2 w w' g (bo vf g) := by
 have HSG := hid hs
 have HSQ := hid hsq
 have HR := hid hr
 have HSV := hid hsv
 have HINS := hid hins
 clear hs hsq hr hins
 obtain ⟨va, rfl, lq⟩ := hq
 have HLQ := hid lq
 obtain ⟨qa, qc, rfl, _⟩ := lq
 obtain ⟨kind, who, fo, name, key, text, num, off, base, ch⟩ := q
 simp only at *
 obtain ⟨wz, hwz⟩ : ∃ wz, wz = w.alloc (.cells #[.int .i64 kind, .string who, .string fo, .string name, .string key, .string text, .int .i64 num, .int .i64 off, .int .i64 base, .slice qa ch.length qc] 31) := ⟨_, rfl⟩
 have hbz : Below w.heap.size w wz := by rw [hwz]; exact (Below.refl _ _).alloc (Nat.le_refl _) _
 have HQX : Hid (Cs wz w.heap.size [.int .i64 kind, .string who, .string fo, .string name, .string key, .string text, .int .i64 num, .int .i64 off, .int .i64 base, .slice qa ch.length qc]) := (by rw [hwz]; exact Cs.new w [.int .i64 kind, .string who, .string fo, .string name, .string key, .string text, .int .i64 num, .int .i64 off, .int .i64 base, .slice qa ch.length qc] _ : Cs wz w.heap.size _)
 obtain ⟨fos, gs, ss, nx, la, ro, now⟩ := H
 obtain ⟨hC, hOF, ⟨hLG, hFG⟩, ⟨hLS, hFS⟩, hAP, hRM⟩ := hsv
 simp only at *
 have HC := hid hC
 have HOF := hid hOF
 have HG := hid hLG
 have HS := hid hLS
 have HFS := hid hFS
 have HAP := hid hAP
 have HRM := hid hRM
 clear hRM
 have HVB := hid (show ∀ b, vf.ownBlock = some b → B ≤ b ∧ b < w.heap.size from fun b hb => by obtain ⟨_, _, _, ho, _⟩ := HOF.out; exact ⟨(ho b hb).1, ho.lt b hb⟩)
 obtain ⟨fa, fc, rfl, _⟩ := hOF.lies
 obtain ⟨ga, gc, rfl, _⟩ := hLG
 obtain ⟨sa, sc, rfl, _⟩ := hLS
 have hgl := hC.lt
 have HCz := hid (HC.out.below hbz)
 have HGz := hid (HG.out.below hbz)
 have hgz : g < wz.heap.size := Nat.lt_of_lt_of_le hgl hbz.size
 have hqz := HQX.out.lt
 clear hC hOF hFG hFS hAP HSV
 have p1 := HCz.out.cell 1 rfl
 have x2 := HQX.out.cell 2 rfl
 have x1 := HQX.out.cell 1 rfl
 obtain ⟨E, hE⟩ : ∃ E, E = Pp.maE gs fo who := ⟨_, rfl⟩
 obtain ⟨L, hL⟩ : ∃ L, L = Pp.maL gs fo who := ⟨_, rfl⟩
 have HE := hid hE
 have HL := hid hL
 clear hE hL
 go_enter Tryz.func77, Tryz.ntmps77
 go_upto_region 1 with fail
 rw [← hwz]
 clear hwz
 go_region_held3 (fun W => W.cell? ⟨g, 1, none⟩ = some (.slice ga gs.length gc) ∧ W.cell? ⟨w.heap.size, 2, none⟩ = some (.string fo) ∧ W.cell? ⟨w.heap.size, 1, none⟩ = some (.string who)) (go_keep) (first
  | (go_at_call 26; refine (make_any gs _ fo who _ (HGz.out.below (Below.refl _ _).drew) HSG.out HSQ.out.fo HSQ.out.who).mono ?_; rw [← HE.out, ← HL.out]; rintro e wa ⟨u, rfl, ⟨hlu, hfu⟩, hba⟩; have hya : Below wz.heap.size wz wa := ((Below.refl _ _).drew).trans hba; have j0 := (hya.cell (p := ⟨g, 1, none⟩) hgz).trans p1; have j1 := (hya.cell (p := ⟨w.heap.size, 2, none⟩) hqz).trans x2; have j2 := (hya.cell (p := ⟨w.heap.size, 1, none⟩) hqz).trans x1))
 have HLU := hid hlu
 have HFU := hid (show Fr w.heap.size u from hfu.mono (by have := hbz.size; simp; exact this))
 obtain ⟨ua, uc, rfl, _⟩ := hlu
 have hb0a := below_tr hbz hya
 have HCa := hid (HC.out.below hb0a)
 have HQa := hid (HQX.out.below hya)
 clear p1 x1 x2 j0 j1 j2 hfu
 by_cases he : ¬ (E = 0)
 · have hz : (E == 0) = false := by simpa using he
   have hz2 : (E != 0) = true := by simpa using he
   have HB := hid (show Hu.mkE ⟨fos, gs, ss, nx, la, ro, now⟩ fo who = E ∧ Hu.mkH ⟨fos, gs, ss, nx, la, ro, now⟩ fo who = ⟨fos, gs, ss, nx, la, ro, now⟩ from by rw [HE.out]; exact Hu.mk_bad (H := ⟨fos, gs, ss, nx, la, ro, now⟩) (by rw [← HE.out]; exact he))
   have HRR := hid (show SvL wa g mb ⟨fos, gs, ss, nx, la, ro, now⟩ from ⟨_, _, _, HCa.out, HOF.out.lies.below hb0a, HG.out.below hb0a, HS.out.below hb0a⟩)
   clear he
   go_wp2_with fail
   go_ret
   exact ⟨by rw [HB.out.1]; rfl, by rw [HB.out.2]; exact HRR.out, Nb2.of_below _ _ hb0a⟩
 replace he := Decidable.not_not.1 he
 have HME := hid (show Pp.maE gs fo who = 0 from by rw [← HE.out]; exact he)
 subst he
 have p0 := HCa.out.cell 0 rfl
 by_cases h88 : 8 ≤ fos.length
 · have h88' : 8 ≤ (fos.length : Int) := by omega
   have HB := hid (Hu.mk_many (H := ⟨fos, gs, ss, nx, la, ro, now⟩) HME.out h88)
   have HRR := hid (show SvL wa g mb ⟨fos, gs, ss, nx, la, ro, now⟩ from ⟨_, _, _, HCa.out, HOF.out.lies.below hb0a, HG.out.below hb0a, HS.out.below hb0a⟩)
   go_wp2_with fail
   go_ret
   exact ⟨by rw [HB.out.1]; rfl, by rw [HB.out.2]; exact HRR.out, Nb2.of_below _ _ hb0a⟩
 have h88' : ¬ 8 ≤ (fos.length : Int) := by omega
 have HB := hid (Hu.mk_ok (H := ⟨fos, gs, ss, nx, la, ro, now⟩) HME.out h88)
 have y2 := HQa.out.cell 2 rfl
 go_wp2_with fail
 refine (place_any fos _ fo g _ p0 (HOF.out.lies.below hb0a) HR.out h8).mono ?_
 rintro e w4 ⟨rfl, hb4⟩
 have hb04 := below_tr hb0a hb4
 have HC4 := hid (HC.out.below hb04)
 have HQ4 := hid (HQa.out.below hb4)
 have HLU4 := hid (HLU.out.below hb4)
 obtain ⟨p, hp⟩ : ∃ p, p = Hu.plc fos fo := ⟨_, rfl⟩
 have hpl : p ≤ fos.length := by rw [hp]; exact List.findIdx_le_length
 have HP := hid hp
 rw [← hp]
 generalize Hu.isB fos fo = ib
 clear p0 y2 hp
 have p0 := HC4.out.cell 0 rfl
 have f0 := HC4.out.fr 0
 have y2 := HQ4.out.cell 2 rfl
 have hg4 := HC4.out.lt
 have hq4 := HQ4.out.lt
 have n1 : ¬ g = w4.heap.size := by omega
 have n2 : ¬ w.heap.size = w4.heap.size := by omega
 have hs04 := hb04.size
 have hba4 : Below w4.heap.size w4 (w4.alloc (.cells #[.string fo, .slice none 0 0, .int .i64 1, .slice none 0 0] 51)).drew := ((Below.refl _ _).alloc (Nat.le_refl _) _).drew
 have HIC := hid (show ∀ W, Below w4.heap.size w4 W → Cs W w4.heap.size [.string fo, .slice none 0 0, .int .i64 1, .slice none 0 0] → Calls Tryz.prog 108 #[.slice fa fos.length fc, .int .i64 p, .slice (some ⟨w4.heap.size, 0, none⟩) 1 1] W fun e w' => ∃ u, e = .returned u ∧ LiesF w' u (fos.take p ++ ⟨fo, ⟨[], 1, []⟩⟩ :: fos.drop p) ∧ W.grownBy w' (Value.slice fa fos.length fc).ownBlock from fun W hW hc => by
  rw [HP.out]
  exact HINS.out W w4.heap.size (HOF.out.below (below_tr hb04 hW)) (HRM.out.below (below_tr hb04 hW)) hc (fun b hb => by have := (HVB.out b hb).2; omega))
 rw [← HP.out] at HB
 have HLEN := hid (show (fos.take p ++ (⟨fo, ⟨[], 1, []⟩⟩ : Sh) :: fos.drop p).length = fos.length + 1 from by simp; omega)
 generalize fos.take p ++ (⟨fo, ⟨[], 1, []⟩⟩ : Sh) :: fos.drop p = F at *
 go_wp2_with fail
 go_region_with (
  go_at_call 108; refine (HIC.out _ hba4 ((Cs.new w4 [.string fo, .slice none 0 0, .int .i64 1, .slice none 0 0] _).below ((Below.refl _ _).drew))).mono ?_; rintro e w5 ⟨u5, rfl, hF5, hg5⟩; have HF5 := hid hF5; obtain ⟨a5, c5, rfl, _⟩ := hF5; have HC5 := hid ((HC4.out.below hba4).orow hg5 (fun e => by have := (HVB.out g e).1; omega)); have s0 := HC5.out.cell 0 rfl; have t0 := HC5.out.fr 0)
 all_goals
  have HG5 := hid ((HLU4.out.below hba4).row hg5 (fun b hb e => by have := (HVB.out b e).2; have := HFU.out b hb; omega))
  have HS5 := hid (((HS.out.below hb04).below hba4).row hg5 (fun b hb e => by have := ((HAP.out b e).2) b hb; omega))
  obtain ⟨w6, hw6⟩ : ∃ w6, w6 = w5.setCell ⟨g, 0, none⟩ (.slice a5 F.length c5) := ⟨_, rfl⟩
  have hg6 : w5.grownBy w6 (some g) := by rw [hw6]; exact nb_set _ _ _ _
  have HC6 : Hid (Cs w6 g [.slice a5 F.length c5, .slice ga gs.length gc, .slice sa ss.length sc, .int .i64 nx, .int .i64 la, .int .i64 ro, .int .i64 now, .map (some mb)]) := (by rw [hw6]; exact HC5.out.set 0 _ : Cs w6 g _)
  have HNS5 := hid (noStr_sv HC5.out)
  obtain ⟨w7, hw7⟩ : ∃ w7, w7 = w6.setCell ⟨g, 1, none⟩ (.slice ua L.length uc) := ⟨_, rfl⟩
  have hg7 : w6.grownBy w7 (some g) := by rw [hw7]; exact nb_set _ _ _ _
  have HC7 : Hid (Cs w7 g [.slice a5 F.length c5, .slice ua L.length uc, .slice sa ss.length sc, .int .i64 nx, .int .i64 la, .int .i64 ro, .int .i64 now, .map (some mb)]) := (by rw [hw7]; exact HC6.out.set 1 _ : Cs w7 g _)
  have hg57 : w5.grownBy w7 (some g) := Nb.trans hg6 hg7
  have HRR := hid (show SvL w7 g mb ⟨F, L, ss, nx, la, ro, now⟩ from ⟨_, _, _, HC7.out, HF5.out.nb hg57 HNS5.out, HG5.out.nb hg57 HNS5.out, HS5.out.nb hg57 HNS5.out⟩)
  have hN7 : Nb2 w w7 g (bo (.slice fa fos.length fc) g) := ((Nb2.of_below _ _ (below_tr hb04 hba4)).trans (Nb2.of_row hg5)).trans (Nb2.of_left _ hg57)
  have q1 := HC6.out.cell 1 rfl
  have t1 := HC6.out.fr 1
  rw [hw6] at q1 t1
  go_wp2_with fail
  rw [← hw6, ← hw7]
  go_ret
  exact ⟨by rw [HB.out.1]; rfl, by rw [HB.out.2, ← HL.out]; exact HRR.out, hN7⟩
end Go.Proofs.YtchlgpeiombmdaaGreat
set_option linter.unusedSimpArgs false
set_option linter.unusedVariables false
namespace Go.Proofs.YtchlgpeiombmdaaGreat
open Go.RowKit

set_option maxRecDepth 100000 in
set_option maxHeartbeats 4000000 in
theorem snum_make (H : Hb) (q : Rq) (vq vf vg vs : Value) (B g mb : Nat) (w : World) (hsv : Sv B w g mb vf vg vs H) (hgB : g < B) (hBw : B ≤ w.heap.size) (hs : SizedG H.gs) (hr : Hu.risB H.fos = true) (h8 : H.fos.length ≤ 8) (hq : LiesQ w vq q) (hsq : SizedQ q) (hins : InsOK B vf H.fos (Hu.plc H.fos q.fo) q.fo) (hk : q.kind = 8) :
    Calls Tryz.prog 42 #[.pointer (some ⟨g, 0, none⟩), vq] w fun z w' => z = .returned (.tuple #[.int .i64 0, .int .i64 (Hu.mkE H q.fo q.who)]) ∧ SvL w' g mb (Hu.mkH H q.fo q.who) ∧ Nb2 w w' g (bo vf g) := by
 have HINS := hid hins
 have HSG := hid hs
 have HR := hid hr
 clear hins hs hr
 have HSV := hid hsv
 have HSQ := hid hsq
 clear hsv hsq
 obtain ⟨va, rfl, lq⟩ := hq
 have HLQ := hid lq
 obtain ⟨qa, qc, rfl, _⟩ := lq
 obtain ⟨kind, who, fo, name, key, text, num, off, base, ch⟩ := q
 simp only at *
 obtain ⟨wz, hwz⟩ : ∃ wz, wz = w.alloc (.cells #[.int .i64 kind, .string who, .string fo, .string name, .string key, .string text, .int .i64 num, .int .i64 off, .int .i64 base, .slice qa ch.length qc] 31) := ⟨_, rfl⟩
 have hbz : Below w.heap.size w wz := by rw [hwz]; exact (Below.refl _ _).alloc (Nat.le_refl _) _
 have HQX : Hid (Cs wz w.heap.size [.int .i64 kind, .string who, .string fo, .string name, .string key, .string text, .int .i64 num, .int .i64 off, .int .i64 base, .slice qa ch.length qc]) := (by rw [hwz]; exact Cs.new w [.int .i64 kind, .string who, .string fo, .string name, .string key, .string text, .int .i64 num, .int .i64 off, .int .i64 base, .slice qa ch.length qc] _ : Cs wz w.heap.size _)
 subst hk
 have x0 := HQX.out.cell 0 rfl
 have x1 := HQX.out.cell 1 rfl
 have x2 := HQX.out.cell 2 rfl
 have x3 := HQX.out.cell 3 rfl
 have x4 := HQX.out.cell 4 rfl
 have x5 := HQX.out.cell 5 rfl
 have x6 := HQX.out.cell 6 rfl
 have x7 := HQX.out.cell 7 rfl
 have x8 := HQX.out.cell 8 rfl
 have x9 := HQX.out.cell 9 rfl
 have hs01 := hbz.size
 go_enter Tryz.func42, Tryz.ntmps42
 go_upto_region 1 with fail
 rw [← hwz]
 clear hwz
 go_wp2_with fail
 refine (smake_any H ⟨8, who, fo, name, key, text, num, off, base, ch⟩ _ vf vg vs B g mb wz (HSV.out.below hbz) hgB (by omega) HSG.out HR.out h8 ⟨_, rfl, HLQ.out.below hbz⟩ HSQ.out HINS.out).mono ?_
 rintro z w3 ⟨rfl, hs3, hn3⟩
 have HS3 := hid hs3
 have HN3 := hid (show Nb2 w w3 g (bo vf g) from (Nb2.of_below _ _ hbz).trans hn3)
 clear hs3 hn3
 go_wp2_with fail
 go_ret2
 exact ⟨rfl, HS3.out, HN3.out⟩
set_option maxRecDepth 100000 in
set_option maxHeartbeats 4000000 in
theorem snum_commit (H : Hb) (q : Rq) (vq vf vg vs : Value) (B g mb n : Nat) (w : World) (hsv : Sv B w g mb vf vg vs H) (hm : SvM w mb n H) (hgB : g < B) (hs : SizedF H.fos) (hq : LiesQ w vq q) (hsq : SizedQ q) (hi : Hu.whr H.fos H.gs q.fo < H.fos.length) (hk : q.kind = 1) :
    Calls Tryz.prog 42 #[.pointer (some ⟨g, 0, none⟩), vq] w fun z w' => z = .returned (.tuple #[.int .i64 (Hu.cmN H (Hu.whr H.fos H.gs q.fo) q.key q.ch), .int .i64 (Hu.cmE H (Hu.whr H.fos H.gs q.fo) q.key q.ch)]) ∧ SvL w' g mb (Hu.cmH H (Hu.whr H.fos H.gs q.fo) q.key q.ch) ∧ Nb2 w w' g (bo vf g) := by
 have HSF := hid hs
 have HM := hid hm
 have HI := hid hi
 clear hs hm hi
 have HSV := hid hsv
 have HSQ := hid hsq
 clear hsv hsq
 obtain ⟨va, rfl, lq⟩ := hq
 have HLQ := hid lq
 obtain ⟨qa, qc, rfl, _⟩ := lq
 obtain ⟨kind, who, fo, name, key, text, num, off, base, ch⟩ := q
 simp only at *
 obtain ⟨wz, hwz⟩ : ∃ wz, wz = w.alloc (.cells #[.int .i64 kind, .string who, .string fo, .string name, .string key, .string text, .int .i64 num, .int .i64 off, .int .i64 base, .slice qa ch.length qc] 31) := ⟨_, rfl⟩
 have hbz : Below w.heap.size w wz := by rw [hwz]; exact (Below.refl _ _).alloc (Nat.le_refl _) _
 have HQX : Hid (Cs wz w.heap.size [.int .i64 kind, .string who, .string fo, .string name, .string key, .string text, .int .i64 num, .int .i64 off, .int .i64 base, .slice qa ch.length qc]) := (by rw [hwz]; exact Cs.new w [.int .i64 kind, .string who, .string fo, .string name, .string key, .string text, .int .i64 num, .int .i64 off, .int .i64 base, .slice qa ch.length qc] _ : Cs wz w.heap.size _)
 subst hk
 have x0 := HQX.out.cell 0 rfl
 have x1 := HQX.out.cell 1 rfl
 have x2 := HQX.out.cell 2 rfl
 have x3 := HQX.out.cell 3 rfl
 have x4 := HQX.out.cell 4 rfl
 have x5 := HQX.out.cell 5 rfl
 have x6 := HQX.out.cell 6 rfl
 have x7 := HQX.out.cell 7 rfl
 have x8 := HQX.out.cell 8 rfl
 have x9 := HQX.out.cell 9 rfl
 have hs01 := hbz.size
 go_enter Tryz.func42, Tryz.ntmps42
 go_upto_region 1 with fail
 rw [← hwz]
 clear hwz
 go_wp2_with fail
 refine (hcommit_any H ⟨1, who, fo, name, key, text, num, off, base, ch⟩ ch _ _ vf vg vs B g mb n wz (HSV.out.below hbz) (HM.out.below hbz) hgB HSF.out ⟨_, rfl, HLQ.out.below hbz⟩ HSQ.out (HLQ.out.below hbz) HSQ.out.ch HI.out).mono ?_
 rintro z w3 ⟨rfl, hs3, hn3⟩
 have HS3 := hid hs3
 have HN3 := hid (show Nb2 w w3 g (bo vf g) from (Nb2.of_below _ _ hbz).trans hn3)
 clear hs3 hn3
 go_wp2_with fail
 go_ret2
 exact ⟨rfl, HS3.out, HN3.out⟩
end Go.Proofs.YtchlgpeiombmdaaGreat
