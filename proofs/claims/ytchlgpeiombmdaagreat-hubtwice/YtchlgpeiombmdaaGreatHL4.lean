/- What the law HubTwice answers: true, for every hub and every request. -/
import Derived.Test.YtchlgpeiombmdaaGreatKG
import Derived.Test.YtchlgpeiombmdaaGreatKH
import Derived.Test.YtchlgpeiombmdaaGreatKL
set_option linter.unusedSimpArgs false
set_option linter.unusedVariables false
namespace Go.Proofs.YtchlgpeiombmdaaGreat
open Go.RowKit

set_option maxRecDepth 100000 in
set_option maxHeartbeats 8000000 in
theorem hubTwice_walk (H : Hb) (q : Rq) (v vq : Value) (w : World) (hv : LiesH w v H) (hs : SizedH H) (hq : LiesQ w vq q) (hsq : SizedQ q) :
    Calls Tryz.prog 6 #[v, vq] w fun e w' => e = .returned (.bool true) ∧ Below w.heap.size w w' := by
 have HV := hid hv
 have HS := hid hs
 obtain ⟨fa, fc, ga, gc, sa, sc, rfl⟩ := hv.shape
 obtain ⟨va, rfl, lq⟩ := hq
 have HLQ := hid lq
 obtain ⟨qa, qc, rfl, _⟩ := lq
 obtain ⟨kind, who, fo, name, key, text, num, off, base, ch⟩ := q
 obtain ⟨hq1, hq2, hq3, hq4, hq5, hq6⟩ := hsq
 simp only at *
 obtain ⟨p, hp⟩ : ∃ p : Rq, p = ⟨1, who, fo, name, key, text, num, off, base, ch⟩ := ⟨_, rfl⟩
 have HSQ := hid (show SizedQ p from by rw [hp]; exact ⟨hq1, hq2, hq3, hq4, hq5, hq6⟩)
 have HK := hid (show p.kind = 1 from by rw [hp])
 have HP := hid (show ∀ W, LiesC W (.slice qa ch.length qc) ch → LiesQ W (.agg #[.int .i64 1, .string who, .string fo, .string name, .string key, .string text, .int .i64 num, .int .i64 off, .int .i64 base, .slice qa ch.length qc]) p from fun W h => by rw [hp]; exact ⟨_, rfl, h⟩)
 clear hp hq1 hq2 hq3 hq4 hq5 hq6
 obtain ⟨wa, hwa⟩ : ∃ wa, wa = w.alloc (.cells #[.slice fa H.fos.length fc, .slice ga H.gs.length gc, .slice sa H.ss.length sc, .int .i64 H.nx, .int .i64 H.la, .int .i64 H.ro, .int .i64 H.now] 28) := ⟨_, rfl⟩
 obtain ⟨wz, hwz⟩ : ∃ wz, wz = wa.alloc (.cells #[.int .i64 kind, .string who, .string fo, .string name, .string key, .string text, .int .i64 num, .int .i64 off, .int .i64 base, .slice qa ch.length qc] 31) := ⟨_, rfl⟩
 have sa1 : wa.heap.size = w.heap.size + 1 := by rw [hwa]; simp
 have bwa : Below w.heap.size w wa := by rw [hwa]; exact (Below.refl _ _).alloc (Nat.le_refl _) _
 have bwz : Below wa.heap.size wa wz := by rw [hwz]; exact (Below.refl _ _).alloc (Nat.le_refl _) _
 have hbz : Below w.heap.size w wz := below_tr bwa bwz
 have HX : Hid (Cs wz w.heap.size [.slice fa H.fos.length fc, .slice ga H.gs.length gc, .slice sa H.ss.length sc, .int .i64 H.nx, .int .i64 H.la, .int .i64 H.ro, .int .i64 H.now]) := ((by rw [hwa]; exact Cs.new w [.slice fa H.fos.length fc, .slice ga H.gs.length gc, .slice sa H.ss.length sc, .int .i64 H.nx, .int .i64 H.la, .int .i64 H.ro, .int .i64 H.now] _ : Cs wa w.heap.size [.slice fa H.fos.length fc, .slice ga H.gs.length gc, .slice sa H.ss.length sc, .int .i64 H.nx, .int .i64 H.la, .int .i64 H.ro, .int .i64 H.now]).below bwz : Cs wz w.heap.size _)
 have HQX := hid (show Cs wz (w.heap.size + 1) [.int .i64 kind, .string who, .string fo, .string name, .string key, .string text, .int .i64 num, .int .i64 off, .int .i64 base, .slice qa ch.length qc] from by rw [← sa1, hwz]; exact Cs.new wa [.int .i64 kind, .string who, .string fo, .string name, .string key, .string text, .int .i64 num, .int .i64 off, .int .i64 base, .slice qa ch.length qc] _)
 have hwzz : (w.alloc (.cells #[.slice fa H.fos.length fc, .slice ga H.gs.length gc, .slice sa H.ss.length sc, .int .i64 H.nx, .int .i64 H.la, .int .i64 H.ro, .int .i64 H.now] 28)).alloc (.cells #[.int .i64 kind, .string who, .string fo, .string name, .string key, .string text, .int .i64 num, .int .i64 off, .int .i64 base, .slice qa ch.length qc] 31) = wz := by rw [hwz, hwa]
 have HWZ := hid hwzz
 clear hwa hwz bwa bwz sa1 hwzz hv hs
 go_enter Tryz.func6, Tryz.ntmps6
 go_upto_region 1 with fail
 rw [HWZ.out]
 clear HWZ
 go_wp2_with fail
 refine (hubBegun_yes _).mono ?_
 rintro e w1 ⟨rfl, hb1⟩
 have hb01 := below_tr hbz hb1
 have HX1 := hid (HX.out.below hb1)
 have HQ1 := hid (HQX.out.below hb1)
 have hs1 := hb1.size
 have hlz := HQX.out.lt
 obtain ⟨w2, hw2⟩ : ∃ w2, w2 = w1.setCell ⟨w.heap.size + 1, 0, none⟩ (.int .i64 1) := ⟨_, rfl⟩
 have hg2 : w1.grownBy w2 (some (w.heap.size + 1)) := by rw [hw2]; exact nb_set _ _ _ _
 have hb02 : Below w.heap.size w w2 := by rw [hw2]; exact hb01.setCell (p := ⟨w.heap.size + 1, 0, none⟩) (Nat.le_succ _) _
 have HQ2 : Hid (Cs w2 (w.heap.size + 1) [.int .i64 1, .string who, .string fo, .string name, .string key, .string text, .int .i64 num, .int .i64 off, .int .i64 base, .slice qa ch.length qc]) := (by rw [hw2]; exact HQ1.out.set 0 (.int .i64 1) : Cs w2 (w.heap.size + 1) _)
 have HX2 := hid (HX1.out.nb hg2 (by omega))
 have p0 := HQ1.out.cell 0 rfl
 have f0 := HQ1.out.fr 0
 go_upto_region 4 with fail
 rw [← hw2]
 clear hw2 p0 f0
 have HV2 := hid (HV.out.below hb02)
 have HL2 := hid (HLQ.out.below hb02)
 have x0 := HX2.out.cell 0 rfl
 have x1 := HX2.out.cell 1 rfl
 have x2 := HX2.out.cell 2 rfl
 have x3 := HX2.out.cell 3 rfl
 have x4 := HX2.out.cell 4 rfl
 have x5 := HX2.out.cell 5 rfl
 have x6 := HX2.out.cell 6 rfl
 have y0 := HQ2.out.cell 0 rfl
 have y1 := HQ2.out.cell 1 rfl
 have y2 := HQ2.out.cell 2 rfl
 have y3 := HQ2.out.cell 3 rfl
 have y4 := HQ2.out.cell 4 rfl
 have y5 := HQ2.out.cell 5 rfl
 have y6 := HQ2.out.cell 6 rfl
 have y7 := HQ2.out.cell 7 rfl
 have y8 := HQ2.out.cell 8 rfl
 have y9 := HQ2.out.cell 9 rfl
 by_cases h0 : Hu.hE H = 0
 · have H0 := hid h0
   clear h0
   go_wp2_with fail
   refine (serve_1 H p _ _ w2 HV2.out HS.out (HP.out w2 HL2.out) HSQ.out H0.out HK.out).mono ?_
   rintro e w3 ⟨u3, a3, rfl, hu3, ha3, hb3⟩
   obtain ⟨H1, hH1⟩ : ∃ H1, H1 = Hu.s1H H p := ⟨_, rfl⟩
   obtain ⟨A1, hA1⟩ : ∃ A1, A1 = Hu.s1A H p := ⟨_, rfl⟩
   have HAG := hid (show Hu.hE H1 = 0 ∧ SizedH H1 ∧ Hu.s1H H1 p = H1 ∧ Hu.s1A H1 p = A1 from by rw [hH1, hA1]; exact Hu.s1_again H0.out HS.out HSQ.out HK.out)
   rw [← hH1] at hu3
   rw [← hA1] at ha3
   clear hH1 hA1 x0 x1 x2 x3 x4 x5 x6 y0 y1 y2 y3 y4 y5 y6 y7 y8 y9
   have HX3q := hid (HX2.out.below hb3)
   have HQ3q := hid (HQ2.out.below hb3)
   have hb03 := below_tr hb02 hb3
   have hs3 := hb3.size
   have hs2 := hg2.size
   obtain ⟨fa3, fc3, ga3, gc3, sa3, sc3, rfl⟩ := hu3.shape
   obtain ⟨ta3, tc3, ca3, cc3, rfl⟩ := ha3.shape
   obtain ⟨wa, hwa⟩ : ∃ wa, wa = w3.alloc (.cells #[.slice fa3 H1.fos.length fc3, .slice ga3 H1.gs.length gc3, .slice sa3 H1.ss.length sc3, .int .i64 H1.nx, .int .i64 H1.la, .int .i64 H1.ro, .int .i64 H1.now] 28) := ⟨_, rfl⟩
   obtain ⟨w4, hwz⟩ : ∃ wz, wz = wa.alloc (.cells #[.int .i64 A1.err, .int .i64 A1.num, .bool A1.pg.reset, .slice ta3 A1.pg.tree.length tc3, .slice ca3 A1.pg.cos.length cc3, .int .i64 A1.pg.cur, .bool A1.pg.more] 39) := ⟨_, rfl⟩
   have sa1 : wa.heap.size = w3.heap.size + 1 := by rw [hwa]; simp
   have bwa : Below w3.heap.size w3 wa := by rw [hwa]; exact (Below.refl _ _).alloc (Nat.le_refl _) _
   have bwz : Below wa.heap.size wa w4 := by rw [hwz]; exact (Below.refl _ _).alloc (Nat.le_refl _) _
   have hbs3 : Below w3.heap.size w3 w4 := below_tr bwa bwz
   have HX3 : Hid (Cs w4 w3.heap.size [.slice fa3 H1.fos.length fc3, .slice ga3 H1.gs.length gc3, .slice sa3 H1.ss.length sc3, .int .i64 H1.nx, .int .i64 H1.la, .int .i64 H1.ro, .int .i64 H1.now]) := ((by rw [hwa]; exact Cs.new w3 [.slice fa3 H1.fos.length fc3, .slice ga3 H1.gs.length gc3, .slice sa3 H1.ss.length sc3, .int .i64 H1.nx, .int .i64 H1.la, .int .i64 H1.ro, .int .i64 H1.now] _ : Cs wa w3.heap.size [.slice fa3 H1.fos.length fc3, .slice ga3 H1.gs.length gc3, .slice sa3 H1.ss.length sc3, .int .i64 H1.nx, .int .i64 H1.la, .int .i64 H1.ro, .int .i64 H1.now]).below bwz : Cs w4 w3.heap.size _)
   have HA3 := hid (show Cs w4 (w3.heap.size + 1) [.int .i64 A1.err, .int .i64 A1.num, .bool A1.pg.reset, .slice ta3 A1.pg.tree.length tc3, .slice ca3 A1.pg.cos.length cc3, .int .i64 A1.pg.cur, .bool A1.pg.more] from by rw [← sa1, hwz]; exact Cs.new wa [.int .i64 A1.err, .int .i64 A1.num, .bool A1.pg.reset, .slice ta3 A1.pg.tree.length tc3, .slice ca3 A1.pg.cos.length cc3, .int .i64 A1.pg.cur, .bool A1.pg.more] _)
   have hwzz : (w3.alloc (.cells #[.slice fa3 H1.fos.length fc3, .slice ga3 H1.gs.length gc3, .slice sa3 H1.ss.length sc3, .int .i64 H1.nx, .int .i64 H1.la, .int .i64 H1.ro, .int .i64 H1.now] 28)).alloc (.cells #[.int .i64 A1.err, .int .i64 A1.num, .bool A1.pg.reset, .slice ta3 A1.pg.tree.length tc3, .slice ca3 A1.pg.cos.length cc3, .int .i64 A1.pg.cur, .bool A1.pg.more] 39) = w4 := by rw [hwz, hwa]
   have HWZ := hid hwzz
   have HU3 := hid (hu3.below hbs3)
   have HN3 := hid (ha3.below hbs3)
   have hls3 : w3.heap.size + 1 < w4.heap.size := HA3.out.lt
   clear hwa hwz bwa bwz sa1 hwzz hu3 ha3
   go_upto_region 5 with fail
   rw [HWZ.out]
   clear HWZ
   have HQ4 := hid (HQ3q.out.below hbs3)
   have hb04 := below_tr hb03 hbs3
   have HL4 := hid (HLQ.out.below hb04)
   have x0 := HX3.out.cell 0 rfl
   have x1 := HX3.out.cell 1 rfl
   have x2 := HX3.out.cell 2 rfl
   have x3 := HX3.out.cell 3 rfl
   have x4 := HX3.out.cell 4 rfl
   have x5 := HX3.out.cell 5 rfl
   have x6 := HX3.out.cell 6 rfl
   have y0 := HQ4.out.cell 0 rfl
   have y1 := HQ4.out.cell 1 rfl
   have y2 := HQ4.out.cell 2 rfl
   have y3 := HQ4.out.cell 3 rfl
   have y4 := HQ4.out.cell 4 rfl
   have y5 := HQ4.out.cell 5 rfl
   have y6 := HQ4.out.cell 6 rfl
   have y7 := HQ4.out.cell 7 rfl
   have y8 := HQ4.out.cell 8 rfl
   have y9 := HQ4.out.cell 9 rfl
   go_wp2_with fail
   refine (serve_1 H1 p _ _ w4 HU3.out HAG.out.2.1 (HP.out w4 HL4.out) HSQ.out HAG.out.1 HK.out).mono ?_
   rintro e w5 ⟨u5, a5, rfl, hu5, ha5, hb5⟩
   rw [HAG.out.2.2.1] at hu5
   rw [HAG.out.2.2.2] at ha5
   clear x0 x1 x2 x3 x4 x5 x6 y0 y1 y2 y3 y4 y5 y6 y7 y8 y9
   have HX5q := hid (HX3.out.below hb5)
   have HA5q := hid (HA3.out.below hb5)
   have HU5q := hid (HU3.out.below hb5)
   have HN5q := hid (HN3.out.below hb5)
   have hb05 := below_tr hb04 hb5
   have hs5 := hb5.size
   obtain ⟨fa5, fc5, ga5, gc5, sa5, sc5, rfl⟩ := hu5.shape
   obtain ⟨ta5, tc5, ca5, cc5, rfl⟩ := ha5.shape
   obtain ⟨wa, hwa⟩ : ∃ wa, wa = w5.alloc (.cells #[.slice fa5 H1.fos.length fc5, .slice ga5 H1.gs.length gc5, .slice sa5 H1.ss.length sc5, .int .i64 H1.nx, .int .i64 H1.la, .int .i64 H1.ro, .int .i64 H1.now] 28) := ⟨_, rfl⟩
   obtain ⟨w6, hwz⟩ : ∃ wz, wz = wa.alloc (.cells #[.int .i64 A1.err, .int .i64 A1.num, .bool A1.pg.reset, .slice ta5 A1.pg.tree.length tc5, .slice ca5 A1.pg.cos.length cc5, .int .i64 A1.pg.cur, .bool A1.pg.more] 39) := ⟨_, rfl⟩
   have sa1 : wa.heap.size = w5.heap.size + 1 := by rw [hwa]; simp
   have bwa : Below w5.heap.size w5 wa := by rw [hwa]; exact (Below.refl _ _).alloc (Nat.le_refl _) _
   have bwz : Below wa.heap.size wa w6 := by rw [hwz]; exact (Below.refl _ _).alloc (Nat.le_refl _) _
   have hbs5 : Below w5.heap.size w5 w6 := below_tr bwa bwz
   have HX5 : Hid (Cs w6 w5.heap.size [.slice fa5 H1.fos.length fc5, .slice ga5 H1.gs.length gc5, .slice sa5 H1.ss.length sc5, .int .i64 H1.nx, .int .i64 H1.la, .int .i64 H1.ro, .int .i64 H1.now]) := ((by rw [hwa]; exact Cs.new w5 [.slice fa5 H1.fos.length fc5, .slice ga5 H1.gs.length gc5, .slice sa5 H1.ss.length sc5, .int .i64 H1.nx, .int .i64 H1.la, .int .i64 H1.ro, .int .i64 H1.now] _ : Cs wa w5.heap.size [.slice fa5 H1.fos.length fc5, .slice ga5 H1.gs.length gc5, .slice sa5 H1.ss.length sc5, .int .i64 H1.nx, .int .i64 H1.la, .int .i64 H1.ro, .int .i64 H1.now]).below bwz : Cs w6 w5.heap.size _)
   have HA5 := hid (show Cs w6 (w5.heap.size + 1) [.int .i64 A1.err, .int .i64 A1.num, .bool A1.pg.reset, .slice ta5 A1.pg.tree.length tc5, .slice ca5 A1.pg.cos.length cc5, .int .i64 A1.pg.cur, .bool A1.pg.more] from by rw [← sa1, hwz]; exact Cs.new wa [.int .i64 A1.err, .int .i64 A1.num, .bool A1.pg.reset, .slice ta5 A1.pg.tree.length tc5, .slice ca5 A1.pg.cos.length cc5, .int .i64 A1.pg.cur, .bool A1.pg.more] _)
   have hwzz : (w5.alloc (.cells #[.slice fa5 H1.fos.length fc5, .slice ga5 H1.gs.length gc5, .slice sa5 H1.ss.length sc5, .int .i64 H1.nx, .int .i64 H1.la, .int .i64 H1.ro, .int .i64 H1.now] 28)).alloc (.cells #[.int .i64 A1.err, .int .i64 A1.num, .bool A1.pg.reset, .slice ta5 A1.pg.tree.length tc5, .slice ca5 A1.pg.cos.length cc5, .int .i64 A1.pg.cur, .bool A1.pg.more] 39) = w6 := by rw [hwz, hwa]
   have HWZ := hid hwzz
   have HU5 := hid (hu5.below hbs5)
   have HN5 := hid (ha5.below hbs5)
   have hls5 : w5.heap.size + 1 < w6.heap.size := HA5.out.lt
   clear hwa hwz bwa bwz sa1 hwzz hu5 ha5
   go_upto_region 8 with fail
   rw [HWZ.out]
   clear HWZ
   have HX6 := hid (HX5q.out.below hbs5)
   have HA6 := hid (HA5q.out.below hbs5)
   have HU6 := hid (HU5q.out.below hbs5)
   have HN6 := hid (HN5q.out.below hbs5)
   have hb06 := below_tr hb05 hbs5
   have x0 := HA6.out.cell 0 rfl
   have x1 := HA6.out.cell 1 rfl
   have x2 := HA6.out.cell 2 rfl
   have x3 := HA6.out.cell 3 rfl
   have x4 := HA6.out.cell 4 rfl
   have x5 := HA6.out.cell 5 rfl
   have x6 := HA6.out.cell 6 rfl
   have y0 := HA5.out.cell 0 rfl
   have y1 := HA5.out.cell 1 rfl
   have y2 := HA5.out.cell 2 rfl
   have y3 := HA5.out.cell 3 rfl
   have y4 := HA5.out.cell 4 rfl
   have y5 := HA5.out.cell 5 rfl
   have y6 := HA5.out.cell 6 rfl
   go_wp2_with fail
   refine (sameAnswer_yes A1 _ _ _ HN6.out HN5.out).mono ?_
   rintro e w7 ⟨rfl, hb7⟩
   have hb07 := below_tr hb06 hb7
   clear x0 x1 x2 x3 x4 x5 x6 y0 y1 y2 y3 y4 y5 y6
   have HX7 := hid (HX6.out.below hb7)
   have HX57 := hid (HX5.out.below hb7)
   have x0 := HX7.out.cell 0 rfl
   have x1 := HX7.out.cell 1 rfl
   have x2 := HX7.out.cell 2 rfl
   have x3 := HX7.out.cell 3 rfl
   have x4 := HX7.out.cell 4 rfl
   have x5 := HX7.out.cell 5 rfl
   have x6 := HX7.out.cell 6 rfl
   have y0 := HX57.out.cell 0 rfl
   have y1 := HX57.out.cell 1 rfl
   have y2 := HX57.out.cell 2 rfl
   have y3 := HX57.out.cell 3 rfl
   have y4 := HX57.out.cell 4 rfl
   have y5 := HX57.out.cell 5 rfl
   have y6 := HX57.out.cell 6 rfl
   go_wp2_with fail
   refine (sameHub_yes H1 _ _ _ (HU6.out.below hb7) (HU5.out.below hb7)).mono ?_
   rintro e w8 ⟨rfl, hb8⟩
   have hb08 := below_tr hb07 hb8
   go_wp2_with fail
   go_ret
   exact ⟨rfl, hb08⟩
 · obtain ⟨r, hrr⟩ : ∃ r, r = Hu.hE H := ⟨_, rfl⟩
   have H0 : Hid (¬ Hu.hE H = 0) := h0
   have hz2 : (r != 0) = true := by rw [hrr]; simpa using h0
   have hz : (r == 0) = false := by rw [hrr]; simpa using h0
   have HRR := hid hrr
   clear h0 hrr
   go_wp2_with fail
   refine (serve_bad H p _ _ w2 HV2.out HS.out (HP.out w2 HL2.out) H0.out).mono ?_
   rintro e w3 ⟨u3, a3, rfl, hu3, ha3, hb3⟩
   rw [← HRR.out]
   clear x0 x1 x2 x3 x4 x5 x6 y0 y1 y2 y3 y4 y5 y6 y7 y8 y9
   have hb03 := below_tr hb02 hb3
   obtain ⟨fa3, fc3, ga3, gc3, sa3, sc3, rfl⟩ := hu3.shape
   obtain ⟨ta3, tc3, ca3, cc3, rfl⟩ := ha3.shape
   obtain ⟨wa, hwa⟩ : ∃ wa, wa = w3.alloc (.cells #[.slice fa3 zeroH.fos.length fc3, .slice ga3 zeroH.gs.length gc3, .slice sa3 zeroH.ss.length sc3, .int .i64 zeroH.nx, .int .i64 zeroH.la, .int .i64 zeroH.ro, .int .i64 zeroH.now] 28) := ⟨_, rfl⟩
   obtain ⟨w4, hwz⟩ : ∃ wz, wz = wa.alloc (.cells #[.int .i64 zeroA.err, .int .i64 zeroA.num, .bool zeroA.pg.reset, .slice ta3 zeroA.pg.tree.length tc3, .slice ca3 zeroA.pg.cos.length cc3, .int .i64 zeroA.pg.cur, .bool zeroA.pg.more] 39) := ⟨_, rfl⟩
   have sa1 : wa.heap.size = w3.heap.size + 1 := by rw [hwa]; simp
   have bwa : Below w3.heap.size w3 wa := by rw [hwa]; exact (Below.refl _ _).alloc (Nat.le_refl _) _
   have bwz : Below wa.heap.size wa w4 := by rw [hwz]; exact (Below.refl _ _).alloc (Nat.le_refl _) _
   have hbs3 : Below w3.heap.size w3 w4 := below_tr bwa bwz
   have HX3 : Hid (Cs w4 w3.heap.size [.slice fa3 zeroH.fos.length fc3, .slice ga3 zeroH.gs.length gc3, .slice sa3 zeroH.ss.length sc3, .int .i64 zeroH.nx, .int .i64 zeroH.la, .int .i64 zeroH.ro, .int .i64 zeroH.now]) := ((by rw [hwa]; exact Cs.new w3 [.slice fa3 zeroH.fos.length fc3, .slice ga3 zeroH.gs.length gc3, .slice sa3 zeroH.ss.length sc3, .int .i64 zeroH.nx, .int .i64 zeroH.la, .int .i64 zeroH.ro, .int .i64 zeroH.now] _ : Cs wa w3.heap.size [.slice fa3 zeroH.fos.length fc3, .slice ga3 zeroH.gs.length gc3, .slice sa3 zeroH.ss.length sc3, .int .i64 zeroH.nx, .int .i64 zeroH.la, .int .i64 zeroH.ro, .int .i64 zeroH.now]).below bwz : Cs w4 w3.heap.size _)
   have HA3 := hid (show Cs w4 (w3.heap.size + 1) [.int .i64 zeroA.err, .int .i64 zeroA.num, .bool zeroA.pg.reset, .slice ta3 zeroA.pg.tree.length tc3, .slice ca3 zeroA.pg.cos.length cc3, .int .i64 zeroA.pg.cur, .bool zeroA.pg.more] from by rw [← sa1, hwz]; exact Cs.new wa [.int .i64 zeroA.err, .int .i64 zeroA.num, .bool zeroA.pg.reset, .slice ta3 zeroA.pg.tree.length tc3, .slice ca3 zeroA.pg.cos.length cc3, .int .i64 zeroA.pg.cur, .bool zeroA.pg.more] _)
   have hwzz : (w3.alloc (.cells #[.slice fa3 zeroH.fos.length fc3, .slice ga3 zeroH.gs.length gc3, .slice sa3 zeroH.ss.length sc3, .int .i64 zeroH.nx, .int .i64 zeroH.la, .int .i64 zeroH.ro, .int .i64 zeroH.now] 28)).alloc (.cells #[.int .i64 zeroA.err, .int .i64 zeroA.num, .bool zeroA.pg.reset, .slice ta3 zeroA.pg.tree.length tc3, .slice ca3 zeroA.pg.cos.length cc3, .int .i64 zeroA.pg.cur, .bool zeroA.pg.more] 39) = w4 := by rw [hwz, hwa]
   have HWZ := hid hwzz
   have HU3 := hid (hu3.below hbs3)
   have HN3 := hid (ha3.below hbs3)
   have hls3 : w3.heap.size + 1 < w4.heap.size := HA3.out.lt
   clear hwa hwz bwa bwz sa1 hwzz hu3 ha3
   go_upto_region 5 with fail
   rw [HWZ.out]
   clear HWZ
   have hb04 := below_tr hb03 hbs3
   go_wp2_with fail
   go_ret
   exact ⟨rfl, hb04⟩
end Go.Proofs.YtchlgpeiombmdaaGreat
