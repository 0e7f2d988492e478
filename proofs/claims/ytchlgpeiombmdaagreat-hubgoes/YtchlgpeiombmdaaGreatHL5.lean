/- What the law HubGoes answers: true, for every hub and every request. -/
import Derived.Test.YtchlgpeiombmdaaGreatKG
import Derived.Test.YtchlgpeiombmdaaGreatKH
import Derived.Test.YtchlgpeiombmdaaGreatKU
set_option linter.unusedSimpArgs false
set_option linter.unusedVariables false
namespace Go.Proofs.YtchlgpeiombmdaaGreat
open Go.RowKit

set_option maxRecDepth 100000 in
set_option maxHeartbeats 8000000 in
theorem hubGoes_walk (H : Hb) (q : Rq) (v vq : Value) (w : World) (hv : LiesH w v H) (hs : SizedH H) (hq : LiesQ w vq q) (hsq : SizedQ q) :
    Calls Tryz.prog 3 #[v, vq] w fun e w' => e = .returned (.bool true) ∧ Below w.heap.size w w' := by
 have HV := hid hv
 have HS := hid hs
 obtain ⟨fa, fc, ga, gc, sa, sc, rfl⟩ := hv.shape
 have HQQ := hid hq
 have HSQ := hid hsq
 obtain ⟨va, rfl, lq⟩ := hq
 obtain ⟨qa, qc, rfl, _⟩ := lq
 obtain ⟨wa, hwa⟩ : ∃ wa, wa = w.alloc (.cells #[.slice fa H.fos.length fc, .slice ga H.gs.length gc, .slice sa H.ss.length sc, .int .i64 H.nx, .int .i64 H.la, .int .i64 H.ro, .int .i64 H.now] 28) := ⟨_, rfl⟩
 obtain ⟨wz, hwz⟩ : ∃ wz, wz = wa.alloc (.cells #[.int .i64 q.kind, .string q.who, .string q.fo, .string q.name, .string q.key, .string q.text, .int .i64 q.num, .int .i64 q.off, .int .i64 q.base, .slice qa q.ch.length qc] 31) := ⟨_, rfl⟩
 have sa1 : wa.heap.size = w.heap.size + 1 := by rw [hwa]; simp
 have bwa : Below w.heap.size w wa := by rw [hwa]; exact (Below.refl _ _).alloc (Nat.le_refl _) _
 have bwz : Below wa.heap.size wa wz := by rw [hwz]; exact (Below.refl _ _).alloc (Nat.le_refl _) _
 have hbz : Below w.heap.size w wz := below_tr bwa bwz
 have HX : Hid (Cs wz w.heap.size [.slice fa H.fos.length fc, .slice ga H.gs.length gc, .slice sa H.ss.length sc, .int .i64 H.nx, .int .i64 H.la, .int .i64 H.ro, .int .i64 H.now]) := ((by rw [hwa]; exact Cs.new w [.slice fa H.fos.length fc, .slice ga H.gs.length gc, .slice sa H.ss.length sc, .int .i64 H.nx, .int .i64 H.la, .int .i64 H.ro, .int .i64 H.now] _ : Cs wa w.heap.size [.slice fa H.fos.length fc, .slice ga H.gs.length gc, .slice sa H.ss.length sc, .int .i64 H.nx, .int .i64 H.la, .int .i64 H.ro, .int .i64 H.now]).below bwz : Cs wz w.heap.size _)
 have HQX := hid (show Cs wz (w.heap.size + 1) [.int .i64 q.kind, .string q.who, .string q.fo, .string q.name, .string q.key, .string q.text, .int .i64 q.num, .int .i64 q.off, .int .i64 q.base, .slice qa q.ch.length qc] from by rw [← sa1, hwz]; exact Cs.new wa [.int .i64 q.kind, .string q.who, .string q.fo, .string q.name, .string q.key, .string q.text, .int .i64 q.num, .int .i64 q.off, .int .i64 q.base, .slice qa q.ch.length qc] _)
 have hwzz : (w.alloc (.cells #[.slice fa H.fos.length fc, .slice ga H.gs.length gc, .slice sa H.ss.length sc, .int .i64 H.nx, .int .i64 H.la, .int .i64 H.ro, .int .i64 H.now] 28)).alloc (.cells #[.int .i64 q.kind, .string q.who, .string q.fo, .string q.name, .string q.key, .string q.text, .int .i64 q.num, .int .i64 q.off, .int .i64 q.base, .slice qa q.ch.length qc] 31) = wz := by rw [hwz, hwa]
 have HWZ := hid hwzz
 clear hwa hwz bwa bwz sa1 hwzz hv hs hsq
 go_enter Tryz.func3, Tryz.ntmps3
 go_upto_region 1 with fail
 rw [HWZ.out]
 clear HWZ
 go_wp2_with fail
 refine (hubBegun_yes _).mono ?_
 rintro e w1 ⟨rfl, hb1⟩
 have hb01 := below_tr hbz hb1
 have HX1 := hid (HX.out.below hb1)
 have HQ1 := hid (HQX.out.below hb1)
 have hs1 := hb1.size
 have hlz := HQX.out.lt
 have x0 := HX1.out.cell 0 rfl
 have x1 := HX1.out.cell 1 rfl
 have x2 := HX1.out.cell 2 rfl
 have x3 := HX1.out.cell 3 rfl
 have x4 := HX1.out.cell 4 rfl
 have x5 := HX1.out.cell 5 rfl
 have x6 := HX1.out.cell 6 rfl
 have y0 := HQ1.out.cell 0 rfl
 have y1 := HQ1.out.cell 1 rfl
 have y2 := HQ1.out.cell 2 rfl
 have y3 := HQ1.out.cell 3 rfl
 have y4 := HQ1.out.cell 4 rfl
 have y5 := HQ1.out.cell 5 rfl
 have y6 := HQ1.out.cell 6 rfl
 have y7 := HQ1.out.cell 7 rfl
 have y8 := HQ1.out.cell 8 rfl
 have y9 := HQ1.out.cell 9 rfl
 by_cases h0 : Hu.hE H = 0
 · have H0 := hid h0
   clear h0
   go_wp2_with fail
   refine (serve_any H q _ _ w1 (HV.out.below hb01) HS.out (HQQ.out.below hb01) HSQ.out H0.out).mono ?_
   rintro e w3 ⟨u3, a3, rfl, hu3, ha3, hb3⟩
   obtain ⟨H1, hH1⟩ : ∃ H1, H1 = Hu.svH H q := ⟨_, rfl⟩
   obtain ⟨A1, hA1⟩ : ∃ A1, A1 = Hu.svA H q := ⟨_, rfl⟩
   have HHE := hid (show Hu.hE H1 = 0 ∧ SizedH H1 from by rw [hH1]; exact ⟨Hu.sv_he H0.out, Hu.sv_sized H0.out HS.out HSQ.out⟩)
   have HER := hid (show ¬ A1.err = 0 → H1 = H ∧ A1 = ⟨A1.err, 0, Jn.zeroP⟩ from by rw [hH1, hA1]; exact Hu.sv_err)
   rw [← hH1] at hu3
   rw [← hA1] at ha3
   clear hH1 hA1 x0 x1 x2 x3 x4 x5 x6 y0 y1 y2 y3 y4 y5 y6 y7 y8 y9
   have HX3q := hid (HX1.out.below hb3)
   have hb03 := below_tr hb01 hb3
   have hs3 := hb3.size
   obtain ⟨fa3, fc3, ga3, gc3, sa3, sc3, rfl⟩ := hu3.shape
   obtain ⟨ta3, tc3, ca3, cc3, rfl⟩ := ha3.shape
   obtain ⟨wa, hwa⟩ : ∃ wa, wa = w3.alloc (.cells #[.slice fa3 H1.fos.length fc3, .slice ga3 H1.gs.length gc3, .slice sa3 H1.ss.length sc3, .int .i64 H1.nx, .int .i64 H1.la, .int .i64 H1.ro, .int .i64 H1.now] 28) := ⟨_, rfl⟩
   obtain ⟨w4, hwz⟩ : ∃ wz, wz = wa.alloc (.cells #[.int .i64 A1.err, .int .i64 A1.num, .bool A1.pg.reset, .slice ta3 A1.pg.tree.length tc3, .slice ca3 A1.pg.cos.length cc3, .int .i64 A1.pg.cur, .bool A1.pg.more] 39) := ⟨_, rfl⟩
   have sa1 : wa.heap.size = w3.heap.size + 1 := by rw [hwa]; simp
   have bwa : Below w3.heap.size w3 wa := by rw [hwa]; exact (Below.refl _ _).alloc (Nat.le_refl _) _
   have bwz : Below wa.heap.size wa w4 := by rw [hwz]; exact (Below.refl _ _).alloc (Nat.le_refl _) _
   have hbs3 : Below w3.heap.size w3 w4 := below_tr bwa bwz
   have HX3 : Hid (Cs w4 w3.heap.size [.slice fa3 H1.fos.length fc3, .slice ga3 H1.gs.length gc3, .slice sa3 H1.ss.length sc3, .int .i64 H1.nx, .int .i64 H1.la, .int .i64 H1.ro, .int .i64 H1.now]) := ((by rw [hwa]; exact Cs.new w3 [.slice fa3 H1.fos.length fc3, .slice ga3 H1.gs.length gc3, .slice sa3 H1.ss.length sc3, .int .i64 H1.nx, .int .i64 H1.la, .int .i64 H1.ro, .int .i64 H1.now] _ : Cs wa w3.heap.size [.slice fa3 H1.fos.length fc3, .slice ga3 H1.gs.length gc3, .slice sa3 H1.ss.length sc3, .int .i64 H1.nx, .int .i64 H1.la, .int .i64 H1.ro, .int .i64 H1.now]).below bwz : Cs w4 w3.heap.size _)
   have HA3 := hid (show Cs w4 (w3.heap.size + 1) [.int .i64 A1.err, .int .i64 A1.num, .bool A1.pg.reset, .slice ta3 A1.pg.tree.length tc3, .slice ca3 A1.pg.cos.length cc3, .int .i64 A1.pg.cur, .bool A1.pg.more] from by rw [← sa1, hwz]; exact Cs.new wa [.int .i64 A1.err, .int .i64 A1.num, .bool A1.pg.reset, .slice ta3 A1.pg.tree.length tc3, .slice ca3 A1.pg.cos.length cc3, .int .i64 A1.pg.cur, .bool A1.pg.more] _)
   have hwzz : (w3.alloc (.cells #[.slice fa3 H1.fos.length fc3, .slice ga3 H1.gs.length gc3, .slice sa3 H1.ss.length sc3, .int .i64 H1.nx, .int .i64 H1.la, .int .i64 H1.ro, .int .i64 H1.now] 28)).alloc (.cells #[.int .i64 A1.err, .int .i64 A1.num, .bool A1.pg.reset, .slice ta3 A1.pg.tree.length tc3, .slice ca3 A1.pg.cos.length cc3, .int .i64 A1.pg.cur, .bool A1.pg.more] 39) = w4 := by rw [hwz, hwa]
   have HWZ := hid hwzz
   have HU3 := hid (hu3.below hbs3)
   have HN3 := hid (ha3.below hbs3)
   have hls3 : w3.heap.size + 1 < w4.heap.size := HA3.out.lt
   clear hwa hwz bwa bwz sa1 hwzz hu3 ha3
   go_upto_region 4 with fail
   rw [HWZ.out]
   clear HWZ
   have hb04 := below_tr hb03 hbs3
   have HX4 := hid (HX3q.out.below hbs3)
   have x0 := HX3.out.cell 0 rfl
   have x1 := HX3.out.cell 1 rfl
   have x2 := HX3.out.cell 2 rfl
   have x3 := HX3.out.cell 3 rfl
   have x4 := HX3.out.cell 4 rfl
   have x5 := HX3.out.cell 5 rfl
   have x6 := HX3.out.cell 6 rfl
   go_wp2_with fail
   refine (hcheck_any H1 _ w4 HU3.out HHE.out.2).mono ?_
   rintro e w5 ⟨rfl, hb5⟩
   rw [HHE.out.1]
   have hb05 := below_tr hb04 hb5
   have HX5 := hid (HX3.out.below hb5)
   have HXo := hid (HX4.out.below hb5)
   have HA5 := hid (HA3.out.below hb5)
   have HU5 := hid (HU3.out.below hb5)
   have HN5 := hid (HN3.out.below hb5)
   clear x0 x1 x2 x3 x4 x5 x6
   have y0 := HA5.out.cell 0 rfl
   by_cases he : A1.err = 0
   · rw [he] at y0
     go_wp2_with fail
     go_ret
     exact ⟨rfl, hb05⟩
   · obtain ⟨e1, e2⟩ := HER.out he
     have hz : (A1.err == 0) = false := by simpa using he
     have HEQ := hid e1
     have HEQA := hid e2
     clear e1 e2 he
     have x0 := HX5.out.cell 0 rfl
     have x1 := HX5.out.cell 1 rfl
     have x2 := HX5.out.cell 2 rfl
     have x3 := HX5.out.cell 3 rfl
     have x4 := HX5.out.cell 4 rfl
     have x5 := HX5.out.cell 5 rfl
     have x6 := HX5.out.cell 6 rfl
     have z0 := HXo.out.cell 0 rfl
     have z1 := HXo.out.cell 1 rfl
     have z2 := HXo.out.cell 2 rfl
     have z3 := HXo.out.cell 3 rfl
     have z4 := HXo.out.cell 4 rfl
     have z5 := HXo.out.cell 5 rfl
     have z6 := HXo.out.cell 6 rfl
     go_wp2_with fail
     refine (sameHub_yes H1 _ _ w5 HU5.out (by have h := HV.out.below hb05; rw [HEQ.out]; exact h)).mono ?_
     rintro e w6 ⟨rfl, hb6⟩
     have hb06 := below_tr hb05 hb6
     have HA6 := hid (HA5.out.below hb6)
     clear x0 x1 x2 x3 x4 x5 x6 z0 z1 z2 z3 z4 z5 z6 y0
     have y0 := HA6.out.cell 0 rfl
     have y1 := HA6.out.cell 1 rfl
     have y2 := HA6.out.cell 2 rfl
     have y3 := HA6.out.cell 3 rfl
     have y4 := HA6.out.cell 4 rfl
     have y5 := HA6.out.cell 5 rfl
     have y6 := HA6.out.cell 6 rfl
     go_wp2_with fail
     refine (sameAnswer_yes A1 _ _ w6 (HN5.out.below hb6) (by have h := liesA_num w6 A1.err 0; rw [← HEQA.out] at h; exact h)).mono ?_
     rintro e w7 ⟨rfl, hb7⟩
     have hb07 := below_tr hb06 hb7
     go_wp2_with fail
     go_ret
     exact ⟨rfl, hb07⟩
 · obtain ⟨r, hrr⟩ : ∃ r, r = Hu.hE H := ⟨_, rfl⟩
   have H0 : Hid (¬ Hu.hE H = 0) := h0
   have hz2 : (r != 0) = true := by rw [hrr]; simpa using h0
   have hz : (r == 0) = false := by rw [hrr]; simpa using h0
   have HRR := hid hrr
   clear h0 hrr
   go_wp2_with fail
   refine (serve_bad H q _ _ w1 (HV.out.below hb01) HS.out (HQQ.out.below hb01) H0.out).mono ?_
   rintro e w3 ⟨u3, a3, rfl, hu3, ha3, hb3⟩
   rw [← HRR.out]
   clear x0 x1 x2 x3 x4 x5 x6 y0 y1 y2 y3 y4 y5 y6 y7 y8 y9
   have HX3q := hid (HX1.out.below hb3)
   have hb03 := below_tr hb01 hb3
   obtain ⟨fa3, fc3, ga3, gc3, sa3, sc3, rfl⟩ := hu3.shape
   obtain ⟨ta3, tc3, ca3, cc3, rfl⟩ := ha3.shape
   obtain ⟨wa, hwa⟩ : ∃ wa, wa = w3.alloc (.cells #[.slice fa3 zeroH.fos.length fc3, .slice ga3 zeroH.gs.length gc3, .slice sa3 zeroH.ss.length sc3, .int .i64 zeroH.nx, .int .i64 zeroH.la, .int .i64 zeroH.ro, .int .i64 zeroH.now] 28) := ⟨_, rfl⟩
   obtain ⟨w4, hwz⟩ : ∃ wz, wz = wa.alloc (.cells #[.int .i64 zeroA.err, .int .i64 zeroA.num, .bool zeroA.pg.reset, .slice ta3 zeroA.pg.tree.length tc3, .slice ca3 zeroA.pg.cos.length cc3, .int .i64 zeroA.pg.cur, .bool zeroA.pg.more] 39) := ⟨_, rfl⟩
   have sa1 : wa.heap.size = w3.heap.size + 1 := by rw [hwa]; simp
   have bwa : Below w3.heap.size w3 wa := by rw [hwa]; exact (Below.refl _ _).alloc (Nat.le_refl _) _
   have bwz : Below wa.heap.size wa w4 := by rw [hwz]; exact (Below.refl _ _).alloc (Nat.le_refl _) _
   have hbs3 : Below w3.heap.size w3 w4 := below_tr bwa bwz
   have HX3 : Hid (Cs w4 w3.heap.size [.slice fa3 zeroH.fos.length fc3, .slice ga3 zeroH.gs.length gc3, .slice sa3 zeroH.ss.length sc3, .int .i64 zeroH.nx, .int .i64 zeroH.la, .int .i64 zeroH.ro, .int .i64 zeroH.now]) := ((by rw [hwa]; exact Cs.new w3 [.slice fa3 zeroH.fos.length fc3, .slice ga3 zeroH.gs.length gc3, .slice sa3 zeroH.ss.length sc3, .int .i64 zeroH.nx, .int .i64 zeroH.la, .int .i64 zeroH.ro, .int .i64 zeroH.now] _ : Cs wa w3.heap.size [.slice fa3 zeroH.fos.length fc3, .slice ga3 zeroH.gs.length gc3, .slice sa3 zeroH.ss.length sc3, .int .i64 zeroH.nx, .int .i64 zeroH.la, .int .i64 zeroH.ro, .int .i64 zeroH.now]).below bwz : Cs w4 w3.heap.size _)
   have HA3 := hid (show Cs w4 (w3.heap.size + 1) [.int .i64 zeroA.err, .int .i64 zeroA.num, .bool zeroA.pg.reset, .slice ta3 zeroA.pg.tree.length tc3, .slice ca3 zeroA.pg.cos.length cc3, .int .i64 zeroA.pg.cur, .bool zeroA.pg.more] from by rw [← sa1, hwz]; exact Cs.new wa [.int .i64 zeroA.err, .int .i64 zeroA.num, .bool zeroA.pg.reset, .slice ta3 zeroA.pg.tree.length tc3, .slice ca3 zeroA.pg.cos.length cc3, .int .i64 zeroA.pg.cur, .bool zeroA.pg.more] _)
   have hwzz : (w3.alloc (.cells #[.slice fa3 zeroH.fos.length fc3, .slice ga3 zeroH.gs.length gc3, .slice sa3 zeroH.ss.length sc3, .int .i64 zeroH.nx, .int .i64 zeroH.la, .int .i64 zeroH.ro, .int .i64 zeroH.now] 28)).alloc (.cells #[.int .i64 zeroA.err, .int .i64 zeroA.num, .bool zeroA.pg.reset, .slice ta3 zeroA.pg.tree.length tc3, .slice ca3 zeroA.pg.cos.length cc3, .int .i64 zeroA.pg.cur, .bool zeroA.pg.more] 39) = w4 := by rw [hwz, hwa]
   have HWZ := hid hwzz
   have HU3 := hid (hu3.below hbs3)
   have HN3 := hid (ha3.below hbs3)
   have hls3 : w3.heap.size + 1 < w4.heap.size := HA3.out.lt
   clear hwa hwz bwa bwz sa1 hwzz hu3 ha3
   go_upto_region 4 with fail
   rw [HWZ.out]
   clear HWZ
   have hb04 := below_tr hb03 hbs3
   have HX4 := hid (HX3q.out.below hbs3)
   have x0 := HX4.out.cell 0 rfl
   have x1 := HX4.out.cell 1 rfl
   have x2 := HX4.out.cell 2 rfl
   have x3 := HX4.out.cell 3 rfl
   have x4 := HX4.out.cell 4 rfl
   have x5 := HX4.out.cell 5 rfl
   have x6 := HX4.out.cell 6 rfl
   go_wp2_with fail
   refine (hcheck_any H _ w4 (HV.out.below hb04) HS.out).mono ?_
   rintro e w5 ⟨rfl, hb5⟩
   rw [← HRR.out]
   have hb05 := below_tr hb04 hb5
   go_wp2_with fail
   go_ret
   exact ⟨rfl, hb05⟩
end Go.Proofs.YtchlgpeiombmdaaGreat
