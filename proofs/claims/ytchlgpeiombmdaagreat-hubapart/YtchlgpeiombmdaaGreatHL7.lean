/- What the law HubApart answers: true, for every hub and every two requests. -/
import Derived.Test.YtchlgpeiombmdaaGreatKG
import Derived.Test.YtchlgpeiombmdaaGreatKH
import Derived.Test.YtchlgpeiombmdaaGreatH39
import Derived.Deep.DeepCutAuto
set_option linter.unusedSimpArgs false
set_option linter.unusedVariables false
namespace Go.Proofs.YtchlgpeiombmdaaGreat
open Go.RowKit

set_option maxRecDepth 100000 in
set_option maxHeartbeats 8000000 in
theorem hubApart_walk (H : Hb) (q o : Rq) (v vq vo : Value) (w : World) (hv : LiesH w v H) (hs : SizedH H) (hq : LiesQ w vq q) (hsq : SizedQ q) (ho : LiesQ w vo o) (hso : SizedQ o) :
    Calls Tryz.prog 5 #[v, vq, vo] w fun e w' => e = .returned (.bool true) ∧ Below w.heap.size w w' := by
 have HV := hid hv
 have HS := hid hs
 obtain ⟨fa, fc, ga, gc, sa, sc, rfl⟩ := hv.shape
 have HQQ := hid hq
 have HSQ := hid hsq
 have HOO := hid ho
 have HSO := hid hso
 obtain ⟨va, rfl, lq⟩ := hq
 obtain ⟨qa, qc, rfl, _⟩ := lq
 obtain ⟨va, rfl, lo⟩ := ho
 obtain ⟨oa, oc, rfl, _⟩ := lo
 obtain ⟨wa, hwa⟩ : ∃ wa, wa = w.alloc (.cells #[.slice fa H.fos.length fc, .slice ga H.gs.length gc, .slice sa H.ss.length sc, .int .i64 H.nx, .int .i64 H.la, .int .i64 H.ro, .int .i64 H.now] 28) := ⟨_, rfl⟩
 obtain ⟨wb, hwb⟩ : ∃ wb, wb = wa.alloc (.cells #[.int .i64 q.kind, .string q.who, .string q.fo, .string q.name, .string q.key, .string q.text, .int .i64 q.num, .int .i64 q.off, .int .i64 q.base, .slice qa q.ch.length qc] 31) := ⟨_, rfl⟩
 obtain ⟨wz, hwz⟩ : ∃ wz, wz = wb.alloc (.cells #[.int .i64 o.kind, .string o.who, .string o.fo, .string o.name, .string o.key, .string o.text, .int .i64 o.num, .int .i64 o.off, .int .i64 o.base, .slice oa o.ch.length oc] 31) := ⟨_, rfl⟩
 have sa1 : wa.heap.size = w.heap.size + 1 := by rw [hwa]; simp
 have sb1 : wb.heap.size = w.heap.size + 1 + 1 := by rw [hwb]; simp [sa1]
 have bwa : Below w.heap.size w wa := by rw [hwa]; exact (Below.refl _ _).alloc (Nat.le_refl _) _
 have bwb : Below wa.heap.size wa wb := by rw [hwb]; exact (Below.refl _ _).alloc (Nat.le_refl _) _
 have bwz : Below wb.heap.size wb wz := by rw [hwz]; exact (Below.refl _ _).alloc (Nat.le_refl _) _
 have hbz : Below w.heap.size w wz := below_tr bwa (below_tr bwb bwz)
 have HX : Hid (Cs wz w.heap.size [.slice fa H.fos.length fc, .slice ga H.gs.length gc, .slice sa H.ss.length sc, .int .i64 H.nx, .int .i64 H.la, .int .i64 H.ro, .int .i64 H.now]) := (((by rw [hwa]; exact Cs.new w [.slice fa H.fos.length fc, .slice ga H.gs.length gc, .slice sa H.ss.length sc, .int .i64 H.nx, .int .i64 H.la, .int .i64 H.ro, .int .i64 H.now] _ : Cs wa w.heap.size [.slice fa H.fos.length fc, .slice ga H.gs.length gc, .slice sa H.ss.length sc, .int .i64 H.nx, .int .i64 H.la, .int .i64 H.ro, .int .i64 H.now]).below bwb).below bwz : Cs wz w.heap.size _)
 have HQX := hid (show Cs wz (w.heap.size + 1) [.int .i64 q.kind, .string q.who, .string q.fo, .string q.name, .string q.key, .string q.text, .int .i64 q.num, .int .i64 q.off, .int .i64 q.base, .slice qa q.ch.length qc] from (by rw [← sa1, hwb]; exact Cs.new wa [.int .i64 q.kind, .string q.who, .string q.fo, .string q.name, .string q.key, .string q.text, .int .i64 q.num, .int .i64 q.off, .int .i64 q.base, .slice qa q.ch.length qc] _ : Cs wb (w.heap.size + 1) [.int .i64 q.kind, .string q.who, .string q.fo, .string q.name, .string q.key, .string q.text, .int .i64 q.num, .int .i64 q.off, .int .i64 q.base, .slice qa q.ch.length qc]).below bwz)
 have HOX := hid (show Cs wz (w.heap.size + 1 + 1) [.int .i64 o.kind, .string o.who, .string o.fo, .string o.name, .string o.key, .string o.text, .int .i64 o.num, .int .i64 o.off, .int .i64 o.base, .slice oa o.ch.length oc] from by rw [← sb1, hwz]; exact Cs.new wb [.int .i64 o.kind, .string o.who, .string o.fo, .string o.name, .string o.key, .string o.text, .int .i64 o.num, .int .i64 o.off, .int .i64 o.base, .slice oa o.ch.length oc] _)
 have hwzz : ((w.alloc (.cells #[.slice fa H.fos.length fc, .slice ga H.gs.length gc, .slice sa H.ss.length sc, .int .i64 H.nx, .int .i64 H.la, .int .i64 H.ro, .int .i64 H.now] 28)).alloc (.cells #[.int .i64 q.kind, .string q.who, .string q.fo, .string q.name, .string q.key, .string q.text, .int .i64 q.num, .int .i64 q.off, .int .i64 q.base, .slice qa q.ch.length qc] 31)).alloc (.cells #[.int .i64 o.kind, .string o.who, .string o.fo, .string o.name, .string o.key, .string o.text, .int .i64 o.num, .int .i64 o.off, .int .i64 o.base, .slice oa o.ch.length oc] 31) = wz := by rw [hwz, hwb, hwa]
 have HWZ := hid hwzz
 clear hwa hwb hwz bwa bwb bwz sa1 sb1 hwzz hv hs hsq hso
 go_enter Tryz.func5, Tryz.ntmps5
 go_upto_region 1 with fail
 rw [HWZ.out]
 clear HWZ
 obtain ⟨F, hF⟩ : ∃ F, F = (o.fo.toList == q.fo.toList) := ⟨_, rfl⟩
 have HFF := hid hF
 obtain ⟨B, hB⟩ : ∃ B : Bool, B = (!(decide (q.kind = 2) || decide (q.kind = 1)) || F) := ⟨_, rfl⟩
 have HBB := hid hB
 clear hF hB
 go_cut [35] (fun t W => t = .bool B ∧ Below wz.heap.size wz W)
 case first =>
  go_wp2_with fail
  refine (hubBegun_yes _).mono ?_
  rintro e w1 ⟨rfl, hb1⟩
  have y0 := (HQX.out.below hb1).cell 0 rfl
  have y2 := (HQX.out.below hb1).cell 2 rfl
  have z2 := (HOX.out.below hb1).cell 2 rfl
  by_cases hk2 : q.kind = 2
  · rw [hk2] at y0
    have HB2 := hid (show B = F from by rw [HBB.out, hk2]; simp)
    clear hk2
    go_wp2_with fail
    go_meet
    case rel => exact ⟨by rw [HB2.out, HFF.out], hb1⟩
  · by_cases hk1 : q.kind = 1
    · rw [hk1] at y0
      have HB2 := hid (show B = F from by rw [HBB.out, hk1]; simp)
      clear hk1 hk2
      go_wp2_with fail
      go_meet
      case rel => exact ⟨by rw [HB2.out, HFF.out], hb1⟩
    · have b2 : (q.kind != 2) = true := by simpa using hk2
      have b1 : (q.kind != 1) = true := by simpa using hk1
      have HB2 := hid (show B = true from by rw [HBB.out]; simp [hk1, hk2])
      clear hk1 hk2
      go_wp2_with fail
      go_meet
      case rel => exact ⟨by rw [HB2.out], hb1⟩
 case rest =>
  obtain ⟨rfl, hb1⟩ := hcut
  have hb01 := below_tr hbz hb1
  cases hBv : B with
  | true =>
   subst hBv
   clear HBB
   go_wp2_with fail
   refine (hubBegun_yes _).mono ?_
   rintro e w2 ⟨rfl, hb2⟩
   have hb02 := below_tr hb01 hb2
   go_wp2_with fail
   go_ret
   exact ⟨rfl, hb02⟩
  | false =>
   subst hBv
   have HKF := hid (show (q.kind = 2 ∨ q.kind = 1) ∧ ¬ q.fo.data.toList = o.fo.data.toList from by
    have h := HBB.out
    have hF : F = false := by cases hF : F with
     | true => rw [hF] at h; simp at h
     | false => rfl
    rw [hF] at h
    refine ⟨?_, fun e => ?_⟩
    · by_cases h2 : q.kind = 2
      · exact Or.inl h2
      · right
        simp [h2] at h
        exact h
    · have h2 := HFF.out
      rw [hF] at h2
      have : (o.fo.toList == q.fo.toList) = true := by rw [Lib.toList_data, Lib.toList_data, e]; simp
      rw [this] at h2; exact Bool.noConfusion h2)
   clear HBB HFF
   have HX1 := hid (HX.out.below hb1)
   have HQ1 := hid (HQX.out.below hb1)
   have HO1 := hid (HOX.out.below hb1)
   have x0 := HX1.out.cell 0 rfl
   have x1 := HX1.out.cell 1 rfl
   have x2 := HX1.out.cell 2 rfl
   have x3 := HX1.out.cell 3 rfl
   have x4 := HX1.out.cell 4 rfl
   have x5 := HX1.out.cell 5 rfl
   have x6 := HX1.out.cell 6 rfl
   have y0 := HO1.out.cell 0 rfl
   have y1 := HO1.out.cell 1 rfl
   have y2 := HO1.out.cell 2 rfl
   have y3 := HO1.out.cell 3 rfl
   have y4 := HO1.out.cell 4 rfl
   have y5 := HO1.out.cell 5 rfl
   have y6 := HO1.out.cell 6 rfl
   have y7 := HO1.out.cell 7 rfl
   have y8 := HO1.out.cell 8 rfl
   have y9 := HO1.out.cell 9 rfl
   by_cases h0 : Hu.hE H = 0
   · have H0 := hid h0
     clear h0
     go_wp2_with fail
     refine (serve_any H o _ _ _ (HV.out.below hb01) HS.out (HOO.out.below hb01) HSO.out H0.out).mono ?_
     rintro e w3 ⟨u3, a3, rfl, hu3, ha3, hb3⟩
     obtain ⟨H1, hH1⟩ : ∃ H1, H1 = Hu.svH H o := ⟨_, rfl⟩
     obtain ⟨A1, hA1⟩ : ∃ A1, A1 = Hu.svA H o := ⟨_, rfl⟩
     have HHE := hid (show Hu.hE H1 = 0 ∧ SizedH H1 from by rw [hH1]; exact ⟨Hu.sv_he H0.out, Hu.sv_sized H0.out HS.out HSO.out⟩)
     have HAL := hid (show Hu.svA H1 q = Hu.svA H q ∧ Hu.trE (Hu.svH H1 q) q.fo = Hu.trE (Hu.svH H q) q.fo ∧ Hu.trR (Hu.svH H1 q) q.fo = Hu.trR (Hu.svH H q) q.fo from by rw [hH1]; exact Hu.ap_all H0.out HKF.out.2 HKF.out.1)
     rw [← hH1] at hu3
     rw [← hA1] at ha3
     clear hH1 hA1 x0 x1 x2 x3 x4 x5 x6 y0 y1 y2 y3 y4 y5 y6 y7 y8 y9
     have HX3q := hid (HX1.out.below hb3)
     have HQ3q := hid (HQ1.out.below hb3)
     have hb03 := below_tr hb01 hb3
     obtain ⟨fa3, fc3, ga3, gc3, sa3, sc3, rfl⟩ := hu3.shape
     obtain ⟨ta3, tc3, ca3, cc3, rfl⟩ := ha3.shape
     obtain ⟨wa, hwa⟩ : ∃ wa, wa = w3.alloc (.cells #[.slice fa3 H1.fos.length fc3, .slice ga3 H1.gs.length gc3, .slice sa3 H1.ss.length sc3, .int .i64 H1.nx, .int .i64 H1.la, .int .i64 H1.ro, .int .i64 H1.now] 28) := ⟨_, rfl⟩
     obtain ⟨w4, hwz⟩ : ∃ wz, wz = wa.alloc (.cells #[.int .i64 A1.err, .int .i64 A1.num, .bool A1.pg.reset, .slice ta3 A1.pg.tree.length tc3, .slice ca3 A1.pg.cos.length cc3, .int .i64 A1.pg.cur, .bool A1.pg.more] 39) := ⟨_, rfl⟩
     have sa1 : wa.heap.size = w3.heap.size + 1 := by rw [hwa]; simp
     have bwa : Below w3.heap.size w3 wa := by rw [hwa]; exact (Below.refl _ _).alloc (Nat.le_refl _) _
     have bwz : Below wa.heap.size wa w4 := by rw [hwz]; exact (Below.refl _ _).alloc (Nat.le_refl _) _
     have hbs3 : Below w3.heap.size w3 w4 := below_tr bwa bwz
     have HX3 : Hid (Cs w4 w3.heap.size [.slice fa3 H1.fos.length fc3, .slice ga3 H1.gs.length gc3, .slice sa3 H1.ss.length sc3, .int .i64 H1.nx, .int .i64 H1.la, .int .i64 H1.ro, .int .i64 H1.now]) := ((by rw [hwa]; exact Cs.new w3 [.slice fa3 H1.fos.length fc3, .slice ga3 H1.gs.length gc3, .slice sa3 H1.ss.length sc3, .int .i64 H1.nx, .int .i64 H1.la, .int .i64 H1.ro, .int .i64 H1.now] _ : Cs wa w3.heap.size [.slice fa3 H1.fos.length fc3, .slice ga3 H1.gs.length gc3, .slice sa3 H1.ss.length sc3, .int .i64 H1.nx, .int .i64 H1.la, .int .i64 H1.ro, .int .i64 H1.now]).below bwz : Cs w4 w3.heap.size _)
     have HA3 := hid (show Cs w4 (w3.heap.size + 1) [.int .i64 A1.err, .int .i64 A1.num, .bool A1.pg.reset, .slice ta3 A1.pg.tree.length tc3, .slice ca3 A1.pg.cos.length cc3, .int .i64 A1.pg.cur, .bool A1.pg.more] from by rw [← sa1, hwz]; exact Cs.new wa [.int .i64 A1.err, .int .i64 A1.num, .bool A1.pg.reset, .slice ta3 A1.pg.tree.length tc3, .slice ca3 A1.pg.cos.length cc3, .int .i64 A1.pg.cur, .bool A1.pg.more] _)
     have hwzz : (w3.alloc (.cells #[.slice fa3 H1.fos.length fc3, .slice ga3 H1.gs.length gc3, .slice sa3 H1.ss.length sc3, .int .i64 H1.nx, .int .i64 H1.la, .int .i64 H1.ro, .int .i64 H1.now] 28)).alloc (.cells #[.int .i64 A1.err, .int .i64 A1.num, .bool A1.pg.reset, .slice ta3 A1.pg.tree.length tc3, .slice ca3 A1.pg.cos.length cc3, .int .i64 A1.pg.cur, .bool A1.pg.more] 39) = w4 := by rw [hwz, hwa]
     have HWZ := hid hwzz
     have HU3 := hid (hu3.below hbs3)
     have HN3 := hid (ha3.below hbs3)
     have hls3 : w3.heap.size + 1 < w4.heap.size := HA3.out.lt
     clear hwa hwz bwa bwz sa1 hwzz hu3 ha3
     go_upto_region 4 with fail
     rw [HWZ.out]
     clear HWZ
     have hb04 := below_tr hb03 hbs3
     have HX4 := hid (HX3q.out.below hbs3)
     have HQ4 := hid (HQ3q.out.below hbs3)
     have x0 := HX4.out.cell 0 rfl
     have x1 := HX4.out.cell 1 rfl
     have x2 := HX4.out.cell 2 rfl
     have x3 := HX4.out.cell 3 rfl
     have x4 := HX4.out.cell 4 rfl
     have x5 := HX4.out.cell 5 rfl
     have x6 := HX4.out.cell 6 rfl
     have y0 := HQ4.out.cell 0 rfl
     have y1 := HQ4.out.cell 1 rfl
     have y2 := HQ4.out.cell 2 rfl
     have y3 := HQ4.out.cell 3 rfl
     have y4 := HQ4.out.cell 4 rfl
     have y5 := HQ4.out.cell 5 rfl
     have y6 := HQ4.out.cell 6 rfl
     have y7 := HQ4.out.cell 7 rfl
     have y8 := HQ4.out.cell 8 rfl
     have y9 := HQ4.out.cell 9 rfl
     go_wp2_with fail
     refine (serve_any H q _ _ w4 (HV.out.below hb04) HS.out (HQQ.out.below hb04) HSQ.out H0.out).mono ?_
     rintro e w5 ⟨u5, a5, rfl, hu5, ha5, hb5⟩
     obtain ⟨H2, hH2⟩ : ∃ H2, H2 = Hu.svH H q := ⟨_, rfl⟩
     obtain ⟨A2, hA2⟩ : ∃ A2, A2 = Hu.svA H q := ⟨_, rfl⟩
     have HHE2 := hid (show SizedH H2 from by rw [hH2]; exact Hu.sv_sized H0.out HS.out HSQ.out)
     rw [← hH2] at hu5 HAL
     rw [← hA2] at ha5 HAL
     clear hH2 hA2 x0 x1 x2 x3 x4 x5 x6 y0 y1 y2 y3 y4 y5 y6 y7 y8 y9
     have HK5q := hid (HX3.out.below hb5)
     have HQ5q := hid (HQ4.out.below hb5)
     have HU35 := hid (HU3.out.below hb5)
     have hb05 := below_tr hb04 hb5
     obtain ⟨fa5, fc5, ga5, gc5, sa5, sc5, rfl⟩ := hu5.shape
     obtain ⟨ta5, tc5, ca5, cc5, rfl⟩ := ha5.shape
     obtain ⟨wa, hwa⟩ : ∃ wa, wa = w5.alloc (.cells #[.slice fa5 H2.fos.length fc5, .slice ga5 H2.gs.length gc5, .slice sa5 H2.ss.length sc5, .int .i64 H2.nx, .int .i64 H2.la, .int .i64 H2.ro, .int .i64 H2.now] 28) := ⟨_, rfl⟩
     obtain ⟨w6, hwz⟩ : ∃ wz, wz = wa.alloc (.cells #[.int .i64 A2.err, .int .i64 A2.num, .bool A2.pg.reset, .slice ta5 A2.pg.tree.length tc5, .slice ca5 A2.pg.cos.length cc5, .int .i64 A2.pg.cur, .bool A2.pg.more] 39) := ⟨_, rfl⟩
     have sa1 : wa.heap.size = w5.heap.size + 1 := by rw [hwa]; simp
     have bwa : Below w5.heap.size w5 wa := by rw [hwa]; exact (Below.refl _ _).alloc (Nat.le_refl _) _
     have bwz : Below wa.heap.size wa w6 := by rw [hwz]; exact (Below.refl _ _).alloc (Nat.le_refl _) _
     have hbs5 : Below w5.heap.size w5 w6 := below_tr bwa bwz
     have HX5 : Hid (Cs w6 w5.heap.size [.slice fa5 H2.fos.length fc5, .slice ga5 H2.gs.length gc5, .slice sa5 H2.ss.length sc5, .int .i64 H2.nx, .int .i64 H2.la, .int .i64 H2.ro, .int .i64 H2.now]) := ((by rw [hwa]; exact Cs.new w5 [.slice fa5 H2.fos.length fc5, .slice ga5 H2.gs.length gc5, .slice sa5 H2.ss.length sc5, .int .i64 H2.nx, .int .i64 H2.la, .int .i64 H2.ro, .int .i64 H2.now] _ : Cs wa w5.heap.size [.slice fa5 H2.fos.length fc5, .slice ga5 H2.gs.length gc5, .slice sa5 H2.ss.length sc5, .int .i64 H2.nx, .int .i64 H2.la, .int .i64 H2.ro, .int .i64 H2.now]).below bwz : Cs w6 w5.heap.size _)
     have HA5 := hid (show Cs w6 (w5.heap.size + 1) [.int .i64 A2.err, .int .i64 A2.num, .bool A2.pg.reset, .slice ta5 A2.pg.tree.length tc5, .slice ca5 A2.pg.cos.length cc5, .int .i64 A2.pg.cur, .bool A2.pg.more] from by rw [← sa1, hwz]; exact Cs.new wa [.int .i64 A2.err, .int .i64 A2.num, .bool A2.pg.reset, .slice ta5 A2.pg.tree.length tc5, .slice ca5 A2.pg.cos.length cc5, .int .i64 A2.pg.cur, .bool A2.pg.more] _)
     have hwzz : (w5.alloc (.cells #[.slice fa5 H2.fos.length fc5, .slice ga5 H2.gs.length gc5, .slice sa5 H2.ss.length sc5, .int .i64 H2.nx, .int .i64 H2.la, .int .i64 H2.ro, .int .i64 H2.now] 28)).alloc (.cells #[.int .i64 A2.err, .int .i64 A2.num, .bool A2.pg.reset, .slice ta5 A2.pg.tree.length tc5, .slice ca5 A2.pg.cos.length cc5, .int .i64 A2.pg.cur, .bool A2.pg.more] 39) = w6 := by rw [hwz, hwa]
     have HWZ := hid hwzz
     have HU5 := hid (hu5.below hbs5)
     have HN5 := hid (ha5.below hbs5)
     have hls5 : w5.heap.size + 1 < w6.heap.size := HA5.out.lt
     clear hwa hwz bwa bwz sa1 hwzz hu5 ha5
     go_upto_region 7 with fail
     rw [HWZ.out]
     clear HWZ
     have hb06 := below_tr hb05 hbs5
     have HK6 := hid (HK5q.out.below hbs5)
     have HQ6 := hid (HQ5q.out.below hbs5)
     have HU36 := hid (HU35.out.below hbs5)
     have x0 := HK6.out.cell 0 rfl
     have x1 := HK6.out.cell 1 rfl
     have x2 := HK6.out.cell 2 rfl
     have x3 := HK6.out.cell 3 rfl
     have x4 := HK6.out.cell 4 rfl
     have x5 := HK6.out.cell 5 rfl
     have x6 := HK6.out.cell 6 rfl
     have y0 := HQ6.out.cell 0 rfl
     have y1 := HQ6.out.cell 1 rfl
     have y2 := HQ6.out.cell 2 rfl
     have y3 := HQ6.out.cell 3 rfl
     have y4 := HQ6.out.cell 4 rfl
     have y5 := HQ6.out.cell 5 rfl
     have y6 := HQ6.out.cell 6 rfl
     have y7 := HQ6.out.cell 7 rfl
     have y8 := HQ6.out.cell 8 rfl
     have y9 := HQ6.out.cell 9 rfl
     go_wp2_with fail
     refine (serve_any H1 q _ _ w6 HU36.out HHE.out.2 (HQQ.out.below hb06) HSQ.out HHE.out.1).mono ?_
     rintro e w7 ⟨u7, a7, rfl, hu7, ha7, hb7⟩
     rw [HAL.out.1] at ha7
     obtain ⟨H3, hH3⟩ : ∃ H3, H3 = Hu.svH H1 q := ⟨_, rfl⟩
     have HHE3 := hid (show SizedH H3 from by rw [hH3]; exact Hu.sv_sized HHE.out.1 HHE.out.2 HSQ.out)
     rw [← hH3] at hu7 HAL
     clear hH3 x0 x1 x2 x3 x4 x5 x6 y0 y1 y2 y3 y4 y5 y6 y7 y8 y9
     have HX57q := hid (HX5.out.below hb7)
     have HA57q := hid (HA5.out.below hb7)
     have HQ7q := hid (HQ6.out.below hb7)
     have HU57q := hid (HU5.out.below hb7)
     have HN57q := hid (HN5.out.below hb7)
     have hb07 := below_tr hb06 hb7
     obtain ⟨fa7, fc7, ga7, gc7, sa7, sc7, rfl⟩ := hu7.shape
     obtain ⟨ta7, tc7, ca7, cc7, rfl⟩ := ha7.shape
     obtain ⟨wa, hwa⟩ : ∃ wa, wa = w7.alloc (.cells #[.slice fa7 H3.fos.length fc7, .slice ga7 H3.gs.length gc7, .slice sa7 H3.ss.length sc7, .int .i64 H3.nx, .int .i64 H3.la, .int .i64 H3.ro, .int .i64 H3.now] 28) := ⟨_, rfl⟩
     obtain ⟨w8, hwz⟩ : ∃ wz, wz = wa.alloc (.cells #[.int .i64 A2.err, .int .i64 A2.num, .bool A2.pg.reset, .slice ta7 A2.pg.tree.length tc7, .slice ca7 A2.pg.cos.length cc7, .int .i64 A2.pg.cur, .bool A2.pg.more] 39) := ⟨_, rfl⟩
     have sa1 : wa.heap.size = w7.heap.size + 1 := by rw [hwa]; simp
     have bwa : Below w7.heap.size w7 wa := by rw [hwa]; exact (Below.refl _ _).alloc (Nat.le_refl _) _
     have bwz : Below wa.heap.size wa w8 := by rw [hwz]; exact (Below.refl _ _).alloc (Nat.le_refl _) _
     have hbs7 : Below w7.heap.size w7 w8 := below_tr bwa bwz
     have HX7 : Hid (Cs w8 w7.heap.size [.slice fa7 H3.fos.length fc7, .slice ga7 H3.gs.length gc7, .slice sa7 H3.ss.length sc7, .int .i64 H3.nx, .int .i64 H3.la, .int .i64 H3.ro, .int .i64 H3.now]) := ((by rw [hwa]; exact Cs.new w7 [.slice fa7 H3.fos.length fc7, .slice ga7 H3.gs.length gc7, .slice sa7 H3.ss.length sc7, .int .i64 H3.nx, .int .i64 H3.la, .int .i64 H3.ro, .int .i64 H3.now] _ : Cs wa w7.heap.size [.slice fa7 H3.fos.length fc7, .slice ga7 H3.gs.length gc7, .slice sa7 H3.ss.length sc7, .int .i64 H3.nx, .int .i64 H3.la, .int .i64 H3.ro, .int .i64 H3.now]).below bwz : Cs w8 w7.heap.size _)
     have HA7 := hid (show Cs w8 (w7.heap.size + 1) [.int .i64 A2.err, .int .i64 A2.num, .bool A2.pg.reset, .slice ta7 A2.pg.tree.length tc7, .slice ca7 A2.pg.cos.length cc7, .int .i64 A2.pg.cur, .bool A2.pg.more] from by rw [← sa1, hwz]; exact Cs.new wa [.int .i64 A2.err, .int .i64 A2.num, .bool A2.pg.reset, .slice ta7 A2.pg.tree.length tc7, .slice ca7 A2.pg.cos.length cc7, .int .i64 A2.pg.cur, .bool A2.pg.more] _)
     have hwzz : (w7.alloc (.cells #[.slice fa7 H3.fos.length fc7, .slice ga7 H3.gs.length gc7, .slice sa7 H3.ss.length sc7, .int .i64 H3.nx, .int .i64 H3.la, .int .i64 H3.ro, .int .i64 H3.now] 28)).alloc (.cells #[.int .i64 A2.err, .int .i64 A2.num, .bool A2.pg.reset, .slice ta7 A2.pg.tree.length tc7, .slice ca7 A2.pg.cos.length cc7, .int .i64 A2.pg.cur, .bool A2.pg.more] 39) = w8 := by rw [hwz, hwa]
     have HWZ := hid hwzz
     have HU7 := hid (hu7.below hbs7)
     have HN7 := hid (ha7.below hbs7)
     have hls7 : w7.heap.size + 1 < w8.heap.size := HA7.out.lt
     clear hwa hwz bwa bwz sa1 hwzz hu7 ha7
     go_upto_region 8 with fail
     rw [HWZ.out]
     clear HWZ
     have hb08 := below_tr hb07 hbs7
     have HX58 := hid (HX57q.out.below hbs7)
     have HA58 := hid (HA57q.out.below hbs7)
     have HQ8 := hid (HQ7q.out.below hbs7)
     have HU58 := hid (HU57q.out.below hbs7)
     have HN58 := hid (HN57q.out.below hbs7)
     have x0 := HA58.out.cell 0 rfl
     have x1 := HA58.out.cell 1 rfl
     have x2 := HA58.out.cell 2 rfl
     have x3 := HA58.out.cell 3 rfl
     have x4 := HA58.out.cell 4 rfl
     have x5 := HA58.out.cell 5 rfl
     have x6 := HA58.out.cell 6 rfl
     have y0 := HA7.out.cell 0 rfl
     have y1 := HA7.out.cell 1 rfl
     have y2 := HA7.out.cell 2 rfl
     have y3 := HA7.out.cell 3 rfl
     have y4 := HA7.out.cell 4 rfl
     have y5 := HA7.out.cell 5 rfl
     have y6 := HA7.out.cell 6 rfl
     go_wp2_with fail
     refine (sameAnswer_yes A2 _ _ w8 HN58.out HN7.out).mono ?_
     rintro e w9 ⟨rfl, hb9⟩
     have hb09 := below_tr hb08 hb9
     clear x0 x1 x2 x3 x4 x5 x6 y0 y1 y2 y3 y4 y5 y6
     have HX59 := hid (HX58.out.below hb9)
     have HX79 := hid (HX7.out.below hb9)
     have HQ9 := hid (HQ8.out.below hb9)
     have HU59 := hid (HU58.out.below hb9)
     have HU79 := hid (HU7.out.below hb9)
     have x0 := HX59.out.cell 0 rfl
     have x1 := HX59.out.cell 1 rfl
     have x2 := HX59.out.cell 2 rfl
     have x3 := HX59.out.cell 3 rfl
     have x4 := HX59.out.cell 4 rfl
     have x5 := HX59.out.cell 5 rfl
     have x6 := HX59.out.cell 6 rfl
     have y2 := HQ9.out.cell 2 rfl
     go_wp2_with fail
     refine (htree_any H2 _ q.fo w9 HU59.out HHE2.out HSQ.out.fo).mono ?_
     rintro e wc2 ⟨t7, rfl, hl7, hbc⟩
     have HL7 := hid hl7
     have hb0c := below_tr hb09 hbc
     have HX7c := hid (HX79.out.below hbc)
     have HQc := hid (HQ9.out.below hbc)
     have HU7c := hid (HU79.out.below hbc)
     clear hl7 x0 x1 x2 x3 x4 x5 x6 y2
     have x0 := HX7c.out.cell 0 rfl
     have x1 := HX7c.out.cell 1 rfl
     have x2 := HX7c.out.cell 2 rfl
     have x3 := HX7c.out.cell 3 rfl
     have x4 := HX7c.out.cell 4 rfl
     have x5 := HX7c.out.cell 5 rfl
     have x6 := HX7c.out.cell 6 rfl
     have y2 := HQc.out.cell 2 rfl
     obtain ⟨E, hE⟩ : ∃ E, E = Hu.trE H2 q.fo := ⟨_, rfl⟩
     rw [← hE] at HAL
     rw [← hE]
     clear hE
     go_wp2_with fail
     refine (htree_any H3 _ q.fo wc2 HU7c.out HHE3.out HSQ.out.fo).mono ?_
     rintro e wd ⟨t8, rfl, hl8, hbd⟩
     rw [HAL.out.2.1]
     rw [HAL.out.2.2] at hl8
     have HL8 := hid hl8
     have hb0d := below_tr hb0c hbd
     clear hl8 x0 x1 x2 x3 x4 x5 x6 y2
     go_wp2_with fail
     refine (same_yes (Hu.trR H2 q.fo) _ _ _ (HL7.out.below hbd) HL8.out).mono ?_
     rintro e we ⟨rfl, hbe⟩
     have hb0e := below_tr hb0d hbe
     go_wp2_with fail
     go_ret
     exact ⟨rfl, hb0e⟩
   · obtain ⟨r, hrr⟩ : ∃ r, r = Hu.hE H := ⟨_, rfl⟩
     have H0 : Hid (¬ Hu.hE H = 0) := h0
     have hz2 : (r != 0) = true := by rw [hrr]; simpa using h0
     have hz : (r == 0) = false := by rw [hrr]; simpa using h0
     have HRR := hid hrr
     clear h0 hrr
     go_wp2_with fail
     refine (serve_bad H o _ _ _ (HV.out.below hb01) HS.out (HOO.out.below hb01) H0.out).mono ?_
     rintro e w3 ⟨u3, a3, rfl, hu3, ha3, hb3⟩
     rw [← HRR.out]
     clear x0 x1 x2 x3 x4 x5 x6 y0 y1 y2 y3 y4 y5 y6 y7 y8 y9
     have hb03 := below_tr hb01 hb3
     obtain ⟨fa3, fc3, ga3, gc3, sa3, sc3, rfl⟩ := hu3.shape
     obtain ⟨ta3, tc3, ca3, cc3, rfl⟩ := ha3.shape
     obtain ⟨wa, hwa⟩ : ∃ wa, wa = w3.alloc (.cells #[.slice fa3 zeroH.fos.length fc3, .slice ga3 zeroH.gs.length gc3, .slice sa3 zeroH.ss.length sc3, .int .i64 zeroH.nx, .int .i64 zeroH.la, .int .i64 zeroH.ro, .int .i64 zeroH.now] 28) := ⟨_, rfl⟩
     obtain ⟨w4, hwz⟩ : ∃ wz, wz = wa.alloc (.cells #[.int .i64 zeroA.err, .int .i64 zeroA.num, .bool zeroA.pg.reset, .slice ta3 zeroA.pg.tree.length tc3, .slice ca3 zeroA.pg.cos.length cc3, .int .i64 zeroA.pg.cur, .bool zeroA.pg.more] 39) := ⟨_, rfl⟩
     have sa1 : wa.heap.size = w3.heap.size + 1 := by rw [hwa]; simp
     have bwa : Below w3.heap.size w3 wa := by rw [hwa]; exact (Below.refl _ _).alloc (Nat.le_refl _) _
     have bwz : Below wa.heap.size wa w4 := by rw [hwz]; exact (Below.refl _ _).alloc (Nat.le_refl _) _
     have hbs3 : Below w3.heap.size w3 w4 := below_tr bwa bwz
     have HX3 : Hid (Cs w4 w3.heap.size [.slice fa3 zeroH.fos.length fc3, .slice ga3 zeroH.gs.length gc3, .slice sa3 zeroH.ss.length sc3, .int .i64 zeroH.nx, .int .i64 zeroH.la, .int .i64 zeroH.ro, .int .i64 zeroH.now]) := ((by rw [hwa]; exact Cs.new w3 [.slice fa3 zeroH.fos.length fc3, .slice ga3 zeroH.gs.length gc3, .slice sa3 zeroH.ss.length sc3, .int .i64 zeroH.nx, .int .i64 zeroH.la, .int .i64 zeroH.ro, .int .i64 zeroH.now] _ : Cs wa w3.heap.size [.slice fa3 zeroH.fos.length fc3, .slice ga3 zeroH.gs.length gc3, .slice sa3 zeroH.ss.length sc3, .int .i64 zeroH.nx, .int .i64 zeroH.la, .int .i64 zeroH.ro, .int .i64 zeroH.now]).below bwz : Cs w4 w3.heap.size _)
     have HA3 := hid (show Cs w4 (w3.heap.size + 1) [.int .i64 zeroA.err, .int .i64 zeroA.num, .bool zeroA.pg.reset, .slice ta3 zeroA.pg.tree.length tc3, .slice ca3 zeroA.pg.cos.length cc3, .int .i64 zeroA.pg.cur, .bool zeroA.pg.more] from by rw [← sa1, hwz]; exact Cs.new wa [.int .i64 zeroA.err, .int .i64 zeroA.num, .bool zeroA.pg.reset, .slice ta3 zeroA.pg.tree.length tc3, .slice ca3 zeroA.pg.cos.length cc3, .int .i64 zeroA.pg.cur, .bool zeroA.pg.more] _)
     have hwzz : (w3.alloc (.cells #[.slice fa3 zeroH.fos.length fc3, .slice ga3 zeroH.gs.length gc3, .slice sa3 zeroH.ss.length sc3, .int .i64 zeroH.nx, .int .i64 zeroH.la, .int .i64 zeroH.ro, .int .i64 zeroH.now] 28)).alloc (.cells #[.int .i64 zeroA.err, .int .i64 zeroA.num, .bool zeroA.pg.reset, .slice ta3 zeroA.pg.tree.length tc3, .slice ca3 zeroA.pg.cos.length cc3, .int .i64 zeroA.pg.cur, .bool zeroA.pg.more] 39) = w4 := by rw [hwz, hwa]
     have HWZ := hid hwzz
     have HU3 := hid (hu3.below hbs3)
     have HN3 := hid (ha3.below hbs3)
     have hls3 : w3.heap.size + 1 < w4.heap.size := HA3.out.lt
     clear hwa hwz bwa bwz sa1 hwzz hu3 ha3
     go_upto_region 4 with fail
     rw [HWZ.out]
     clear HWZ
     have hb04 := below_tr hb03 hbs3
     go_wp2_with fail
     go_ret
     exact ⟨rfl, hb04⟩
end Go.Proofs.YtchlgpeiombmdaaGreat
