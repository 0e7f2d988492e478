/- What the law HubDenies answers: true, for every hub and every request. -/
import Derived.Test.YtchlgpeiombmdaaGreatKG
import Derived.Test.YtchlgpeiombmdaaGreatKH
import Derived.Test.YtchlgpeiombmdaaGreatH38
import Derived.Test.YtchlgpeiombmdaaGreatG13
import Derived.Deep.DeepCutAuto
set_option linter.unusedSimpArgs false
set_option linter.unusedVariables false
namespace Go.Proofs.YtchlgpeiombmdaaGreat
open Go.RowKit

theorem LiesH.parts {w : World} {vf vg vs a b c d : Value} {H : Hb} (h : LiesH w (.agg #[vf, vg, vs, a, b, c, d]) H) : LiesF w vf H.fos ∧ LiesG w vg H.gs ∧ LiesS w vs H.ss := by
 obtain ⟨vf', vg', vs', e, h1, h2, h3⟩ := h
 injection e with e
 simp only [Array.mk.injEq, List.cons.injEq] at e
 obtain ⟨rfl, rfl, rfl, _⟩ := e
 exact ⟨h1, h2, h3⟩
set_option maxRecDepth 100000 in
set_option maxHeartbeats 8000000 in
theorem hubDenies_walk (H : Hb) (q : Rq) (v vq : Value) (w : World) (hv : LiesH w v H) (hs : SizedH H) (hq : LiesQ w vq q) (hsq : SizedQ q) :
    Calls Tryz.prog 4 #[v, vq] w fun e w' => e = .returned (.bool true) ∧ Below w.heap.size w w' := by
 have HV := hid hv
 have HS := hid hs
 obtain ⟨fa, fc, ga, gc, sa, sc, rfl⟩ := hv.shape
 have HQQ := hid hq
 have HSQ := hid hsq
 obtain ⟨va, rfl, lq⟩ := hq
 obtain ⟨qa, qc, rfl, _⟩ := lq
 obtain ⟨wa, hwa⟩ : ∃ wa, wa = w.alloc (.cells #[.slice fa H.fos.length fc, .slice ga H.gs.length gc, .slice sa H.ss.length sc, .int .i64 H.nx, .int .i64 H.la, .int .i64 H.ro, .int .i64 H.now] 28) := ⟨_, rfl⟩
 obtain ⟨wz, hwz⟩ : ∃ wz, wz = wa.alloc (.cells #[.int .i64 q.kind, .string q.who, .string q.fo, .string q.name, .string q.key, .string q.text, .int .i64 q.num, .int .i64 q.off, .int .i64 q.base, .slice qa q.ch.length qc] 31) := ⟨_, rfl⟩
 have sa1 : wa.heap.size = w.heap.size + 1 := by rw [hwa]; simp
 have bwa : Below w.heap.size w wa := by rw [hwa]; exact (Below.refl _ _).alloc (Nat.le_refl _) _
 have bwz : Below wa.heap.size wa wz := by rw [hwz]; exact (Below.refl _ _).alloc (Nat.le_refl _) _
 have hbz : Below w.heap.size w wz := below_tr bwa bwz
 have HX : Hid (Cs wz w.heap.size [.slice fa H.fos.length fc, .slice ga H.gs.length gc, .slice sa H.ss.length sc, .int .i64 H.nx, .int .i64 H.la, .int .i64 H.ro, .int .i64 H.now]) := ((by rw [hwa]; exact Cs.new w [.slice fa H.fos.length fc, .slice ga H.gs.length gc, .slice sa H.ss.length sc, .int .i64 H.nx, .int .i64 H.la, .int .i64 H.ro, .int .i64 H.now] _ : Cs wa w.heap.size [.slice fa H.fos.length fc, .slice ga H.gs.length gc, .slice sa H.ss.length sc, .int .i64 H.nx, .int .i64 H.la, .int .i64 H.ro, .int .i64 H.now]).below bwz : Cs wz w.heap.size _)
 have HQX := hid (show Cs wz (w.heap.size + 1) [.int .i64 q.kind, .string q.who, .string q.fo, .string q.name, .string q.key, .string q.text, .int .i64 q.num, .int .i64 q.off, .int .i64 q.base, .slice qa q.ch.length qc] from by rw [← sa1, hwz]; exact Cs.new wa [.int .i64 q.kind, .string q.who, .string q.fo, .string q.name, .string q.key, .string q.text, .int .i64 q.num, .int .i64 q.off, .int .i64 q.base, .slice qa q.ch.length qc] _)
 have hwzz : (w.alloc (.cells #[.slice fa H.fos.length fc, .slice ga H.gs.length gc, .slice sa H.ss.length sc, .int .i64 H.nx, .int .i64 H.la, .int .i64 H.ro, .int .i64 H.now] 28)).alloc (.cells #[.int .i64 q.kind, .string q.who, .string q.fo, .string q.name, .string q.key, .string q.text, .int .i64 q.num, .int .i64 q.off, .int .i64 q.base, .slice qa q.ch.length qc] 31) = wz := by rw [hwz, hwa]
 have HWZ := hid hwzz
 clear hwa hwz bwa bwz sa1 hwzz hv hs hsq
 go_enter Tryz.func4, Tryz.ntmps4
 go_upto_region 1 with fail
 rw [HWZ.out]
 clear HWZ
 go_wp2_with fail
 refine (hubBegun_yes _).mono ?_
 rintro e w1 ⟨rfl, hb1⟩
 have hb01 := below_tr hbz hb1
 have HX1 := hid (HX.out.below hb1)
 have HQ1 := hid (HQX.out.below hb1)
 have hs1 := hb1.size
 have hlz := HQX.out.lt
 go_wp2_with fail
 refine (grantBegun_yes _).mono ?_
 rintro e w2 ⟨rfl, hb2⟩
 have hb02 := below_tr hb01 hb2
 have HX2 := hid (HX1.out.below hb2)
 have HQ2 := hid (HQ1.out.below hb2)
 have hs2 := hb2.size
 have x0 := HX2.out.cell 0 rfl
 have x1 := HX2.out.cell 1 rfl
 have x2 := HX2.out.cell 2 rfl
 have x3 := HX2.out.cell 3 rfl
 have x4 := HX2.out.cell 4 rfl
 have x5 := HX2.out.cell 5 rfl
 have x6 := HX2.out.cell 6 rfl
 have y0 := HQ2.out.cell 0 rfl
 have y1 := HQ2.out.cell 1 rfl
 have y2 := HQ2.out.cell 2 rfl
 have y3 := HQ2.out.cell 3 rfl
 have y4 := HQ2.out.cell 4 rfl
 have y5 := HQ2.out.cell 5 rfl
 have y6 := HQ2.out.cell 6 rfl
 have y7 := HQ2.out.cell 7 rfl
 have y8 := HQ2.out.cell 8 rfl
 have y9 := HQ2.out.cell 9 rfl
 by_cases h0 : Hu.hE H = 0
 · have H0 := hid h0
   clear h0
   go_wp2_with fail
   refine (serve_any H q _ _ w2 (HV.out.below hb02) HS.out (HQQ.out.below hb02) HSQ.out H0.out).mono ?_
   rintro e w3 ⟨u3, a3, rfl, hu3, ha3, hb3⟩
   obtain ⟨H1, hH1⟩ : ∃ H1, H1 = Hu.svH H q := ⟨_, rfl⟩
   obtain ⟨A1, hA1⟩ : ∃ A1, A1 = Hu.svA H q := ⟨_, rfl⟩
   have HHE := hid (show Hu.hE H1 = 0 ∧ SizedH H1 from by rw [hH1]; exact ⟨Hu.sv_he H0.out, Hu.sv_sized H0.out HS.out HSQ.out⟩)
   have HDT := hid (show ¬ q.kind = 8 → ∀ s ∈ H.fos, Pp.rigR H.gs s.na q.who < 2 → Hu.trE H s.na = 0 ∧ Hu.trE H1 s.na = 0 ∧ Hu.trR H1 s.na = Hu.trR H s.na from by rw [hH1]; exact fun h8 s hs hr => Hu.den_tree H0.out h8 hs hr)
   have HDN := hid (show q.kind = 2 ∨ q.kind = 1 ∨ q.kind = 3 → Pp.rigR H.gs q.fo q.who = 0 → A1.err = 9 ∨ (Pp.nameB q.who.data.toList = false ∧ A1.err = 1) from by rw [hA1]; exact fun hk hr => Hu.den_none hk hr)
   have HDL := hid (show q.kind = 1 → Pp.rigR H.gs q.fo q.who < 2 → ¬ Pp.rigR H.gs q.fo q.who = 0 → A1.err = 9 from by rw [hA1]; exact fun hk hr h0 => Hu.den_look hk hr h0)
   rw [← hH1] at hu3
   rw [← hA1] at ha3
   clear hH1 hA1 x0 x1 x2 x3 x4 x5 x6 y0 y1 y2 y3 y4 y5 y6 y7 y8 y9
   have HX3q := hid (HX2.out.below hb3)
   have HQ3q := hid (HQ2.out.below hb3)
   have hb03 := below_tr hb02 hb3
   have hs3 := hb3.size
   obtain ⟨fa3, fc3, ga3, gc3, sa3, sc3, rfl⟩ := hu3.shape
   obtain ⟨ta3, tc3, ca3, cc3, rfl⟩ := ha3.shape
   obtain ⟨wa, hwa⟩ : ∃ wa, wa = w3.alloc (.cells #[.slice fa3 H1.fos.length fc3, .slice ga3 H1.gs.length gc3, .slice sa3 H1.ss.length sc3, .int .i64 H1.nx, .int .i64 H1.la, .int .i64 H1.ro, .int .i64 H1.now] 28) := ⟨_, rfl⟩
   obtain ⟨w4, hwz⟩ : ∃ wz, wz = wa.alloc (.cells #[.int .i64 A1.err, .int .i64 A1.num, .bool A1.pg.reset, .slice ta3 A1.pg.tree.length tc3, .slice ca3 A1.pg.cos.length cc3, .int .i64 A1.pg.cur, .bool A1.pg.more] 39) := ⟨_, rfl⟩
   have sa1 : wa.heap.size = w3.heap.size + 1 := by rw [hwa]; simp
   have bwa : Below w3.heap.size w3 wa := by rw [hwa]; exact (Below.refl _ _).alloc (Nat.le_refl _) _
   have bwz : Below wa.heap.size wa w4 := by rw [hwz]; exact (Below.refl _ _).alloc (Nat.le_refl _) _
   have hbs3 : Below w3.heap.size w3 w4 := below_tr bwa bwz
   have HX3 : Hid (Cs w4 w3.heap.size [.slice fa3 H1.fos.length fc3, .slice ga3 H1.gs.length gc3, .slice sa3 H1.ss.length sc3, .int .i64 H1.nx, .int .i64 H1.la, .int .i64 H1.ro, .int .i64 H1.now]) := ((by rw [hwa]; exact Cs.new w3 [.slice fa3 H1.fos.length fc3, .slice ga3 H1.gs.length gc3, .slice sa3 H1.ss.length sc3, .int .i64 H1.nx, .int .i64 H1.la, .int .i64 H1.ro, .int .i64 H1.now] _ : Cs wa w3.heap.size [.slice fa3 H1.fos.length fc3, .slice ga3 H1.gs.length gc3, .slice sa3 H1.ss.length sc3, .int .i64 H1.nx, .int .i64 H1.la, .int .i64 H1.ro, .int .i64 H1.now]).below bwz : Cs w4 w3.heap.size _)
   have HA3 := hid (show Cs w4 (w3.heap.size + 1) [.int .i64 A1.err, .int .i64 A1.num, .bool A1.pg.reset, .slice ta3 A1.pg.tree.length tc3, .slice ca3 A1.pg.cos.length cc3, .int .i64 A1.pg.cur, .bool A1.pg.more] from by rw [← sa1, hwz]; exact Cs.new wa [.int .i64 A1.err, .int .i64 A1.num, .bool A1.pg.reset, .slice ta3 A1.pg.tree.length tc3, .slice ca3 A1.pg.cos.length cc3, .int .i64 A1.pg.cur, .bool A1.pg.more] _)
   have hwzz : (w3.alloc (.cells #[.slice fa3 H1.fos.length fc3, .slice ga3 H1.gs.length gc3, .slice sa3 H1.ss.length sc3, .int .i64 H1.nx, .int .i64 H1.la, .int .i64 H1.ro, .int .i64 H1.now] 28)).alloc (.cells #[.int .i64 A1.err, .int .i64 A1.num, .bool A1.pg.reset, .slice ta3 A1.pg.tree.length tc3, .slice ca3 A1.pg.cos.length cc3, .int .i64 A1.pg.cur, .bool A1.pg.more] 39) = w4 := by rw [hwz, hwa]
   have HWZ := hid hwzz
   have HU3 := hid (hu3.below hbs3)
   have HN3 := hid (ha3.below hbs3)
   have hls3 : w3.heap.size + 1 < w4.heap.size := HA3.out.lt
   clear hwa hwz bwa bwz sa1 hwzz hu3 ha3
   go_upto_region 4 with fail
   rw [HWZ.out]
   clear HWZ
   have hb04 := below_tr hb03 hbs3
   have HX4 := hid (HX3q.out.below hbs3)
   have HQ4 := hid (HQ3q.out.below hbs3)
   have y0 := HQ4.out.cell 0 rfl
   by_cases h8 : q.kind = 8
   · rw [h8] at y0
     go_wp2_with fail
     go_ret
     exact ⟨rfl, hb04⟩
   · have H8 := hid h8
     have h8b : (q.kind == 8) = false := by simpa using h8
     have x1 := HX4.out.cell 1 rfl
     have y1 := HQ4.out.cell 1 rfl
     have y2 := HQ4.out.cell 2 rfl
     clear h8
     go_wp2_with fail
     refine (right2_any H.gs _ q.fo q.who w4 (HV.out.parts.2.1.below hb04) HS.out.gs HSQ.out.fo HSQ.out.who).mono ?_
     rintro e w5 ⟨rfl, hb5⟩
     obtain ⟨R, hR⟩ : ∃ R, R = Pp.rigR H.gs q.fo q.who := ⟨_, rfl⟩
     obtain ⟨C, hC⟩ : ∃ C, C = Pp.calE H.gs [q.fo, q.who] := ⟨_, rfl⟩
     have HCR := hid (show ¬ C = 0 → R = 0 from fun h => by rw [hR, Pp.rigR, ← hC, if_neg h])
     rw [← hR, ← hC]
     rw [← hR] at HDN HDL
     clear hR hC x1 y0 y1 y2 h8b
     have hb05 := below_tr hb04 hb5
     have HX5 := hid (HX4.out.below hb5)
     have HQ5 := hid (HQ4.out.below hb5)
     have HK5 := hid (HX3.out.below hb5)
     have HA5 := hid (HA3.out.below hb5)
     go_upto_if 50 with fail
     go_cut [8] (fun r W => r = .int .i64 R ∧ W = w5)
     case first =>
      by_cases hc : C = 0
      · subst hc
        go_wp2_with fail
        go_meet
        case rel => exact ⟨rfl, rfl⟩
      · have hcb : (C != 0) = true := by simpa using hc
        obtain rfl := HCR.out hc
        clear hc
        go_wp2_with fail
        go_meet
        case rel => exact ⟨rfl, rfl⟩
     case rest =>
      obtain ⟨rfl, rfl⟩ := hcut
      go_wp2_with fail
      have HLF := hid (show ∀ i (h : i < H.fos.length), ∃ b o, fa = some ⟨b, o, none⟩ ∧ b < w.heap.size ∧ ShAt w b (o + i * 4) H.fos[i] from by
       obtain ⟨a, cap, e, _, _, h⟩ := HV.out.parts.1
       injection e with e1 e2 e3
       subst e1
       exact h)
      have hl8 : H.fos.length ≤ 8 := (Hu.cf_parts (Hu.h_parts H0.out).2.1).1
      go_loopw [10] (fun x wr => ∃ k : Nat, k ≤ H.fos.length ∧ x = .int .i64 k ∧ Hid (Cs wr w.heap.size [.slice fa H.fos.length fc, .slice ga H.gs.length gc, .slice sa H.ss.length sc, .int .i64 H.nx, .int .i64 H.la, .int .i64 H.ro, .int .i64 H.now]) ∧ Hid (Cs wr (w.heap.size + 1) [.int .i64 q.kind, .string q.who, .string q.fo, .string q.name, .string q.key, .string q.text, .int .i64 q.num, .int .i64 q.off, .int .i64 q.base, .slice qa q.ch.length qc]) ∧ Hid (Cs wr w3.heap.size [.slice fa3 H1.fos.length fc3, .slice ga3 H1.gs.length gc3, .slice sa3 H1.ss.length sc3, .int .i64 H1.nx, .int .i64 H1.la, .int .i64 H1.ro, .int .i64 H1.now]) ∧ Hid (Cs wr (w3.heap.size + 1) [.int .i64 A1.err, .int .i64 A1.num, .bool A1.pg.reset, .slice ta3 A1.pg.tree.length tc3, .slice ca3 A1.pg.cos.length cc3, .int .i64 A1.pg.cur, .bool A1.pg.more]) ∧ Hid (Below w4.heap.size w4 wr) ∧ Below w.heap.size w wr) (fun x _ => H.fos.length - (intOf x).toNat)
      case atStart => exact ⟨0, Nat.zero_le _, rfl, HX5, HQ5, HK5, HA5, hb5, hb05⟩
      case round =>
       clear HX5 HQ5 HK5 HA5 hb5 hb05
       obtain ⟨k, hk, rfl, HXr, HQr, HKr, HAr, HB4, hbel⟩ := hrel
       have x0 := HXr.out.cell 0 rfl
       by_cases hlt : k < H.fos.length
       · obtain ⟨b, o, rfl, hbl, he⟩ := HLF.out k hlt
         have hsz := hbel.size
         have hblr : b < wr.heap.size := by omega
         have c0 := (he.below hbl hbel).1
         have hkk : (k : Int) < H.fos.length := by omega
         have HMEM := hid (List.getElem_mem hlt)
         have HNA : Hid ((H.fos[k]).na.size ≤ 150000000000000) := (HS.out.fos _ (List.getElem_mem hlt)).1
         clear he
         generalize H.fos[k] = s at *
         have x1 := HXr.out.cell 1 rfl
         have y1 := HQr.out.cell 1 rfl
         go_wp2_with fail
         refine (right2_any H.gs _ s.na q.who wr (HV.out.parts.2.1.below hbel) HS.out.gs HNA.out HSQ.out.who).mono ?_
         rintro e w6 ⟨rfl, hb6⟩
         obtain ⟨r, hr⟩ : ∃ r, r = Pp.rigR H.gs s.na q.who := ⟨_, rfl⟩
         obtain ⟨c, hc⟩ : ∃ c, c = Pp.calE H.gs [s.na, q.who] := ⟨_, rfl⟩
         have HCR2 := hid (show ¬ c = 0 → r = 0 from fun h => by rw [hr, Pp.rigR, ← hc, if_neg h])
         have HRR : Hid (r = Pp.rigR H.gs s.na q.who) := hr
         rw [← hr, ← hc]
         clear hr hc x0 x1 y1 c0
         have hb06 := below_tr hbel hb6
         have HX6 := hid (HXr.out.below hb6)
         have HQ6 := hid (HQr.out.below hb6)
         have HK6 := hid (HKr.out.below hb6)
         have HA6 := hid (HAr.out.below hb6)
         have HB6 : Hid (Below w4.heap.size w4 w6) := below_tr HB4.out hb6
         go_upto_region 14 with fail
         go_cut [78] (fun t W => t = .bool (decide (c = 0 ∧ 2 ≤ r)) ∧ W = w6)
         case first =>
          by_cases hc0 : c = 0
          · subst hc0
            by_cases hr2 : 2 ≤ r
            · have hd : decide ((0 : Int) = 0 ∧ 2 ≤ r) = true := decide_eq_true ⟨rfl, hr2⟩
              have HD := hid hd
              clear hd
              go_wp2_with fail
              go_meet
              case rel => exact ⟨by rw [HD.out], rfl⟩
            · have hd : decide ((0 : Int) = 0 ∧ 2 ≤ r) = false := decide_eq_false (fun h => hr2 h.2)
              have HD := hid hd
              clear hd
              go_wp2_with fail
              go_meet
              case rel => exact ⟨by rw [HD.out], rfl⟩
          · have hcb : (c == 0) = false := by simpa using hc0
            have hd : decide (c = 0 ∧ 2 ≤ r) = false := decide_eq_false (fun h => hc0 h.1)
            have HD := hid hd
            clear hd hc0
            go_wp2_with fail
            go_meet
            case rel => exact ⟨by rw [HD.out], rfl⟩
         case rest =>
          obtain ⟨rfl, rfl⟩ := hcut
          by_cases hd : c = 0 ∧ 2 ≤ r
          · have hdt : decide (c = 0 ∧ 2 ≤ r) = true := decide_eq_true hd
            rw [hdt]
            clear hd hdt
            go_wp2_with fail
            go_roundw
            case rel => exact ⟨k + 1, by omega, by simp, HX6, HQ6, HK6, HA6, HB6, hb06⟩
            case measure => simp [intOf]; omega
          · have hdf : decide (c = 0 ∧ 2 ≤ r) = false := decide_eq_false hd
            have hr2 : Pp.rigR H.gs s.na q.who < 2 := by
             rw [← HRR.out]
             by_cases hc0 : c = 0
             · have : ¬ 2 ≤ r := fun h => hd ⟨hc0, h⟩
               omega
             · rw [HCR2.out hc0]; decide
            obtain ⟨e1, e2, e3⟩ := HDT.out H8.out s HMEM.out hr2
            have HE1 := hid e1
            have HE2 := hid e2
            have HE3 := hid e3
            rw [hdf]
            clear hd hdf hr2 e1 e2 e3
            have x0 := HX6.out.cell 0 rfl
            have x1 := HX6.out.cell 1 rfl
            have x2 := HX6.out.cell 2 rfl
            have x3 := HX6.out.cell 3 rfl
            have x4 := HX6.out.cell 4 rfl
            have x5 := HX6.out.cell 5 rfl
            have x6 := HX6.out.cell 6 rfl
            go_wp2_with fail
            refine (htree_any H _ s.na _ (HV.out.below hb06) HS.out HNA.out).mono ?_
            rintro e w7 ⟨t7, rfl, hl7, hb7⟩
            rw [HE1.out]
            have hb07 := below_tr hb06 hb7
            have HX7 := hid (HX6.out.below hb7)
            have HQ7 := hid (HQ6.out.below hb7)
            have HK7 := hid (HK6.out.below hb7)
            have HA7 := hid (HA6.out.below hb7)
            have HB7 : Hid (Below w4.heap.size w4 w7) := below_tr HB6.out hb7
            have HL7 := hid hl7
            clear hl7 x0 x1 x2 x3 x4 x5 x6
            have x0 := HK7.out.cell 0 rfl
            have x1 := HK7.out.cell 1 rfl
            have x2 := HK7.out.cell 2 rfl
            have x3 := HK7.out.cell 3 rfl
            have x4 := HK7.out.cell 4 rfl
            have x5 := HK7.out.cell 5 rfl
            have x6 := HK7.out.cell 6 rfl
            go_wp2_with fail
            refine (htree_any H1 _ s.na _ (HU3.out.below HB7.out) HHE.out.2 HNA.out).mono ?_
            rintro e w8 ⟨t8, rfl, hl8, hb8⟩
            rw [HE2.out]
            rw [HE3.out] at hl8
            have hb08 := below_tr hb07 hb8
            have HX8 := hid (HX7.out.below hb8)
            have HQ8 := hid (HQ7.out.below hb8)
            have HK8 := hid (HK7.out.below hb8)
            have HA8 := hid (HA7.out.below hb8)
            have HB8 : Hid (Below w4.heap.size w4 w8) := below_tr HB7.out hb8
            have HL8 := hid hl8
            clear hl8 x0 x1 x2 x3 x4 x5 x6
            go_wp2_with fail
            refine (same_yes (Hu.trR H s.na) _ _ _ (HL7.out.below hb8) HL8.out).mono ?_
            rintro e w9 ⟨rfl, hb9⟩
            have hb09 := below_tr hb08 hb9
            have HX9 := hid (HX8.out.below hb9)
            have HQ9 := hid (HQ8.out.below hb9)
            have HK9 := hid (HK8.out.below hb9)
            have HA9 := hid (HA8.out.below hb9)
            have HB9 : Hid (Below w4.heap.size w4 w9) := below_tr HB8.out hb9
            go_wp2_with fail
            go_roundw
            case rel => exact ⟨k + 1, by omega, by simp, HX9, HQ9, HK9, HA9, HB9, hb09⟩
            case measure => simp [intOf]; omega
       · have hkk : ¬ (k : Int) < H.fos.length := by omega
         have y0 := HQr.out.cell 0 rfl
         have y1 := HQr.out.cell 1 rfl
         have a0 := HAr.out.cell 0 rfl
         by_cases hk2 : q.kind = 2
         · rw [hk2] at y0
           have HK2 := hid hk2
           clear hk2
           by_cases hR : R = 0
           · subst hR
             rcases HDN.out (Or.inl HK2.out) rfl with he | ⟨hn, he⟩
             · rw [he] at a0
               go_wp2_with fail
               go_ret
               exact ⟨rfl, hbel⟩
             · rw [he] at a0
               have HN := hid hn
               clear hn
               go_wp2_with fail
               refine (rIsName_any q.who _ HSQ.out.who).mono ?_
               rintro e w7 ⟨rfl, rfl⟩
               rw [HN.out]
               go_wp2_with fail
               go_ret
               exact ⟨rfl, hbel⟩
           · have hRb : (R == 0) = false := by simpa using hR
             clear hR
             go_wp2_with fail
             go_ret
             exact ⟨rfl, hbel⟩
         by_cases hk1 : q.kind = 1
         · rw [hk1] at y0
           have HK1 := hid hk1
           clear hk1 hk2
           by_cases hR : R = 0
           · subst hR
             rcases HDN.out (Or.inr (Or.inl HK1.out)) rfl with he | ⟨hn, he⟩
             · rw [he] at a0
               go_wp2_with fail
               go_ret
               exact ⟨rfl, hbel⟩
             · rw [he] at a0
               have HN := hid hn
               clear hn
               go_wp2_with fail
               refine (rIsName_any q.who _ HSQ.out.who).mono ?_
               rintro e w7 ⟨rfl, rfl⟩
               rw [HN.out]
               go_wp2_with fail
               go_ret
               exact ⟨rfl, hbel⟩
           · have hRb : (R == 0) = false := by simpa using hR
             by_cases hR2 : 2 ≤ R
             · clear hR
               go_wp2_with fail
               go_ret
               exact ⟨rfl, hbel⟩
             · rw [HDL.out HK1.out (by omega) hR] at a0
               clear hR
               go_wp2_with fail
               go_ret
               exact ⟨rfl, hbel⟩
         by_cases hk3 : q.kind = 3
         · rw [hk3] at y0
           have HK3 := hid hk3
           clear hk3 hk2 hk1
           by_cases hR : R = 0
           · subst hR
             rcases HDN.out (Or.inr (Or.inr HK3.out)) rfl with he | ⟨hn, he⟩
             · rw [he] at a0
               go_wp2_with fail
               go_ret
               exact ⟨rfl, hbel⟩
             · rw [he] at a0
               have HN := hid hn
               clear hn
               go_wp2_with fail
               refine (rIsName_any q.who _ HSQ.out.who).mono ?_
               rintro e w7 ⟨rfl, rfl⟩
               rw [HN.out]
               go_wp2_with fail
               go_ret
               exact ⟨rfl, hbel⟩
           · have hRb : (R == 0) = false := by simpa using hR
             clear hR
             go_wp2_with fail
             go_ret
             exact ⟨rfl, hbel⟩
         have b2 : (q.kind == 2) = false := by simpa using hk2
         have b1 : (q.kind == 1) = false := by simpa using hk1
         have b3 : (q.kind == 3) = false := by simpa using hk3
         have b4 : (q.kind != 1) = true := by simpa using hk1
         clear hk1 hk2 hk3
         go_wp2_with fail
         go_ret
         exact ⟨rfl, hbel⟩
 · obtain ⟨r, hrr⟩ : ∃ r, r = Hu.hE H := ⟨_, rfl⟩
   have H0 : Hid (¬ Hu.hE H = 0) := h0
   have hz2 : (r != 0) = true := by rw [hrr]; simpa using h0
   have hz : (r == 0) = false := by rw [hrr]; simpa using h0
   have HRR := hid hrr
   clear h0 hrr
   go_wp2_with fail
   refine (serve_bad H q _ _ w2 (HV.out.below hb02) HS.out (HQQ.out.below hb02) H0.out).mono ?_
   rintro e w3 ⟨u3, a3, rfl, hu3, ha3, hb3⟩
   rw [← HRR.out]
   clear x0 x1 x2 x3 x4 x5 x6 y0 y1 y2 y3 y4 y5 y6 y7 y8 y9
   have hb03 := below_tr hb02 hb3
   obtain ⟨fa3, fc3, ga3, gc3, sa3, sc3, rfl⟩ := hu3.shape
   obtain ⟨ta3, tc3, ca3, cc3, rfl⟩ := ha3.shape
   obtain ⟨wa, hwa⟩ : ∃ wa, wa = w3.alloc (.cells #[.slice fa3 zeroH.fos.length fc3, .slice ga3 zeroH.gs.length gc3, .slice sa3 zeroH.ss.length sc3, .int .i64 zeroH.nx, .int .i64 zeroH.la, .int .i64 zeroH.ro, .int .i64 zeroH.now] 28) := ⟨_, rfl⟩
   obtain ⟨w4, hwz⟩ : ∃ wz, wz = wa.alloc (.cells #[.int .i64 zeroA.err, .int .i64 zeroA.num, .bool zeroA.pg.reset, .slice ta3 zeroA.pg.tree.length tc3, .slice ca3 zeroA.pg.cos.length cc3, .int .i64 zeroA.pg.cur, .bool zeroA.pg.more] 39) := ⟨_, rfl⟩
   have sa1 : wa.heap.size = w3.heap.size + 1 := by rw [hwa]; simp
   have bwa : Below w3.heap.size w3 wa := by rw [hwa]; exact (Below.refl _ _).alloc (Nat.le_refl _) _
   have bwz : Below wa.heap.size wa w4 := by rw [hwz]; exact (Below.refl _ _).alloc (Nat.le_refl _) _
   have hbs3 : Below w3.heap.size w3 w4 := below_tr bwa bwz
   have HX3 : Hid (Cs w4 w3.heap.size [.slice fa3 zeroH.fos.length fc3, .slice ga3 zeroH.gs.length gc3, .slice sa3 zeroH.ss.length sc3, .int .i64 zeroH.nx, .int .i64 zeroH.la, .int .i64 zeroH.ro, .int .i64 zeroH.now]) := ((by rw [hwa]; exact Cs.new w3 [.slice fa3 zeroH.fos.length fc3, .slice ga3 zeroH.gs.length gc3, .slice sa3 zeroH.ss.length sc3, .int .i64 zeroH.nx, .int .i64 zeroH.la, .int .i64 zeroH.ro, .int .i64 zeroH.now] _ : Cs wa w3.heap.size [.slice fa3 zeroH.fos.length fc3, .slice ga3 zeroH.gs.length gc3, .slice sa3 zeroH.ss.length sc3, .int .i64 zeroH.nx, .int .i64 zeroH.la, .int .i64 zeroH.ro, .int .i64 zeroH.now]).below bwz : Cs w4 w3.heap.size _)
   have HA3 := hid (show Cs w4 (w3.heap.size + 1) [.int .i64 zeroA.err, .int .i64 zeroA.num, .bool zeroA.pg.reset, .slice ta3 zeroA.pg.tree.length tc3, .slice ca3 zeroA.pg.cos.length cc3, .int .i64 zeroA.pg.cur, .bool zeroA.pg.more] from by rw [← sa1, hwz]; exact Cs.new wa [.int .i64 zeroA.err, .int .i64 zeroA.num, .bool zeroA.pg.reset, .slice ta3 zeroA.pg.tree.length tc3, .slice ca3 zeroA.pg.cos.length cc3, .int .i64 zeroA.pg.cur, .bool zeroA.pg.more] _)
   have hwzz : (w3.alloc (.cells #[.slice fa3 zeroH.fos.length fc3, .slice ga3 zeroH.gs.length gc3, .slice sa3 zeroH.ss.length sc3, .int .i64 zeroH.nx, .int .i64 zeroH.la, .int .i64 zeroH.ro, .int .i64 zeroH.now] 28)).alloc (.cells #[.int .i64 zeroA.err, .int .i64 zeroA.num, .bool zeroA.pg.reset, .slice ta3 zeroA.pg.tree.length tc3, .slice ca3 zeroA.pg.cos.length cc3, .int .i64 zeroA.pg.cur, .bool zeroA.pg.more] 39) = w4 := by rw [hwz, hwa]
   have HWZ := hid hwzz
   have HU3 := hid (hu3.below hbs3)
   have HN3 := hid (ha3.below hbs3)
   have hls3 : w3.heap.size + 1 < w4.heap.size := HA3.out.lt
   clear hwa hwz bwa bwz sa1 hwzz hu3 ha3
   go_upto_region 4 with fail
   rw [HWZ.out]
   clear HWZ
   have hb04 := below_tr hb03 hbs3
   go_wp2_with fail
   go_ret
   exact ⟨rfl, hb04⟩
end Go.Proofs.YtchlgpeiombmdaaGreat
