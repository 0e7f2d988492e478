/- The law JournalComes. -/
import Derived.Test.YtagdilnbbepccaaGreatJCom
import Derived.Test.YtagdilnbbepccaaGreatMO
import Derived.Test.YtagdilnbbepccaaGreatJ10
import Derived.Test.YtagdilnbbepccaaGreatJ14
import Derived.Test.YtagdilnbbepccaaGreatTCh
set_option linter.unusedSimpArgs false
set_option linter.unusedVariables false
namespace Go.Proofs.YtagdilnbbepccaaGreat
open Go.RowKit

set_option maxRecDepth 100000 in
set_option maxHeartbeats 4000000 in
theorem journalComes_walk (J : Jo) (v : Value) (c m : Int) (w : World) (hv : LiesJ w v J) (hp : ∀ e ∈ J.base, e.path.size ≤ 1000000000 ∧ e.text.size ≤ 1000000000) (hcs : SizedO 1000000000 J.cos) (hc1 : -9223372036854775808 ≤ c) (hc2 : c ≤ 9223372036854775807) (hm1 : -9223372036854775808 ≤ m) (hm2 : m ≤ 9223372036854775807) :
    Calls Tryz.prog 7 #[v, .int .i64 c, .int .i64 m] w fun e w' => e = .returned (.bool true) ∧ Below w.heap.size w w' := by
  have HV := hid hv
  have HP : Hid (∀ e ∈ J.base, e.path.size ≤ 1000000000) := (fun e he => (hp e he).1 : ∀ e ∈ J.base, e.path.size ≤ 1000000000)
  have HS : Hid (Sized J.base) := (fun e he => ⟨by have := (hp e he).1; omega, by have := (hp e he).2; omega⟩ : Sized J.base)
  have HCS := hid hcs
  have HCS2 := hid (hcs.mono (by decide : 1000000000 ≤ 150000000000000))
  obtain ⟨vb, vc, rfl, hvb, hvc⟩ := hv
  obtain ⟨ba, bcap, rfl, _⟩ := hvb
  obtain ⟨ca, ccap, rfl, _⟩ := hvc
  clear hp hcs
  obtain ⟨wz, hwz⟩ : ∃ wz, wz = w.alloc (.cells #[.slice ba J.base.length bcap, .int .i64 J.first, .slice ca J.cos.length ccap] 25) := ⟨_, rfl⟩
  have hbz : Below w.heap.size w wz := by rw [hwz]; exact (Below.refl _ _).alloc (Nat.le_refl _) _
  have HBX : Hid (Cs wz w.heap.size [.slice ba J.base.length bcap, .int .i64 J.first, .slice ca J.cos.length ccap]) := (by rw [hwz]; exact Cs.new _ [.slice ba J.base.length bcap, .int .i64 J.first, .slice ca J.cos.length ccap] _ : Cs wz w.heap.size [.slice ba J.base.length bcap, .int .i64 J.first, .slice ca J.cos.length ccap])
  by_cases h0 : Jn.chkE J = 0
  · have H0 := hid h0
    have hpp := Jn.chk_parts h0
    obtain ⟨f1, f2⟩ := Jn.ver_iff.1 hpp.2.1
    have h30 : J.cos.length ≤ 30 := by have := hpp.2.2.1; omega
    have HTT := hid (Jn.tree_trAt h0)
    clear hpp h0
    go_enter Tryz.func7, Tryz.ntmps7
    go_wp2_with fail
    rw [← hwz]
    clear hwz
    refine (journalBegun_yes _).mono ?_
    rintro e w1 ⟨rfl, hb1⟩
    have HB1 := hid (HBX.out.below hb1)
    have hb01 := below_tr hbz hb1
    have c0 := HB1.out.cell 0 rfl
    have c1 := HB1.out.cell 1 rfl
    have c2 := HB1.out.cell 2 rfl
    go_wp2_with fail
    refine (openJournal_any J _ _ (HV.out.below hb01) HP.out HCS.out).mono ?_
    rintro e w2 ⟨r, rfl, hli, hb2⟩
    obtain ⟨a, cap, rfl, hcap1, hcap2, hat⟩ := hli H0.out
    rw [H0.out]
    have HAT := hid hat
    obtain ⟨n1, hn1⟩ : ∃ n1, n1 = J.cos.length + 1 := ⟨_, rfl⟩
    rw [← hn1] at hcap1 hcap2 ⊢
    have HN1 := hid hn1
    have hn1p : 0 < (n1 : Int) := by omega
    have hn1q : (n1 : Int) ≤ 9223372036854775807 := by omega
    clear hn1
    have HB2 := hid (HB1.out.below hb2)
    have hb02 := below_tr hb01 hb2
    clear hli hat c0 c1 c2
    go_wp2_with fail
    refine (choose_any c (n1 : Int) _ hc1 hc2 hn1p hn1q).mono ?_
    rintro e wq ⟨rfl, hwq⟩
    rw [hwq]
    clear hwq wq
    have hr := Pp.chz_range c hn1p
    obtain ⟨i, hi⟩ : ∃ i : Nat, Pp.chz c (n1 : Int) = (i : Int) := ⟨(Pp.chz c (n1 : Int)).toNat, by omega⟩
    have hil : i ≤ J.cos.length := by have := HN1.out; omega
    rw [hi]
    obtain ⟨b, o, u, rfl, hb, hcell, hlt⟩ := HAT.out i (by omega)
    have HLT := hid hlt
    obtain ⟨ta, tcap, rfl, _⟩ := hlt
    have hii : (i : Int) < (n1 : Int) := by omega
    have e1 : IntKind.i64.wrap (J.first - 1) = J.first - 1 := by rw [IntKind.wrap_i64]; omega
    have e2 : IntKind.i64.wrap (J.first - 1 + (i : Int)) = J.first - 1 + i := by rw [IntKind.wrap_i64]; omega
    have c1 := HB2.out.cell 1 rfl
    clear hr hi
    have hbd : Below w2.heap.size w2 w2.drew := (Below.refl _ _).drew
    have HLT3 := hid (HLT.out.below hbd)
    have HB3 := hid (HB2.out.below hbd)
    have hb03 := below_tr hb02 hbd
    go_wp2_with fail
    go_region
    go_wp2_with fail
    refine (choose_any m 10 _ hm1 hm2 (by decide) (by decide)).mono ?_
    rintro e wq ⟨rfl, hwq⟩
    rw [hwq]
    clear hwq wq
    have hr := Pp.chz_range m (show (0 : Int) < 10 by decide)
    have e3 : IntKind.i64.wrap (1 + Pp.chz m 10) = 1 + Pp.chz m 10 := by rw [IntKind.wrap_i64]; omega
    clear c1
    go_wp2_with fail
    obtain ⟨mm, hmm⟩ : ∃ mm, mm = 1 + Pp.chz m 10 := ⟨_, rfl⟩
    have m1 : 1 ≤ mm := by omega
    have m2 : mm ≤ 10 := by omega
    rw [← hmm]
    clear hmm e3 hr e1 e2 hii hcell
    go_loopw [10, 11, 12] (fun t cu x wr => ∃ k q : Nat, k ≤ J.cos.length ∧ q ≤ k ∧ x = .int .i64 q ∧ cu = .int .i64 (J.first - 1 + k) ∧ Hid (Lies wr t (Jn.trAt J k)) ∧ Hid (Cs wr w.heap.size [.slice ba J.base.length bcap, .int .i64 J.first, .slice ca J.cos.length ccap]) ∧ Below w.heap.size w wr) (fun _ _ x _ => 31 - (intOf x).toNat)
    case atStart => exact ⟨i, 0, hil, Nat.zero_le _, rfl, rfl, HLT3, HB3, hb03⟩
    case round =>
      obtain ⟨k, q, hk, hq, rfl, rfl, HL, HB, hbel⟩ := hrel
      have c0 := HB.out.cell 0 rfl
      have c1 := HB.out.cell 1 rfl
      have c2 := HB.out.cell 2 rfl
      obtain ⟨xa, xcap, rfl, _⟩ := HL.out
      have hq30 : (q : Int) ≤ 30 := by omega
      obtain ⟨n, hn⟩ : ∃ n, n = Jn.few mm (J.cos.length - k) := ⟨_, rfl⟩
      have hn1 : n ≤ J.cos.length - k := by rw [hn, Jn.few]; omega
      have hn2 : n ≤ 10 := by rw [hn, Jn.few]; omega
      have hn3 : ¬ mm < (n : Int) := by rw [hn, Jn.few]; omega
      have hn4 : n < J.cos.length - k → 1 ≤ n := by rw [hn, Jn.few]; omega
      have HRD := hid (Jn.rd_at H0.out hk m1 m2)
      rw [← hn] at HRD
      have HFO := hid (Jn.fol_at H0.out (k := k) (n := n) (by omega) hn2)
      have HGS : Hid (Sized (Jn.trAt J k)) := (Pp.good_sized (Jn.left_at H0.out k hk).2.1 : Sized (Jn.trAt J k))
      have HSO : Hid (SizedO 150000000000000 (Jn.pgAt J k n).cos) := (fun x hx => HCS2.out x (List.mem_of_mem_drop (List.mem_of_mem_take hx)) : SizedO 150000000000000 (Jn.pgAt J k n).cos)
      have HLN : Hid ((Jn.pgAt J k n).cos.length = n) := (by show ((J.cos.drop k).take n).length = n; rw [List.length_take, List.length_drop]; omega : (Jn.pgAt J k n).cos.length = n)
      clear hn HAT HLT HB2 hb02 HLT3 HB3 hb03
      go_wp2_with fail
      refine (jread_any J _ _ mm _ (HV.out.below hbel) HS.out HCS2.out).mono ?_
      rintro e w3 ⟨r, rfl, hli, hb3⟩
      rw [HRD.out.1]
      rw [HRD.out.2] at hli
      have HP1 := hid hli.lies
      obtain ⟨vt', vc', hveq, hx1, _, hx2⟩ := hli
      obtain ⟨x2, y2, hv2⟩ := liesO_shape hx2.lies
      rw [HLN.out] at hv2
      have hx1' : Lies w3 vt' [] := hx1
      obtain ⟨x1, y1, rfl, _⟩ := hx1'
      subst hv2
      obtain ⟨kn, hkn0⟩ : ∃ kn, kn = k + n := ⟨_, rfl⟩
      have HKN := hid hkn0
      rw [← hkn0] at HFO
      have hkn1 : k ≤ kn := by omega
      clear hkn0
      have hveq' : r = .agg #[.bool false, .slice x1 0 y1, .slice x2 n y2, .int .i64 (J.first - 1 + (kn : Int)), .bool (decide (n < J.cos.length - k))] := by rw [HKN.out]; exact hveq
      clear hveq
      subst hveq'
      clear hx1 hx2
      by_cases hmore : n < J.cos.length - k
      · have hmo : decide (n < J.cos.length - k) = true := decide_eq_true hmore
        rw [hmo] at HP1
        rw [hmo]
        obtain ⟨wp, hwp⟩ : ∃ wp, wp = w3.alloc (.cells #[.bool false, .slice x1 0 y1, .slice x2 n y2, .int .i64 (J.first - 1 + (kn : Int)), .bool true] 40) := ⟨_, rfl⟩
        have hbp : Below w3.heap.size w3 wp := by rw [hwp]; exact (Below.refl _ _).alloc (Nat.le_refl _) _
        have HPX : Hid (Cs wp w3.heap.size [.bool false, .slice x1 0 y1, .slice x2 n y2, .int .i64 (J.first - 1 + (kn : Int)), .bool true]) := (by rw [hwp]; exact Cs.new _ [.bool false, .slice x1 0 y1, .slice x2 n y2, .int .i64 (J.first - 1 + (kn : Int)), .bool true] _ : Cs wp w3.heap.size [.bool false, .slice x1 0 y1, .slice x2 n y2, .int .i64 (J.first - 1 + (kn : Int)), .bool true])
        have HP2 := hid (HP1.out.below hbp)
        have HB4 := hid ((HB.out.below hb3).below hbp)
        have hb04 := below_tr (below_tr hbel hb3) hbp
        have HL4 := hid ((HL.out.below hb3).below hbp)
        have hcu : ¬ J.first - 1 + (kn : Int) < J.first - 1 + (k : Int) := by omega
        clear c0 c1 c2
        go_wp2_with fail
        rw [← hwp]
        clear hwp
        refine (follow_any (Jn.trAt J k) _ (J.first - 1 + (k : Int)) (Jn.pgAt J k n) _ _ HL4.out HGS.out HP2.out (fun e he => absurd he (by simp [Jn.pgAt])) HSO.out).mono ?_
        rintro e w5 ⟨r, rfl, hli, hb5⟩
        rw [HFO.out.1, HFO.out.2.2]
        rw [HFO.out.2.1] at hli
        have HL5 := hid hli
        have HB5 := hid (HB4.out.below hb5)
        have hb05 := below_tr hb04 hb5
        have p4 := (HPX.out.below hb5).cell 4 rfl
        clear hli
        have hn5 := hn4 hmore
        go_wp2_with fail
        go_roundw
        case rel => exact ⟨kn, q + 1, by have := HKN.out; omega, by have := HKN.out; omega, by simp, rfl, HL5, HB5, hb05⟩
        case measure => simp [intOf]; omega
      · have hmo : decide (n < J.cos.length - k) = false := decide_eq_false hmore
        rw [hmo] at HP1
        rw [hmo]
        obtain ⟨wp, hwp⟩ : ∃ wp, wp = w3.alloc (.cells #[.bool false, .slice x1 0 y1, .slice x2 n y2, .int .i64 (J.first - 1 + (kn : Int)), .bool false] 40) := ⟨_, rfl⟩
        have hbp : Below w3.heap.size w3 wp := by rw [hwp]; exact (Below.refl _ _).alloc (Nat.le_refl _) _
        have HPX : Hid (Cs wp w3.heap.size [.bool false, .slice x1 0 y1, .slice x2 n y2, .int .i64 (J.first - 1 + (kn : Int)), .bool false]) := (by rw [hwp]; exact Cs.new _ [.bool false, .slice x1 0 y1, .slice x2 n y2, .int .i64 (J.first - 1 + (kn : Int)), .bool false] _ : Cs wp w3.heap.size [.bool false, .slice x1 0 y1, .slice x2 n y2, .int .i64 (J.first - 1 + (kn : Int)), .bool false])
        have HP2 := hid (HP1.out.below hbp)
        have HB4 := hid ((HB.out.below hb3).below hbp)
        have hb04 := below_tr (below_tr hbel hb3) hbp
        have HL4 := hid ((HL.out.below hb3).below hbp)
        have hcu : ¬ J.first - 1 + (kn : Int) < J.first - 1 + (k : Int) := by omega
        clear c0 c1 c2
        go_wp2_with fail
        rw [← hwp]
        clear hwp
        refine (follow_any (Jn.trAt J k) _ (J.first - 1 + (k : Int)) (Jn.pgAt J k n) _ _ HL4.out HGS.out HP2.out (fun e he => absurd he (by simp [Jn.pgAt])) HSO.out).mono ?_
        rintro e w5 ⟨r, rfl, hli, hb5⟩
        rw [HFO.out.1, HFO.out.2.2]
        rw [HFO.out.2.1] at hli
        have HL5 := hid hli
        have HB5 := hid (HB4.out.below hb5)
        have hb05 := below_tr hb04 hb5
        have p4 := (HPX.out.below hb5).cell 4 rfl
        clear hli
        have hkn : kn = J.cos.length := by have := HKN.out; omega
        clear HKN HFO hcu hkn1
        subst hkn
        have c0 := HB5.out.cell 0 rfl
        have c1 := HB5.out.cell 1 rfl
        have c2 := HB5.out.cell 2 rfl
        go_wp2_with fail
        refine (jtree_any J _ _ (HV.out.below hb05) HS.out HCS2.out).mono ?_
        rintro e w6 ⟨r, rfl, hli, _, hb6⟩
        rw [H0.out, Pp.ifz_yes rfl, HTT.out] at hli
        rw [H0.out]
        have HL6 := hid hli
        have HT6 := hid (HL5.out.below hb6)
        have HB6 := hid (HB5.out.below hb6)
        have hb06 := below_tr hb05 hb6
        clear hli c0 c1 c2
        go_wp2_with fail
        refine (same_yes (Jn.trAt J J.cos.length) _ _ _ HT6.out HL6.out).mono ?_
        rintro e w7 ⟨rfl, hb7⟩
        have HB7 := hid (HB6.out.below hb7)
        have hb07 := below_tr hb06 hb7
        have c1 := HB7.out.cell 1 rfl
        have c2 := HB7.out.cell 2 rfl
        have hwr1 : IntKind.i64.wrap (J.first + (J.cos.length : Int)) = J.first + (J.cos.length : Int) := by rw [IntKind.wrap_i64]; omega
        have hwr2 : IntKind.i64.wrap (J.first + (J.cos.length : Int) - 1) = J.first - 1 + (J.cos.length : Int) := by rw [IntKind.wrap_i64]; omega
        go_wp2_with fail
        go_ret
        exact ⟨rfl, hb07⟩
  · have hz : (Jn.chkE J == 0) = false := by simpa using h0
    have hzn : (Jn.chkE J != 0) = true := by simpa using h0
    go_enter Tryz.func7, Tryz.ntmps7
    go_wp2_with fail
    rw [← hwz]
    clear hwz
    refine (journalBegun_yes _).mono ?_
    rintro e w1 ⟨rfl, hb1⟩
    have HB1 := hid (HBX.out.below hb1)
    have hb01 := below_tr hbz hb1
    have c0 := HB1.out.cell 0 rfl
    have c1 := HB1.out.cell 1 rfl
    have c2 := HB1.out.cell 2 rfl
    go_wp2_with fail
    refine (openJournal_any J _ _ (HV.out.below hb01) HP.out HCS.out).mono ?_
    rintro e w2 ⟨r, rfl, hli, hb2⟩
    have HB2 := hid (HB1.out.below hb2)
    have hb02 := below_tr hb01 hb2
    clear hli c0 c1 c2
    have c0 := HB2.out.cell 0 rfl
    have c1 := HB2.out.cell 1 rfl
    have c2 := HB2.out.cell 2 rfl
    go_wp2_with fail
    refine (jcheck_any J _ _ (HV.out.below hb02) HS.out HCS2.out).mono ?_
    rintro e w3 ⟨rfl, hb3⟩
    have hb03 := below_tr hb02 hb3
    go_wp2_with fail
    go_ret
    exact ⟨rfl, hb03⟩
end Go.Proofs.YtagdilnbbepccaaGreat
