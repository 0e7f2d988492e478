/- What the law TreeGoes answers: true, for every tree, change and version. -/
import Derived.Test.YtfimahemchacfacTPure6
import Derived.Test.YtfimahemchacfacT28
import Derived.Test.YtfimahemchacfacW12
set_option linter.unusedSimpArgs false
set_option linter.unusedVariables false
namespace Go.Proofs.Ytfimahemchacfac
open Go.RowKit

set_option maxRecDepth 100000 in
set_option maxHeartbeats 1000000 in
theorem treeGoes_walk (L : List En) (v : Value) (k : Int) (p q t : ByteArray) (b n : Int) (w : World) (hv : Lies w v L) (hs : Sized L) (hp : p.size ≤ 150000000000000) (hq : q.size ≤ 150000000000000) (ht : t.size ≤ 150000000000000) :
    Calls Try.prog 4 #[v, .agg #[.int .i64 k, .string p, .string q, .string t, .int .i64 b], .int .i64 n] w fun e w' => e = .returned (.bool true) ∧ Below w.heap.size w w' := by
  have HV : Hid (Lies w v L) := hv
  have HS : Hid (Sized L) := hs
  obtain ⟨a, cap, rfl, hcap, hcap2, hL⟩ := hv
  have HL : Hid (∀ i (h : i < L.length), ∃ b o, a = some ⟨b, o, none⟩ ∧ b < w.heap.size ∧ EnAt w b (o + i * 4) L[i]) := hL
  clear hs hL
  by_cases htap : Pp.tapE L ⟨k, p, q, t, b⟩ n = 0
  · have htr : Pp.treeE L = 0 := by
      by_cases h : Pp.treeE L = 0
      · exact h
      · rw [Pp.tapE_no h] at htap; exact absurd htap h
    have happ : Pp.appE L ⟨k, p, q, t, b⟩ n = 0 := by rw [← Pp.tapE_yes htr]; exact htap
    have hGL : Pp.Good L := (Pp.good_iff L).1 htr
    have hGR := Pp.app_good hGL happ
    obtain ⟨hver, hchg, hplc, _, _⟩ := Pp.app_parts happ
    have HE := hid htap
    have HR : Hid (Pp.tapR L ⟨k, p, q, t, b⟩ n = Pp.chdR L ⟨k, p, q, t, b⟩ n) := (by rw [Pp.tapR, Pp.ifz_yes htap] : Pp.tapR L ⟨k, p, q, t, b⟩ n = Pp.chdR L ⟨k, p, q, t, b⟩ n)
    have HEL : Hid (∀ x ∈ L, Pp.isInB x.path.data.toList p.data.toList = false → x ∈ Pp.chdR L ⟨k, p, q, t, b⟩ n) := (fun x hx h => Pp.else_kept (c := ⟨k, p, q, t, b⟩) (Pp.chg_kind hchg) hx h : ∀ x ∈ L, Pp.isInB x.path.data.toList p.data.toList = false → x ∈ Pp.chdR L ⟨k, p, q, t, b⟩ n)
    have HW : Hid (k = 2 → (⟨p, false, t, n⟩ : En) ∈ Pp.chdR L ⟨k, p, q, t, b⟩ n) := (fun h => by
      have := Pp.written (L := L) (c := ⟨k, p, q, t, b⟩) (n := n) h
      have e : Pp.newE ⟨k, p, q, t, b⟩ n = ⟨p, false, t, n⟩ := by simp [Pp.newE, h]
      rw [e] at this; exact this : k = 2 → (⟨p, false, t, n⟩ : En) ∈ Pp.chdR L ⟨k, p, q, t, b⟩ n)
    have HG := hid hGR
    have HTR : Hid (Pp.treeE (Pp.chdR L ⟨k, p, q, t, b⟩ n) = 0) := ((Pp.good_iff _).2 hGR : Pp.treeE (Pp.chdR L ⟨k, p, q, t, b⟩ n) = 0)
    have HSL : Hid (∀ e ∈ L, e.path.size ≤ 1000) := (fun e he => by rw [Lib.size_eq]; have := Pp.chk_len (Pp.entE_path (hGL.ents e he)); omega : ∀ e ∈ L, e.path.size ≤ 1000)
    have hps : p.size ≤ 1000 := by rw [Lib.size_eq]; have := Pp.chk_len (Pp.chg_path hchg); simp only at this; omega
    have hqs : k = 3 → q.size ≤ 1000 := fun h => by rw [Lib.size_eq]; have := Pp.chk_len (Pp.chg_to hchg h); simp only at this; omega
    have hL60 : L.length ≤ 60 := hGL.len
    clear htap htr happ hGL hGR hver hchg hplc
    generalize Pp.chdR L ⟨k, p, q, t, b⟩ n = R at *
    by_cases hk : k = 2
    · have hmem := HW.out hk
      have hfx := Pp.find_good HG.out hmem
      have HFX := hid hfx.1
      have HFR := hid hfx.2
      subst hk
      clear hfx hmem
      go_enter Try.func4, Try.ntmps4
      go_wp2_with fail
      refine (begun_yes _).mono ?_
      rintro e w1 ⟨rfl, hb1⟩
      obtain ⟨c0, c1, c2, c3, c4, hbw, hlt⟩ := bx5 hb1
      go_wp2_with fail
      refine (tapply_all L _ 2 p q t b n _ (HV.out.below hbw) HS.out hp hq ht).mono ?_
      rintro e w2 ⟨u, rfl, hli, hb2⟩
      rw [HE.out]
      rw [HR.out] at hli
      have HU := hid hli
      have hb02 := hb1.trans (hb2.mono hb1.size)
      clear hb1 hb2 hbw hlt c0 c1 c2 c3 c4 hli
      obtain ⟨c0, c1, c2, c3, c4, hbw, hlt⟩ := bx5 hb02
      go_wp2_with fail
      refine (tcheck_any R u _ HU.out (Nat.le_trans HG.out.len (by decide)) (Pp.good_sized HG.out)).mono ?_
      rintro e w3 ⟨rfl, hb3⟩
      rw [HTR.out]
      have HU3 := hid (HU.out.below hb3)
      have hb03 := hb02.trans (hb3.mono hb02.size)
      clear hb02 hb3 hbw hlt c0 c1 c2 c3 c4 HU
      obtain ⟨c0, c1, c2, c3, c4, hbw, hlt⟩ := bx5 hb03
      go_wp2_with fail
      refine (tfind_any R u p _ HU3.out (Nat.le_trans HG.out.len (by decide)) (Pp.good_sized HG.out) (by omega)).mono ?_
      rintro e w4 ⟨rfl, hb4⟩
      rw [show Pp.findX R p.data.toList = ⟨p, false, t, n⟩ from HFX.out, show Pp.findR R p.data.toList = 0 from HFR.out, Pp.findV]
      have HU4 := hid (HU3.out.below hb4)
      have hb04 := hb03.trans (hb4.mono hb03.size)
      clear hb03 hb4 hbw hlt c0 c1 c2 c3 c4 HU3
      obtain ⟨c0, c1, c2, c3, c4, hbw, hlt⟩ := bx5 hb04
      go_wp2_with fail
      obtain ⟨ww, hww⟩ : ∃ ww, ww = w4 := ⟨_, rfl⟩
      rw [← hww] at c0 c1 c2 hbw hlt ⊢
      have HUW : Hid (Lies ww u R) := (by rw [hww]; exact HU4.out : Lies ww u R)
      have C0 := hid c0
      have C1 := hid c1
      have C2 := hid c2
      have hbww := hbw
      have hltw := hlt
      clear hb04 hbw hlt c0 c1 c2 c3 c4 hww
      go_loopw [11] (fun i wr => ∃ j : Nat, j ≤ L.length ∧ i = .int .i64 j ∧ Below ww.heap.size ww wr) (fun i _ => L.length - (intOf i).toNat)
      case atStart => exact ⟨0, Nat.zero_le _, rfl, by first | exact Below.refl _ _ | exact (Below.refl _ _).alloc (Nat.le_refl _) _⟩
      case round =>
        obtain ⟨j, hj, rfl, hbel⟩ := hrel
        by_cases hlj : j < L.length
        · obtain ⟨b', o, rfl, hb', he⟩ := HL.out j hlj
          obtain ⟨e0, e1, e2, e3⟩ := (he.below hb' hbww).below (Nat.lt_trans hb' hltw) hbel
          have q0 := (hbel.cell (p := ⟨w.heap.size, 0, none⟩) hltw).trans C0.out
          have q1 := (hbel.cell (p := ⟨w.heap.size, 1, none⟩) hltw).trans C1.out
          have q2 := (hbel.cell (p := ⟨w.heap.size, 2, none⟩) hltw).trans C2.out
          have hsj := HSL.out L[j] (List.getElem_mem hlj)
          cases hin : Pp.isInB L[j].path.data.toList p.data.toList with
          | true =>
            have HIN := hid hin
            clear hin
            go_wp2_with fail
            refine (isIn_any L[j].path p _ (by omega) (by omega)).mono ?_
            rintro e wa ⟨rfl, hba⟩
            rw [HIN.out]
            have hbela : Below ww.heap.size ww wa := hbel.trans (hba.mono hbel.size)
            clear hbel hba e0 e1 e2 e3 q0 q1 q2
            go_wp2_with fail
            go_roundw
            case rel => exact ⟨j + 1, by omega, by simp, hbela⟩
            case measure => simp [intOf]; omega
          | false =>
            have HIN := hid hin
            go_wp2_with fail
            refine (isIn_any L[j].path p _ (by omega) (by omega)).mono ?_
            rintro e wa ⟨rfl, hba⟩
            rw [HIN.out]
            have hbela : Below ww.heap.size ww wa := hbel.trans (hba.mono hbel.size)
            have q0' := (hbela.cell (p := ⟨w.heap.size, 0, none⟩) hltw).trans C0.out
            have q2' := (hbela.cell (p := ⟨w.heap.size, 2, none⟩) hltw).trans C2.out
            clear hbel hba e0 e1 e2 e3 q0 q1 q2
            have hfj := Pp.find_good HG.out (HEL.out L[j] (List.getElem_mem hlj) hin)
            have HFX := hid hfj.1
            have HFR := hid hfj.2
            clear hfj hin
            go_wp2_with fail
            refine (tfind_any R u L[j].path _ (HUW.out.below hbela) (Nat.le_trans HG.out.len (by decide)) (Pp.good_sized HG.out) (by omega)).mono ?_
            rintro e wb ⟨rfl, hbb⟩
            rw [HFX.out, HFR.out, Pp.findV]
            have hbelb : Below ww.heap.size ww wb := hbela.trans (hbb.mono hbela.size)
            obtain ⟨d0, d1, d2, d3⟩ := (he.below hb' hbww).below (Nat.lt_trans hb' hltw) hbelb
            obtain ⟨d0', d1', d2', d3'⟩ := EnAt.below ⟨d0, d1, d2, d3⟩ (Nat.lt_of_lt_of_le (Nat.lt_trans hb' hltw) hbelb.size) ((Below.refl wb.heap.size wb).alloc (Nat.le_refl _) (.cells #[.string L[j].path, .bool L[j].folder, .string L[j].text, .int .i64 L[j].ver] 36))
            clear hbb
            go_wp2_with fail
            go_region
            go_wp2_with fail
            go_roundw
            case rel => exact ⟨j + 1, by omega, by simp, (hbelb.alloc hbelb.size _).drew⟩
            case measure => simp [intOf]; omega
        · go_wp2_with fail
          go_ret
          exact ⟨rfl, hbww.trans (hbel.mono (Nat.le_of_lt hltw))⟩
    · have hk2 : (k == 2) = false := by simpa using hk
      go_enter Try.func4, Try.ntmps4
      go_wp2_with fail
      refine (begun_yes _).mono ?_
      rintro e w1 ⟨rfl, hb1⟩
      obtain ⟨c0, c1, c2, c3, c4, hbw, hlt⟩ := bx5 hb1
      go_wp2_with fail
      refine (tapply_all L _ k p q t b n _ (HV.out.below hbw) HS.out hp hq ht).mono ?_
      rintro e w2 ⟨u, rfl, hli, hb2⟩
      rw [HE.out]
      rw [HR.out] at hli
      have HU := hid hli
      have hb02 := hb1.trans (hb2.mono hb1.size)
      clear hb1 hb2 hbw hlt c0 c1 c2 c3 c4 hli
      obtain ⟨c0, c1, c2, c3, c4, hbw, hlt⟩ := bx5 hb02
      go_wp2_with fail
      refine (tcheck_any R u _ HU.out (Nat.le_trans HG.out.len (by decide)) (Pp.good_sized HG.out)).mono ?_
      rintro e w3 ⟨rfl, hb3⟩
      rw [HTR.out]
      have HU3 := hid (HU.out.below hb3)
      have hb03 := hb02.trans (hb3.mono hb02.size)
      clear hb02 hb3 hbw hlt c0 c1 c2 c3 c4 HU
      obtain ⟨c0, c1, c2, c3, c4, hbw, hlt⟩ := bx5 hb03
      go_wp2_with fail
      obtain ⟨ww, hww⟩ : ∃ ww, ww = w3 := ⟨_, rfl⟩
      rw [← hww] at c0 c1 c2 hbw hlt ⊢
      have HUW : Hid (Lies ww u R) := (by rw [hww]; exact HU3.out : Lies ww u R)
      have C0 := hid c0
      have C1 := hid c1
      have C2 := hid c2
      have hbww := hbw
      have hltw := hlt
      clear hb03 hbw hlt c0 c1 c2 c3 c4 hww
      go_loopw [11] (fun i wr => ∃ j : Nat, j ≤ L.length ∧ i = .int .i64 j ∧ Below ww.heap.size ww wr) (fun i _ => L.length - (intOf i).toNat)
      case atStart => exact ⟨0, Nat.zero_le _, rfl, by first | exact Below.refl _ _ | exact (Below.refl _ _).alloc (Nat.le_refl _) _⟩
      case round =>
        obtain ⟨j, hj, rfl, hbel⟩ := hrel
        by_cases hlj : j < L.length
        · obtain ⟨b', o, rfl, hb', he⟩ := HL.out j hlj
          obtain ⟨e0, e1, e2, e3⟩ := (he.below hb' hbww).below (Nat.lt_trans hb' hltw) hbel
          have q0 := (hbel.cell (p := ⟨w.heap.size, 0, none⟩) hltw).trans C0.out
          have q1 := (hbel.cell (p := ⟨w.heap.size, 1, none⟩) hltw).trans C1.out
          have q2 := (hbel.cell (p := ⟨w.heap.size, 2, none⟩) hltw).trans C2.out
          have hsj := HSL.out L[j] (List.getElem_mem hlj)
          cases hin : Pp.isInB L[j].path.data.toList p.data.toList with
          | true =>
            have HIN := hid hin
            clear hin
            go_wp2_with fail
            refine (isIn_any L[j].path p _ (by omega) (by omega)).mono ?_
            rintro e wa ⟨rfl, hba⟩
            rw [HIN.out]
            have hbela : Below ww.heap.size ww wa := hbel.trans (hba.mono hbel.size)
            clear hbel hba e0 e1 e2 e3 q0 q1 q2
            go_wp2_with fail
            go_roundw
            case rel => exact ⟨j + 1, by omega, by simp, hbela⟩
            case measure => simp [intOf]; omega
          | false =>
            have HIN := hid hin
            by_cases hk3 : k = 3
            · subst hk3
              have hqs' := hqs rfl
              cases hin2 : Pp.isInB L[j].path.data.toList q.data.toList with
              | true =>
                have HIN2 := hid hin2
                clear hin2 hin
                go_wp2_with fail
                refine (isIn_any L[j].path p _ (by omega) (by omega)).mono ?_
                rintro e wa ⟨rfl, hba⟩
                rw [HIN.out]
                have hbela : Below ww.heap.size ww wa := hbel.trans (hba.mono hbel.size)
                have q0' := (hbela.cell (p := ⟨w.heap.size, 0, none⟩) hltw).trans C0.out
                have q2' := (hbela.cell (p := ⟨w.heap.size, 2, none⟩) hltw).trans C2.out
                clear hbel hba e0 e1 e2 e3 q0 q1 q2
                go_wp2_with fail
                refine (isIn_any L[j].path q _ (by omega) (by omega)).mono ?_
                rintro e wc ⟨rfl, hbc⟩
                rw [HIN2.out]
                have hbelc : Below ww.heap.size ww wc := hbela.trans (hbc.mono hbela.size)
                clear hbela hbc q0' q2'
                go_wp2_with fail
                go_roundw
                case rel => exact ⟨j + 1, by omega, by simp, hbelc⟩
                case measure => simp [intOf]; omega
              | false =>
                have HIN2 := hid hin2
                clear hin2
                go_wp2_with fail
                refine (isIn_any L[j].path p _ (by omega) (by omega)).mono ?_
                rintro e wa ⟨rfl, hba⟩
                rw [HIN.out]
                have hbela : Below ww.heap.size ww wa := hbel.trans (hba.mono hbel.size)
                have q0' := (hbela.cell (p := ⟨w.heap.size, 0, none⟩) hltw).trans C0.out
                have q2' := (hbela.cell (p := ⟨w.heap.size, 2, none⟩) hltw).trans C2.out
                clear hbel hba e0 e1 e2 e3 q0 q1 q2
                go_wp2_with fail
                refine (isIn_any L[j].path q _ (by omega) (by omega)).mono ?_
                rintro e wc ⟨rfl, hbc⟩
                rw [HIN2.out]
                have hbelc : Below ww.heap.size ww wc := hbela.trans (hbc.mono hbela.size)
                clear hbela hbc q0' q2'
                have hfj := Pp.find_good HG.out (HEL.out L[j] (List.getElem_mem hlj) hin)
                have HFX := hid hfj.1
                have HFR := hid hfj.2
                clear hfj hin
                go_wp2_with fail
                refine (tfind_any R u L[j].path _ (HUW.out.below hbelc) (Nat.le_trans HG.out.len (by decide)) (Pp.good_sized HG.out) (by omega)).mono ?_
                rintro e wb ⟨rfl, hbb⟩
                rw [HFX.out, HFR.out, Pp.findV]
                have hbelb : Below ww.heap.size ww wb := hbelc.trans (hbb.mono hbelc.size)
                obtain ⟨d0, d1, d2, d3⟩ := (he.below hb' hbww).below (Nat.lt_trans hb' hltw) hbelb
                obtain ⟨d0', d1', d2', d3'⟩ := EnAt.below ⟨d0, d1, d2, d3⟩ (Nat.lt_of_lt_of_le (Nat.lt_trans hb' hltw) hbelb.size) ((Below.refl wb.heap.size wb).alloc (Nat.le_refl _) (.cells #[.string L[j].path, .bool L[j].folder, .string L[j].text, .int .i64 L[j].ver] 36))
                clear hbb
                go_wp2_with fail
                go_region
                go_wp2_with fail
                go_roundw
                case rel => exact ⟨j + 1, by omega, by simp, (hbelb.alloc hbelb.size _).drew⟩
                case measure => simp [intOf]; omega
            · have hk3' : (k == 3) = false := by simpa using hk3
              go_wp2_with fail
              refine (isIn_any L[j].path p _ (by omega) (by omega)).mono ?_
              rintro e wa ⟨rfl, hba⟩
              rw [HIN.out]
              have hbela : Below ww.heap.size ww wa := hbel.trans (hba.mono hbel.size)
              have q0' := (hbela.cell (p := ⟨w.heap.size, 0, none⟩) hltw).trans C0.out
              have q2' := (hbela.cell (p := ⟨w.heap.size, 2, none⟩) hltw).trans C2.out
              clear hbel hba e0 e1 e2 e3 q0 q1 q2
              have hfj := Pp.find_good HG.out (HEL.out L[j] (List.getElem_mem hlj) hin)
              have HFX := hid hfj.1
              have HFR := hid hfj.2
              clear hfj hin
              go_wp2_with fail
              refine (tfind_any R u L[j].path _ (HUW.out.below hbela) (Nat.le_trans HG.out.len (by decide)) (Pp.good_sized HG.out) (by omega)).mono ?_
              rintro e wb ⟨rfl, hbb⟩
              rw [HFX.out, HFR.out, Pp.findV]
              have hbelb : Below ww.heap.size ww wb := hbela.trans (hbb.mono hbela.size)
              obtain ⟨d0, d1, d2, d3⟩ := (he.below hb' hbww).below (Nat.lt_trans hb' hltw) hbelb
              obtain ⟨d0', d1', d2', d3'⟩ := EnAt.below ⟨d0, d1, d2, d3⟩ (Nat.lt_of_lt_of_le (Nat.lt_trans hb' hltw) hbelb.size) ((Below.refl wb.heap.size wb).alloc (Nat.le_refl _) (.cells #[.string L[j].path, .bool L[j].folder, .string L[j].text, .int .i64 L[j].ver] 36))
              clear hbb
              go_wp2_with fail
              go_region
              go_wp2_with fail
              go_roundw
              case rel => exact ⟨j + 1, by omega, by simp, (hbelb.alloc hbelb.size _).drew⟩
              case measure => simp [intOf]; omega
        · go_wp2_with fail
          go_ret
          exact ⟨rfl, hbww.trans (hbel.mono (Nat.le_of_lt hltw))⟩
  · have HR : Hid (Pp.tapR L ⟨k, p, q, t, b⟩ n = []) := (by rw [Pp.tapR, Pp.ifz_no htap] : Pp.tapR L ⟨k, p, q, t, b⟩ n = [])
    have hz : (Pp.tapE L ⟨k, p, q, t, b⟩ n == 0) = false := by simpa using htap
    go_enter Try.func4, Try.ntmps4
    go_wp2_with fail
    refine (begun_yes _).mono ?_
    rintro e w1 ⟨rfl, hb1⟩
    obtain ⟨c0, c1, c2, c3, c4, hbw, hlt⟩ := bx5 hb1
    clear hb1
    go_wp2_with fail
    refine (tapply_all L _ k p q t b n _ (HV.out.below hbw) HS.out hp hq ht).mono ?_
    rintro e w2 ⟨u, rfl, hli, hb2⟩
    rw [HR.out] at hli
    obtain ⟨a', cap', rfl, _, _, _⟩ := hli
    have hb02 := hbw.trans (hb2.mono (Nat.le_of_lt hlt))
    clear hb2 hbw hlt c0 c1 c2 c3 c4
    go_wp2_with fail
    go_ret
    exact ⟨rfl, hb02⟩
end Go.Proofs.Ytfimahemchacfac
