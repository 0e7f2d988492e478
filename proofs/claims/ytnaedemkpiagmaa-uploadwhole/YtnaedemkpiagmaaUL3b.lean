/- What the law UploadWhole answers, where the name is one and the text is not too long: true. -/
import Derived.Test.YtnaedemkpiagmaaUL3
import Derived.Test.YtnaedemkpiagmaaU28
set_option linter.unusedSimpArgs false
set_option linter.unusedVariables false
namespace Go.Proofs.Ytnaedemkpiagmaa
open Go.RowKit

set_option maxRecDepth 100000 in
set_option maxHeartbeats 8000000 in
theorem uploadWhole_yes (p t : ByteArray) (v : Value) (C : List Int) (q : Int) (w : World) (hv : LiesI w v C) (hq1 : -9223372036854775808 ≤ q) (hq2 : q ≤ 9223372036854775807) (hn : Pp.nameB p.data.toList = true) (ht : t.size ≤ 300) :
    Calls Try.prog 6 #[.string p, .string t, v, .int .i64 q] w fun e w' => e = .returned (.bool true) ∧ Below w.heap.size w w' := by
  have hps : p.size ≤ 20 := by
    have := Pp.name_len hn
    rw [Lib.size_eq]; exact this
  have HV := ghid hv
  obtain ⟨av, capv, rfl, hcv1, hcv2, _, hrg⟩ := hv
  have HRG := ghid hrg
  have HN := ghid hn
  have h3i : ¬ 300 < (t.size : Int) := by omega
  have HGO := ghid (Pp.w0_go hn)
  have HWL := ghid (Pp.w0_list p t)
  have HQ := ghid (Pp.chF_lt (c := q) (n := 3) (by decide))
  obtain ⟨qn, hqn⟩ : ∃ qn : Nat, Pp.chF q 3 = (qn : Int) := ⟨(Pp.chF q 3).toNat, by have := HQ.out.1; omega⟩
  have hqn3 : qn < 3 := by have := HQ.out.2; omega
  have HQN := ghid hqn
  clear hrg hn hqn
  go_enter Try.func6, Try.ntmps6
  go_wp2_with fail
  refine (uploadBegun_yes _).mono ?_
  rintro e w1 ⟨rfl, hb1⟩
  go_wp2_with fail
  refine (rIsName_any p _ (by omega)).mono ?_
  rintro e w2 ⟨rfl, hw⟩
  rw [hw, HN.out]
  clear hw w2
  go_wp2_with fail
  refine (open_k [] _ 7 10 1000 p t.size 3 _ (liesS_nil _) (fun g hg => by cases hg) (by omega) HGO.out (by omega) (by omega) (by decide) (by decide) (by show Pp.takS [] p + (t.size : Int) ≤ 1000; simp [Pp.takS]; omega)).mono ?_
  rintro e w4 ⟨u4, rfl, hown4, hb4⟩
  rw [HWL.out] at hown4
  have HO4 := ghid hown4
  obtain ⟨a4, cap4, hu4, _, _, _⟩ := HO4.out.lies (by simp)
  subst hu4
  have hb04 := below_trans hb1 hb4
  clear hb4 hb1 hown4
  obtain ⟨wx, hwx⟩ : ∃ wx, wx = w4.alloc (.cells #[.slice a4 1 cap4, .int .i64 8, .int .i64 10, .int .i64 1000] 24) := ⟨_, rfl⟩
  have hbx : Below w4.heap.size w4 wx := by rw [hwx]; exact (Below.refl _ _).alloc (Nat.le_refl _) _
  have HX : Hid (Bx wx w4.heap.size (.slice a4 1 cap4) (.int .i64 8) (.int .i64 10) (.int .i64 1000)) := (by rw [hwx]; exact Bx.new _ _ _ _ _ _ : Bx wx w4.heap.size (.slice a4 1 cap4) (.int .i64 8) (.int .i64 10) (.int .i64 1000))
  have hszx : wx.heap.size = w4.heap.size + 1 := by rw [hwx]; simp
  have HLX : Hid (LiesS wx (.slice a4 1 cap4) [Pp.who1 p t 0 13]) := ((HO4.out.lies (by simp)).below hbx : LiesS wx (.slice a4 1 cap4) [Pp.who1 p t 0 13])
  have HNX : Hid (∀ b o, a4 = some ⟨b, o, none⟩ → b ≠ w4.heap.size) := (fun b o e => by
    rcases HO4.out with ⟨h1, h2⟩ | ⟨g, cap, h1, _, _, h4, _⟩
    · cases h2
    · injection h1 with h1
      rw [e] at h1
      injection h1 with h1
      injection h1 with h1
      have := h4.1
      omega : ∀ b o, a4 = some ⟨b, o, none⟩ → b ≠ w4.heap.size)
  go_wp2_with fail
  rw [← hwx]
  clear hwx
  go_loopw [12, 13] (fun at_ i wr => ∃ (a k : Nat) (au : Option Addr) (cu : Nat) (till : Int), a ≤ t.size ∧ k ≤ C.length + 1 ∧ k ≤ 30 ∧ at_ = .int .i64 a ∧ i = .int .i64 k ∧ Hid (Bx wr w4.heap.size (.slice au 1 cu) (.int .i64 8) (.int .i64 10) (.int .i64 1000)) ∧ Hid (LiesS wr (.slice au 1 cu) [Pp.who1 p t a till]) ∧ Hid (∀ b o, au = some ⟨b, o, none⟩ → b ≠ w4.heap.size) ∧ 13 ≤ till ∧ till ≤ 14 ∧ Hid (C.length < k ∨ 30 ≤ k → a = t.size) ∧ Below w4.heap.size w4 wr) (fun _ i _ => 40 - (intOf i).toNat)
  case atStart => exact ⟨0, 0, a4, cap4, 13, by omega, by omega, by omega, rfl, rfl, HX, HLX, HNX, by omega, by omega, (fun h => by omega : C.length < 0 ∨ 30 ≤ 0 → 0 = t.size), hbx⟩
  case round =>
    clear HX HLX HNX HO4 HWL HGO hszx
    obtain ⟨a, k, au, cu, till, ha, hk, hk30, rfl, rfl, HB, HL, HNE, htl1, htl2, HFIN, hbel⟩ := hrel
    have hb0r : Below w.heap.size w wr := hb04.trans (hbel.mono hb04.size)
    have hai : (a : Int) ≤ (t.size : Int) := by omega
    by_cases hgo : k ≤ C.length ∧ k < 30
    · obtain ⟨hg1, hg2⟩ := hgo
      have hg1i : (k : Int) ≤ (C.length : Int) := by omega
      have hg2i : (k : Int) < 30 := by omega
      by_cases hin : k < C.length ∧ k < 29
      · obtain ⟨hi1, hi2⟩ := hin
        have hi1i : (k : Int) < (C.length : Int) := by omega
        have hi2i : (k : Int) < 29 := by omega
        obtain ⟨_, _, hvv, _, _, hcell, _⟩ := HV.out.below hb0r
        injection hvv with hvv1 _ hvv3
        subst hvv1
        obtain ⟨bb, oo, hav, hbb, hcl⟩ := hcell k hi1
        subst hav
        clear hcell hvv3
        have hck := HRG.out C[k] (List.getElem_mem hi1)
        have HCH := ghid (Pp.chF_lt (c := C[k]) (n := (t.size : Int) - a + 1) (by omega))
        obtain ⟨m, hm⟩ : ∃ m : Nat, Pp.chF C[k] ((t.size : Int) - a + 1) = (m : Int) := ⟨(Pp.chF C[k] ((t.size : Int) - a + 1)).toNat, by have := HCH.out.1; omega⟩
        have hm3 : a + m ≤ t.size := by have := HCH.out.2; omega
        have HM := ghid hm
        have hw1 : IntKind.i64.wrap ((t.size : Int) - a) = (t.size : Int) - a := by rw [IntKind.wrap_i64]; omega
        have hw2 : IntKind.i64.wrap ((t.size : Int) - a + 1) = (t.size : Int) - a + 1 := by rw [IntKind.wrap_i64]; omega
        have hw3 : IntKind.i64.wrap ((a : Int) + m) = ((a + m : Nat) : Int) := by rw [IntKind.wrap_i64]; omega
        generalize hcg : C[k] = ck at *
        clear hm hcg HCH
        go_wp2_with fail
        refine (choose_any ck ((t.size : Int) - a + 1) _ hck.1 hck.2 (by omega) (by omega)).mono ?_
        rintro e wc ⟨rfl, hw⟩
        rw [hw, HM.out]
        clear hw wc hcl hbb
        go_wp2_with fail
        first | rw [hw3] | rw [show ((a : Int) + (m : Int)) = ((a + m : Nat) : Int) from by omega]
        clear hw1 hw2 hw3 HM
        obtain ⟨b, hb⟩ : ∃ b, b = a + m := ⟨_, rfl⟩
        rw [← hb] at hm3 ⊢
        have hab : a ≤ b := by omega
        have hbt : b ≤ t.size := hm3
        have habi : (a : Int) ≤ (b : Int) := by omega
        have hbti : (b : Int) ≤ (t.size : Int) := by omega
        clear hb hm3
        clear HFIN
        obtain ⟨wo, hwo⟩ : ∃ wo : World, wo = wr := ⟨_, rfl⟩
        rw [← hwo] at HB HL hbel hb0r ⊢
        clear hwo wr
        go_loopw [15] (fun kk wr => ∃ (j c : Nat) (ai : Option Addr) (ci : Nat) (tl : Int), kk = .int .i64 j ∧ j ≤ qn + 1 ∧ (c = a ∨ c = b) ∧ (j = 0 ∨ c = b) ∧ Hid (Bx wr w4.heap.size (.slice ai 1 ci) (.int .i64 8) (.int .i64 10) (.int .i64 1000)) ∧ Hid (LiesS wr (.slice ai 1 ci) [Pp.who1 p t c tl]) ∧ Hid (∀ b o, ai = some ⟨b, o, none⟩ → b ≠ w4.heap.size) ∧ 13 ≤ tl ∧ tl ≤ 14 ∧ Below w4.heap.size w4 wr) (fun kk _ => 10 - (intOf kk).toNat)
        case atStart => exact ⟨0, a, au, cu, till, rfl, by omega, Or.inl rfl, Or.inl rfl, HB, HL, HNE, htl1, htl2, hbel⟩
        case round =>
          clear HB HL HNE htl1 htl2 hbel hb0r till cu au
          obtain ⟨j, c, ai, ci, tl, rfl, hj, hc, hjc, HB, HL, HNE, htl1, htl2, hbel⟩ := hrel
          have hb0r : Below w.heap.size w wr := hb04.trans (hbel.mono hb04.size)
          have hszr := HB.out.1
          by_cases hjq : j ≤ qn
          · have hjqi : (j : Int) ≤ (qn : Int) := by omega
            go_wp2_with fail
            refine (choose_any q 3 _ hq1 hq2 (by decide) (by decide)).mono ?_
            rintro e wc ⟨rfl, hw⟩
            rw [hw, HQN.out]
            clear hw wc
            obtain ⟨hUb, ⟨u0, u1, u2, u3⟩, g0, g1, g2, g3⟩ := HB.out
            go_wp2_with fail
            have hne9 : wr.heap.size ≠ w4.heap.size := by omega
            go_region_held3 (fun W => W.cell? ⟨w4.heap.size, 0, none⟩ = some (.slice ai 1 ci) ∧ W.cell? ⟨w4.heap.size, 1, none⟩ = some (.int .i64 8) ∧ W.cell? ⟨w4.heap.size, 2, none⟩ = some (.int .i64 10) ∧ W.cell? ⟨w4.heap.size, 3, none⟩ = some (.int .i64 1000)) (go_keep) (first
              | (go_at_call 11; refine (w1_append p t c a b tl _ _ (HL.out.below (by go_grown)) HN.out (by omega) hab hbt ht hc htl1 htl2).mono ?_; rintro e w5 ⟨u5, tl5, rfl, hown5, ht51, ht52, hb5⟩; have hwr5 : Below wr.heap.size wr w5 := Below.trans (by go_grown) (hb5.mono (by simp)); obtain ⟨a5, cap5, hu5, hc5, _, _⟩ := hown5.lies (by simp); subst hu5; have HO5 := ghid hown5; obtain ⟨_, ⟨k0, k1, k2, k3⟩, _⟩ := HB.out.below hwr5; (try (have hX : Bx w5 wr.heap.size (.slice none 0 0) (.int .i64 0) (.int .i64 0) (.int .i64 0) := ((Bx.new wr (.slice none 0 0) (.int .i64 0) (.int .i64 0) (.int .i64 0) 24).below (Below.refl _ _).drew).below hb5; obtain ⟨xb, ⟨x0, x1, x2, x3⟩, m0, m1, m2, m3⟩ := hX)); have hne5 : w5.heap.size ≠ w4.heap.size := (by have := hwr5.size; omega); clear hown5))
            · skip
              obtain ⟨wy, hwy⟩ : ∃ wy, wy = w5.alloc (.cells #[.slice a5 1 cap5, .int .i64 8, .int .i64 10, .int .i64 1000] 24) := ⟨_, rfl⟩
              have hby : Below w5.heap.size w5 wy := by rw [hwy]; exact (Below.refl _ _).alloc (Nat.le_refl _) _
              have HBX : Hid (Bx wy w5.heap.size (.slice a5 1 cap5) (.int .i64 8) (.int .i64 10) (.int .i64 1000)) := (by rw [hwy]; exact Bx.new _ _ _ _ _ _ : Bx wy w5.heap.size (.slice a5 1 cap5) (.int .i64 8) (.int .i64 10) (.int .i64 1000))
              have HBU : Hid (Bx wy w4.heap.size (.slice ai 1 ci) (.int .i64 8) (.int .i64 10) (.int .i64 1000)) := ((HB.out.below hwr5).below hby : Bx wy w4.heap.size (.slice ai 1 ci) (.int .i64 8) (.int .i64 10) (.int .i64 1000))
              have HOY : Hid (OwnS wr.heap.size wy (.slice a5 1 cap5) [Pp.who1 p t b tl5]) := (HO5.out.below hby : OwnS wr.heap.size wy (.slice a5 1 cap5) [Pp.who1 p t b tl5])
              have hb4y : Below w4.heap.size w4 wy := below_trans (below_trans hbel hwr5) hby
              clear hby HO5
              have HNQ : Hid (∀ b o, a5 = some ⟨b, o, none⟩ → b ≠ w4.heap.size) := (fun b o e => by
                rcases HOY.out with ⟨h1, h2⟩ | ⟨g, cap, h1, h2, _⟩
                · cases h2
                · injection h1 with h1
                  rw [e] at h1
                  injection h1 with h1
                  injection h1 with h1
                  omega : ∀ b o, a5 = some ⟨b, o, none⟩ → b ≠ w4.heap.size)
              obtain ⟨wq, hwq⟩ : ∃ wq, wq = ((((wy.setCell ⟨w4.heap.size, 0, none⟩ (.slice a5 1 cap5)).setCell ⟨w4.heap.size, 1, none⟩ (.int .i64 8)).setCell ⟨w4.heap.size, 2, none⟩ (.int .i64 10)).setCell ⟨w4.heap.size, 3, none⟩ (.int .i64 1000)) := ⟨_, rfl⟩
              have hnbq : wy.grownBy wq (some w4.heap.size) := by rw [hwq]; exact Nb.set4 _ _ _ _ _ _
              have HBQ : Hid (Bx wq w4.heap.size (.slice a5 1 cap5) (.int .i64 8) (.int .i64 10) (.int .i64 1000)) := (by
                obtain ⟨hWb, ⟨d0, d1, d2, d3⟩, e0, e1, e2, e3⟩ := HBU.out
                rw [hwq]
                exact ⟨by simpa using hWb, ⟨by simp [go_sem, d0, d1, d2, d3], by simp [go_sem, d0, d1, d2, d3], by simp [go_sem, d0, d1, d2, d3], by simp [go_sem, d0, d1, d2, d3]⟩, by simpa using e0, by simpa using e1, by simpa using e2, by simpa using e3⟩ : Bx wq w4.heap.size (.slice a5 1 cap5) (.int .i64 8) (.int .i64 10) (.int .i64 1000))
              have HLQ : Hid (LiesS wq (.slice a5 1 cap5) [Pp.who1 p t b tl5]) := ((HOY.out.nb hnbq (by omega)).lies (by simp) : LiesS wq (.slice a5 1 cap5) [Pp.who1 p t b tl5])
              have hb4q : Below w4.heap.size w4 wq := hb4y.trans (Nb.to hnbq hb4y.size (Nat.le_refl _))
              clear hnbq k0 k1 k2 k3 u0 u1 u2 u3 g0 g1 g2 g3 HOY hb4y
              obtain ⟨hXb, ⟨x0, x1, x2, x3⟩, _⟩ := HBX.out
              obtain ⟨hUb2, ⟨d0, d1, d2, d3⟩, e0, e1, e2, e3⟩ := HBU.out
              rw [← hwy]
              clear hwy
              go_wp2_with fail
              rw [← hwq]
              clear hwq d0 d1 d2 d3 e0 e1 e2 e3 x0 x1 x2 x3
              go_roundw
              case rel => exact ⟨j + 1, b, a5, cap5, tl5, by simp, by omega, Or.inr rfl, Or.inr rfl, HBQ, HLQ, HNQ, ht51, ht52, hb4q⟩
              case measure => simp [intOf]; omega
            · skip
              obtain ⟨wy, hwy⟩ : ∃ wy, wy = ((((w5.setCell ⟨wr.heap.size, 0, none⟩ (.slice a5 1 cap5)).setCell ⟨wr.heap.size, 1, none⟩ (.int .i64 8)).setCell ⟨wr.heap.size, 2, none⟩ (.int .i64 10)).setCell ⟨wr.heap.size, 3, none⟩ (.int .i64 1000)) := ⟨_, rfl⟩
              have hnb : w5.grownBy wy (some wr.heap.size) := by rw [hwy]; exact Nb.set4 _ _ _ _ _ _
              have HBX : Hid (Bx wy wr.heap.size (.slice a5 1 cap5) (.int .i64 8) (.int .i64 10) (.int .i64 1000)) := (by
                rw [hwy]
                exact ⟨by simpa using xb, ⟨by simp [go_sem, x0, x1, x2, x3], by simp [go_sem, x0, x1, x2, x3], by simp [go_sem, x0, x1, x2, x3], by simp [go_sem, x0, x1, x2, x3]⟩, by simpa using m0, by simpa using m1, by simpa using m2, by simpa using m3⟩ : Bx wy wr.heap.size (.slice a5 1 cap5) (.int .i64 8) (.int .i64 10) (.int .i64 1000))
              have HBU : Hid (Bx wy w4.heap.size (.slice ai 1 ci) (.int .i64 8) (.int .i64 10) (.int .i64 1000)) := ((HB.out.below hwr5).nb hnb (Ne.symm hne9) : Bx wy w4.heap.size (.slice ai 1 ci) (.int .i64 8) (.int .i64 10) (.int .i64 1000))
              have HOY : Hid (OwnS wr.heap.size wy (.slice a5 1 cap5) [Pp.who1 p t b tl5]) := ((HO5.out.nb hnb (by simp)).mono (by simp) : OwnS wr.heap.size wy (.slice a5 1 cap5) [Pp.who1 p t b tl5])
              have hb4y : Below w4.heap.size w4 wy := (below_trans hbel hwr5).trans (Nb.to hnb (below_trans hbel hwr5).size (by omega))
              clear hnb HO5 xb x0 x1 x2 x3 m0 m1 m2 m3
              have HNQ : Hid (∀ b o, a5 = some ⟨b, o, none⟩ → b ≠ w4.heap.size) := (fun b o e => by
                rcases HOY.out with ⟨h1, h2⟩ | ⟨g, cap, h1, h2, _⟩
                · cases h2
                · injection h1 with h1
                  rw [e] at h1
                  injection h1 with h1
                  injection h1 with h1
                  omega : ∀ b o, a5 = some ⟨b, o, none⟩ → b ≠ w4.heap.size)
              obtain ⟨wq, hwq⟩ : ∃ wq, wq = ((((wy.setCell ⟨w4.heap.size, 0, none⟩ (.slice a5 1 cap5)).setCell ⟨w4.heap.size, 1, none⟩ (.int .i64 8)).setCell ⟨w4.heap.size, 2, none⟩ (.int .i64 10)).setCell ⟨w4.heap.size, 3, none⟩ (.int .i64 1000)) := ⟨_, rfl⟩
              have hnbq : wy.grownBy wq (some w4.heap.size) := by rw [hwq]; exact Nb.set4 _ _ _ _ _ _
              have HBQ : Hid (Bx wq w4.heap.size (.slice a5 1 cap5) (.int .i64 8) (.int .i64 10) (.int .i64 1000)) := (by
                obtain ⟨hWb, ⟨d0, d1, d2, d3⟩, e0, e1, e2, e3⟩ := HBU.out
                rw [hwq]
                exact ⟨by simpa using hWb, ⟨by simp [go_sem, d0, d1, d2, d3], by simp [go_sem, d0, d1, d2, d3], by simp [go_sem, d0, d1, d2, d3], by simp [go_sem, d0, d1, d2, d3]⟩, by simpa using e0, by simpa using e1, by simpa using e2, by simpa using e3⟩ : Bx wq w4.heap.size (.slice a5 1 cap5) (.int .i64 8) (.int .i64 10) (.int .i64 1000))
              have HLQ : Hid (LiesS wq (.slice a5 1 cap5) [Pp.who1 p t b tl5]) := ((HOY.out.nb hnbq (by omega)).lies (by simp) : LiesS wq (.slice a5 1 cap5) [Pp.who1 p t b tl5])
              have hb4q : Below w4.heap.size w4 wq := hb4y.trans (Nb.to hnbq hb4y.size (Nat.le_refl _))
              clear hnbq k0 k1 k2 k3 u0 u1 u2 u3 g0 g1 g2 g3 HOY hb4y
              obtain ⟨hXb, ⟨x0, x1, x2, x3⟩, _⟩ := HBX.out
              obtain ⟨hUb2, ⟨d0, d1, d2, d3⟩, e0, e1, e2, e3⟩ := HBU.out
              rw [← hwy]
              clear hwy
              go_wp2_with fail
              rw [← hwq]
              clear hwq d0 d1 d2 d3 e0 e1 e2 e3 x0 x1 x2 x3
              go_roundw
              case rel => exact ⟨j + 1, b, a5, cap5, tl5, by simp, by omega, Or.inr rfl, Or.inr rfl, HBQ, HLQ, HNQ, ht51, ht52, hb4q⟩
              case measure => simp [intOf]; omega
          · have hjqi : ¬ (j : Int) ≤ (qn : Int) := by omega
            obtain rfl : b = c := by omega
            go_wp2_with fail
            refine (choose_any q 3 _ hq1 hq2 (by decide) (by decide)).mono ?_
            rintro e wc ⟨rfl, hw⟩
            rw [hw, HQN.out]
            clear hw wc
            go_wp2_with fail
            go_roundw
            case rel => exact ⟨b, k + 1, ai, ci, tl, hbt, by omega, by omega, rfl, by simp, HB, HL, HNE, htl1, htl2, (fun h => absurd h (by omega) : C.length < k + 1 ∨ 30 ≤ k + 1 → b = t.size), hbel⟩
            case measure => simp [intOf]; omega
      · have hin2 : ¬ (k : Int) < (C.length : Int) ∨ ((k : Int) < (C.length : Int) ∧ ¬ (k : Int) < 29) := by omega
        have hnin : C.length ≤ k ∨ 29 ≤ k := by omega
        clear hin
        have hab : a ≤ t.size := by omega
        have hbt : t.size ≤ t.size := by omega
        rcases hin2 with hi1i | ⟨hi1i, hi2i⟩
        · skip
          go_wp2_with fail
          clear HFIN
          obtain ⟨wo, hwo⟩ : ∃ wo : World, wo = wr := ⟨_, rfl⟩
          rw [← hwo] at HB HL hbel hb0r ⊢
          clear hwo wr
          go_loopw [15] (fun kk wr => ∃ (j c : Nat) (ai : Option Addr) (ci : Nat) (tl : Int), kk = .int .i64 j ∧ j ≤ qn + 1 ∧ (c = a ∨ c = t.size) ∧ (j = 0 ∨ c = t.size) ∧ Hid (Bx wr w4.heap.size (.slice ai 1 ci) (.int .i64 8) (.int .i64 10) (.int .i64 1000)) ∧ Hid (LiesS wr (.slice ai 1 ci) [Pp.who1 p t c tl]) ∧ Hid (∀ b o, ai = some ⟨b, o, none⟩ → b ≠ w4.heap.size) ∧ 13 ≤ tl ∧ tl ≤ 14 ∧ Below w4.heap.size w4 wr) (fun kk _ => 10 - (intOf kk).toNat)
          case atStart => exact ⟨0, a, au, cu, till, rfl, by omega, Or.inl rfl, Or.inl rfl, HB, HL, HNE, htl1, htl2, hbel⟩
          case round =>
            clear HB HL HNE htl1 htl2 hbel hb0r till cu au
            obtain ⟨j, c, ai, ci, tl, rfl, hj, hc, hjc, HB, HL, HNE, htl1, htl2, hbel⟩ := hrel
            have hb0r : Below w.heap.size w wr := hb04.trans (hbel.mono hb04.size)
            have hszr := HB.out.1
            by_cases hjq : j ≤ qn
            · have hjqi : (j : Int) ≤ (qn : Int) := by omega
              go_wp2_with fail
              refine (choose_any q 3 _ hq1 hq2 (by decide) (by decide)).mono ?_
              rintro e wc ⟨rfl, hw⟩
              rw [hw, HQN.out]
              clear hw wc
              obtain ⟨hUb, ⟨u0, u1, u2, u3⟩, g0, g1, g2, g3⟩ := HB.out
              go_wp2_with fail
              have hne9 : wr.heap.size ≠ w4.heap.size := by omega
              go_region_held3 (fun W => W.cell? ⟨w4.heap.size, 0, none⟩ = some (.slice ai 1 ci) ∧ W.cell? ⟨w4.heap.size, 1, none⟩ = some (.int .i64 8) ∧ W.cell? ⟨w4.heap.size, 2, none⟩ = some (.int .i64 10) ∧ W.cell? ⟨w4.heap.size, 3, none⟩ = some (.int .i64 1000)) (go_keep) (first
                | (go_at_call 11; refine (w1_append p t c a t.size tl _ _ (HL.out.below (by go_grown)) HN.out (by omega) hab hbt ht hc htl1 htl2).mono ?_; rintro e w5 ⟨u5, tl5, rfl, hown5, ht51, ht52, hb5⟩; have hwr5 : Below wr.heap.size wr w5 := Below.trans (by go_grown) (hb5.mono (by simp)); obtain ⟨a5, cap5, hu5, hc5, _, _⟩ := hown5.lies (by simp); subst hu5; have HO5 := ghid hown5; obtain ⟨_, ⟨k0, k1, k2, k3⟩, _⟩ := HB.out.below hwr5; (try (have hX : Bx w5 wr.heap.size (.slice none 0 0) (.int .i64 0) (.int .i64 0) (.int .i64 0) := ((Bx.new wr (.slice none 0 0) (.int .i64 0) (.int .i64 0) (.int .i64 0) 24).below (Below.refl _ _).drew).below hb5; obtain ⟨xb, ⟨x0, x1, x2, x3⟩, m0, m1, m2, m3⟩ := hX)); have hne5 : w5.heap.size ≠ w4.heap.size := (by have := hwr5.size; omega); clear hown5))
              · skip
                obtain ⟨wy, hwy⟩ : ∃ wy, wy = w5.alloc (.cells #[.slice a5 1 cap5, .int .i64 8, .int .i64 10, .int .i64 1000] 24) := ⟨_, rfl⟩
                have hby : Below w5.heap.size w5 wy := by rw [hwy]; exact (Below.refl _ _).alloc (Nat.le_refl _) _
                have HBX : Hid (Bx wy w5.heap.size (.slice a5 1 cap5) (.int .i64 8) (.int .i64 10) (.int .i64 1000)) := (by rw [hwy]; exact Bx.new _ _ _ _ _ _ : Bx wy w5.heap.size (.slice a5 1 cap5) (.int .i64 8) (.int .i64 10) (.int .i64 1000))
                have HBU : Hid (Bx wy w4.heap.size (.slice ai 1 ci) (.int .i64 8) (.int .i64 10) (.int .i64 1000)) := ((HB.out.below hwr5).below hby : Bx wy w4.heap.size (.slice ai 1 ci) (.int .i64 8) (.int .i64 10) (.int .i64 1000))
                have HOY : Hid (OwnS wr.heap.size wy (.slice a5 1 cap5) [Pp.who1 p t t.size tl5]) := (HO5.out.below hby : OwnS wr.heap.size wy (.slice a5 1 cap5) [Pp.who1 p t t.size tl5])
                have hb4y : Below w4.heap.size w4 wy := below_trans (below_trans hbel hwr5) hby
                clear hby HO5
                have HNQ : Hid (∀ b o, a5 = some ⟨b, o, none⟩ → b ≠ w4.heap.size) := (fun b o e => by
                  rcases HOY.out with ⟨h1, h2⟩ | ⟨g, cap, h1, h2, _⟩
                  · cases h2
                  · injection h1 with h1
                    rw [e] at h1
                    injection h1 with h1
                    injection h1 with h1
                    omega : ∀ b o, a5 = some ⟨b, o, none⟩ → b ≠ w4.heap.size)
                obtain ⟨wq, hwq⟩ : ∃ wq, wq = ((((wy.setCell ⟨w4.heap.size, 0, none⟩ (.slice a5 1 cap5)).setCell ⟨w4.heap.size, 1, none⟩ (.int .i64 8)).setCell ⟨w4.heap.size, 2, none⟩ (.int .i64 10)).setCell ⟨w4.heap.size, 3, none⟩ (.int .i64 1000)) := ⟨_, rfl⟩
                have hnbq : wy.grownBy wq (some w4.heap.size) := by rw [hwq]; exact Nb.set4 _ _ _ _ _ _
                have HBQ : Hid (Bx wq w4.heap.size (.slice a5 1 cap5) (.int .i64 8) (.int .i64 10) (.int .i64 1000)) := (by
                  obtain ⟨hWb, ⟨d0, d1, d2, d3⟩, e0, e1, e2, e3⟩ := HBU.out
                  rw [hwq]
                  exact ⟨by simpa using hWb, ⟨by simp [go_sem, d0, d1, d2, d3], by simp [go_sem, d0, d1, d2, d3], by simp [go_sem, d0, d1, d2, d3], by simp [go_sem, d0, d1, d2, d3]⟩, by simpa using e0, by simpa using e1, by simpa using e2, by simpa using e3⟩ : Bx wq w4.heap.size (.slice a5 1 cap5) (.int .i64 8) (.int .i64 10) (.int .i64 1000))
                have HLQ : Hid (LiesS wq (.slice a5 1 cap5) [Pp.who1 p t t.size tl5]) := ((HOY.out.nb hnbq (by omega)).lies (by simp) : LiesS wq (.slice a5 1 cap5) [Pp.who1 p t t.size tl5])
                have hb4q : Below w4.heap.size w4 wq := hb4y.trans (Nb.to hnbq hb4y.size (Nat.le_refl _))
                clear hnbq k0 k1 k2 k3 u0 u1 u2 u3 g0 g1 g2 g3 HOY hb4y
                obtain ⟨hXb, ⟨x0, x1, x2, x3⟩, _⟩ := HBX.out
                obtain ⟨hUb2, ⟨d0, d1, d2, d3⟩, e0, e1, e2, e3⟩ := HBU.out
                rw [← hwy]
                clear hwy
                go_wp2_with fail
                rw [← hwq]
                clear hwq d0 d1 d2 d3 e0 e1 e2 e3 x0 x1 x2 x3
                go_roundw
                case rel => exact ⟨j + 1, t.size, a5, cap5, tl5, by simp, by omega, Or.inr rfl, Or.inr rfl, HBQ, HLQ, HNQ, ht51, ht52, hb4q⟩
                case measure => simp [intOf]; omega
              · skip
                obtain ⟨wy, hwy⟩ : ∃ wy, wy = ((((w5.setCell ⟨wr.heap.size, 0, none⟩ (.slice a5 1 cap5)).setCell ⟨wr.heap.size, 1, none⟩ (.int .i64 8)).setCell ⟨wr.heap.size, 2, none⟩ (.int .i64 10)).setCell ⟨wr.heap.size, 3, none⟩ (.int .i64 1000)) := ⟨_, rfl⟩
                have hnb : w5.grownBy wy (some wr.heap.size) := by rw [hwy]; exact Nb.set4 _ _ _ _ _ _
                have HBX : Hid (Bx wy wr.heap.size (.slice a5 1 cap5) (.int .i64 8) (.int .i64 10) (.int .i64 1000)) := (by
                  rw [hwy]
                  exact ⟨by simpa using xb, ⟨by simp [go_sem, x0, x1, x2, x3], by simp [go_sem, x0, x1, x2, x3], by simp [go_sem, x0, x1, x2, x3], by simp [go_sem, x0, x1, x2, x3]⟩, by simpa using m0, by simpa using m1, by simpa using m2, by simpa using m3⟩ : Bx wy wr.heap.size (.slice a5 1 cap5) (.int .i64 8) (.int .i64 10) (.int .i64 1000))
                have HBU : Hid (Bx wy w4.heap.size (.slice ai 1 ci) (.int .i64 8) (.int .i64 10) (.int .i64 1000)) := ((HB.out.below hwr5).nb hnb (Ne.symm hne9) : Bx wy w4.heap.size (.slice ai 1 ci) (.int .i64 8) (.int .i64 10) (.int .i64 1000))
                have HOY : Hid (OwnS wr.heap.size wy (.slice a5 1 cap5) [Pp.who1 p t t.size tl5]) := ((HO5.out.nb hnb (by simp)).mono (by simp) : OwnS wr.heap.size wy (.slice a5 1 cap5) [Pp.who1 p t t.size tl5])
                have hb4y : Below w4.heap.size w4 wy := (below_trans hbel hwr5).trans (Nb.to hnb (below_trans hbel hwr5).size (by omega))
                clear hnb HO5 xb x0 x1 x2 x3 m0 m1 m2 m3
                have HNQ : Hid (∀ b o, a5 = some ⟨b, o, none⟩ → b ≠ w4.heap.size) := (fun b o e => by
                  rcases HOY.out with ⟨h1, h2⟩ | ⟨g, cap, h1, h2, _⟩
                  · cases h2
                  · injection h1 with h1
                    rw [e] at h1
                    injection h1 with h1
                    injection h1 with h1
                    omega : ∀ b o, a5 = some ⟨b, o, none⟩ → b ≠ w4.heap.size)
                obtain ⟨wq, hwq⟩ : ∃ wq, wq = ((((wy.setCell ⟨w4.heap.size, 0, none⟩ (.slice a5 1 cap5)).setCell ⟨w4.heap.size, 1, none⟩ (.int .i64 8)).setCell ⟨w4.heap.size, 2, none⟩ (.int .i64 10)).setCell ⟨w4.heap.size, 3, none⟩ (.int .i64 1000)) := ⟨_, rfl⟩
                have hnbq : wy.grownBy wq (some w4.heap.size) := by rw [hwq]; exact Nb.set4 _ _ _ _ _ _
                have HBQ : Hid (Bx wq w4.heap.size (.slice a5 1 cap5) (.int .i64 8) (.int .i64 10) (.int .i64 1000)) := (by
                  obtain ⟨hWb, ⟨d0, d1, d2, d3⟩, e0, e1, e2, e3⟩ := HBU.out
                  rw [hwq]
                  exact ⟨by simpa using hWb, ⟨by simp [go_sem, d0, d1, d2, d3], by simp [go_sem, d0, d1, d2, d3], by simp [go_sem, d0, d1, d2, d3], by simp [go_sem, d0, d1, d2, d3]⟩, by simpa using e0, by simpa using e1, by simpa using e2, by simpa using e3⟩ : Bx wq w4.heap.size (.slice a5 1 cap5) (.int .i64 8) (.int .i64 10) (.int .i64 1000))
                have HLQ : Hid (LiesS wq (.slice a5 1 cap5) [Pp.who1 p t t.size tl5]) := ((HOY.out.nb hnbq (by omega)).lies (by simp) : LiesS wq (.slice a5 1 cap5) [Pp.who1 p t t.size tl5])
                have hb4q : Below w4.heap.size w4 wq := hb4y.trans (Nb.to hnbq hb4y.size (Nat.le_refl _))
                clear hnbq k0 k1 k2 k3 u0 u1 u2 u3 g0 g1 g2 g3 HOY hb4y
                obtain ⟨hXb, ⟨x0, x1, x2, x3⟩, _⟩ := HBX.out
                obtain ⟨hUb2, ⟨d0, d1, d2, d3⟩, e0, e1, e2, e3⟩ := HBU.out
                rw [← hwy]
                clear hwy
                go_wp2_with fail
                rw [← hwq]
                clear hwq d0 d1 d2 d3 e0 e1 e2 e3 x0 x1 x2 x3
                go_roundw
                case rel => exact ⟨j + 1, t.size, a5, cap5, tl5, by simp, by omega, Or.inr rfl, Or.inr rfl, HBQ, HLQ, HNQ, ht51, ht52, hb4q⟩
                case measure => simp [intOf]; omega
            · have hjqi : ¬ (j : Int) ≤ (qn : Int) := by omega
              obtain rfl : c = t.size := by omega
              go_wp2_with fail
              refine (choose_any q 3 _ hq1 hq2 (by decide) (by decide)).mono ?_
              rintro e wc ⟨rfl, hw⟩
              rw [hw, HQN.out]
              clear hw wc
              go_wp2_with fail
              go_roundw
              case rel => exact ⟨t.size, k + 1, ai, ci, tl, hbt, by omega, by omega, rfl, by simp, HB, HL, HNE, htl1, htl2, (fun _ => rfl : C.length < k + 1 ∨ 30 ≤ k + 1 → t.size = t.size), hbel⟩
              case measure => simp [intOf]; omega
        · skip
          go_wp2_with fail
          clear HFIN
          obtain ⟨wo, hwo⟩ : ∃ wo : World, wo = wr := ⟨_, rfl⟩
          rw [← hwo] at HB HL hbel hb0r ⊢
          clear hwo wr
          go_loopw [15] (fun kk wr => ∃ (j c : Nat) (ai : Option Addr) (ci : Nat) (tl : Int), kk = .int .i64 j ∧ j ≤ qn + 1 ∧ (c = a ∨ c = t.size) ∧ (j = 0 ∨ c = t.size) ∧ Hid (Bx wr w4.heap.size (.slice ai 1 ci) (.int .i64 8) (.int .i64 10) (.int .i64 1000)) ∧ Hid (LiesS wr (.slice ai 1 ci) [Pp.who1 p t c tl]) ∧ Hid (∀ b o, ai = some ⟨b, o, none⟩ → b ≠ w4.heap.size) ∧ 13 ≤ tl ∧ tl ≤ 14 ∧ Below w4.heap.size w4 wr) (fun kk _ => 10 - (intOf kk).toNat)
          case atStart => exact ⟨0, a, au, cu, till, rfl, by omega, Or.inl rfl, Or.inl rfl, HB, HL, HNE, htl1, htl2, hbel⟩
          case round =>
            clear HB HL HNE htl1 htl2 hbel hb0r till cu au
            obtain ⟨j, c, ai, ci, tl, rfl, hj, hc, hjc, HB, HL, HNE, htl1, htl2, hbel⟩ := hrel
            have hb0r : Below w.heap.size w wr := hb04.trans (hbel.mono hb04.size)
            have hszr := HB.out.1
            by_cases hjq : j ≤ qn
            · have hjqi : (j : Int) ≤ (qn : Int) := by omega
              go_wp2_with fail
              refine (choose_any q 3 _ hq1 hq2 (by decide) (by decide)).mono ?_
              rintro e wc ⟨rfl, hw⟩
              rw [hw, HQN.out]
              clear hw wc
              obtain ⟨hUb, ⟨u0, u1, u2, u3⟩, g0, g1, g2, g3⟩ := HB.out
              go_wp2_with fail
              have hne9 : wr.heap.size ≠ w4.heap.size := by omega
              go_region_held3 (fun W => W.cell? ⟨w4.heap.size, 0, none⟩ = some (.slice ai 1 ci) ∧ W.cell? ⟨w4.heap.size, 1, none⟩ = some (.int .i64 8) ∧ W.cell? ⟨w4.heap.size, 2, none⟩ = some (.int .i64 10) ∧ W.cell? ⟨w4.heap.size, 3, none⟩ = some (.int .i64 1000)) (go_keep) (first
                | (go_at_call 11; refine (w1_append p t c a t.size tl _ _ (HL.out.below (by go_grown)) HN.out (by omega) hab hbt ht hc htl1 htl2).mono ?_; rintro e w5 ⟨u5, tl5, rfl, hown5, ht51, ht52, hb5⟩; have hwr5 : Below wr.heap.size wr w5 := Below.trans (by go_grown) (hb5.mono (by simp)); obtain ⟨a5, cap5, hu5, hc5, _, _⟩ := hown5.lies (by simp); subst hu5; have HO5 := ghid hown5; obtain ⟨_, ⟨k0, k1, k2, k3⟩, _⟩ := HB.out.below hwr5; (try (have hX : Bx w5 wr.heap.size (.slice none 0 0) (.int .i64 0) (.int .i64 0) (.int .i64 0) := ((Bx.new wr (.slice none 0 0) (.int .i64 0) (.int .i64 0) (.int .i64 0) 24).below (Below.refl _ _).drew).below hb5; obtain ⟨xb, ⟨x0, x1, x2, x3⟩, m0, m1, m2, m3⟩ := hX)); have hne5 : w5.heap.size ≠ w4.heap.size := (by have := hwr5.size; omega); clear hown5))
              · skip
                obtain ⟨wy, hwy⟩ : ∃ wy, wy = w5.alloc (.cells #[.slice a5 1 cap5, .int .i64 8, .int .i64 10, .int .i64 1000] 24) := ⟨_, rfl⟩
                have hby : Below w5.heap.size w5 wy := by rw [hwy]; exact (Below.refl _ _).alloc (Nat.le_refl _) _
                have HBX : Hid (Bx wy w5.heap.size (.slice a5 1 cap5) (.int .i64 8) (.int .i64 10) (.int .i64 1000)) := (by rw [hwy]; exact Bx.new _ _ _ _ _ _ : Bx wy w5.heap.size (.slice a5 1 cap5) (.int .i64 8) (.int .i64 10) (.int .i64 1000))
                have HBU : Hid (Bx wy w4.heap.size (.slice ai 1 ci) (.int .i64 8) (.int .i64 10) (.int .i64 1000)) := ((HB.out.below hwr5).below hby : Bx wy w4.heap.size (.slice ai 1 ci) (.int .i64 8) (.int .i64 10) (.int .i64 1000))
                have HOY : Hid (OwnS wr.heap.size wy (.slice a5 1 cap5) [Pp.who1 p t t.size tl5]) := (HO5.out.below hby : OwnS wr.heap.size wy (.slice a5 1 cap5) [Pp.who1 p t t.size tl5])
                have hb4y : Below w4.heap.size w4 wy := below_trans (below_trans hbel hwr5) hby
                clear hby HO5
                have HNQ : Hid (∀ b o, a5 = some ⟨b, o, none⟩ → b ≠ w4.heap.size) := (fun b o e => by
                  rcases HOY.out with ⟨h1, h2⟩ | ⟨g, cap, h1, h2, _⟩
                  · cases h2
                  · injection h1 with h1
                    rw [e] at h1
                    injection h1 with h1
                    injection h1 with h1
                    omega : ∀ b o, a5 = some ⟨b, o, none⟩ → b ≠ w4.heap.size)
                obtain ⟨wq, hwq⟩ : ∃ wq, wq = ((((wy.setCell ⟨w4.heap.size, 0, none⟩ (.slice a5 1 cap5)).setCell ⟨w4.heap.size, 1, none⟩ (.int .i64 8)).setCell ⟨w4.heap.size, 2, none⟩ (.int .i64 10)).setCell ⟨w4.heap.size, 3, none⟩ (.int .i64 1000)) := ⟨_, rfl⟩
                have hnbq : wy.grownBy wq (some w4.heap.size) := by rw [hwq]; exact Nb.set4 _ _ _ _ _ _
                have HBQ : Hid (Bx wq w4.heap.size (.slice a5 1 cap5) (.int .i64 8) (.int .i64 10) (.int .i64 1000)) := (by
                  obtain ⟨hWb, ⟨d0, d1, d2, d3⟩, e0, e1, e2, e3⟩ := HBU.out
                  rw [hwq]
                  exact ⟨by simpa using hWb, ⟨by simp [go_sem, d0, d1, d2, d3], by simp [go_sem, d0, d1, d2, d3], by simp [go_sem, d0, d1, d2, d3], by simp [go_sem, d0, d1, d2, d3]⟩, by simpa using e0, by simpa using e1, by simpa using e2, by simpa using e3⟩ : Bx wq w4.heap.size (.slice a5 1 cap5) (.int .i64 8) (.int .i64 10) (.int .i64 1000))
                have HLQ : Hid (LiesS wq (.slice a5 1 cap5) [Pp.who1 p t t.size tl5]) := ((HOY.out.nb hnbq (by omega)).lies (by simp) : LiesS wq (.slice a5 1 cap5) [Pp.who1 p t t.size tl5])
                have hb4q : Below w4.heap.size w4 wq := hb4y.trans (Nb.to hnbq hb4y.size (Nat.le_refl _))
                clear hnbq k0 k1 k2 k3 u0 u1 u2 u3 g0 g1 g2 g3 HOY hb4y
                obtain ⟨hXb, ⟨x0, x1, x2, x3⟩, _⟩ := HBX.out
                obtain ⟨hUb2, ⟨d0, d1, d2, d3⟩, e0, e1, e2, e3⟩ := HBU.out
                rw [← hwy]
                clear hwy
                go_wp2_with fail
                rw [← hwq]
                clear hwq d0 d1 d2 d3 e0 e1 e2 e3 x0 x1 x2 x3
                go_roundw
                case rel => exact ⟨j + 1, t.size, a5, cap5, tl5, by simp, by omega, Or.inr rfl, Or.inr rfl, HBQ, HLQ, HNQ, ht51, ht52, hb4q⟩
                case measure => simp [intOf]; omega
              · skip
                obtain ⟨wy, hwy⟩ : ∃ wy, wy = ((((w5.setCell ⟨wr.heap.size, 0, none⟩ (.slice a5 1 cap5)).setCell ⟨wr.heap.size, 1, none⟩ (.int .i64 8)).setCell ⟨wr.heap.size, 2, none⟩ (.int .i64 10)).setCell ⟨wr.heap.size, 3, none⟩ (.int .i64 1000)) := ⟨_, rfl⟩
                have hnb : w5.grownBy wy (some wr.heap.size) := by rw [hwy]; exact Nb.set4 _ _ _ _ _ _
                have HBX : Hid (Bx wy wr.heap.size (.slice a5 1 cap5) (.int .i64 8) (.int .i64 10) (.int .i64 1000)) := (by
                  rw [hwy]
                  exact ⟨by simpa using xb, ⟨by simp [go_sem, x0, x1, x2, x3], by simp [go_sem, x0, x1, x2, x3], by simp [go_sem, x0, x1, x2, x3], by simp [go_sem, x0, x1, x2, x3]⟩, by simpa using m0, by simpa using m1, by simpa using m2, by simpa using m3⟩ : Bx wy wr.heap.size (.slice a5 1 cap5) (.int .i64 8) (.int .i64 10) (.int .i64 1000))
                have HBU : Hid (Bx wy w4.heap.size (.slice ai 1 ci) (.int .i64 8) (.int .i64 10) (.int .i64 1000)) := ((HB.out.below hwr5).nb hnb (Ne.symm hne9) : Bx wy w4.heap.size (.slice ai 1 ci) (.int .i64 8) (.int .i64 10) (.int .i64 1000))
                have HOY : Hid (OwnS wr.heap.size wy (.slice a5 1 cap5) [Pp.who1 p t t.size tl5]) := ((HO5.out.nb hnb (by simp)).mono (by simp) : OwnS wr.heap.size wy (.slice a5 1 cap5) [Pp.who1 p t t.size tl5])
                have hb4y : Below w4.heap.size w4 wy := (below_trans hbel hwr5).trans (Nb.to hnb (below_trans hbel hwr5).size (by omega))
                clear hnb HO5 xb x0 x1 x2 x3 m0 m1 m2 m3
                have HNQ : Hid (∀ b o, a5 = some ⟨b, o, none⟩ → b ≠ w4.heap.size) := (fun b o e => by
                  rcases HOY.out with ⟨h1, h2⟩ | ⟨g, cap, h1, h2, _⟩
                  · cases h2
                  · injection h1 with h1
                    rw [e] at h1
                    injection h1 with h1
                    injection h1 with h1
                    omega : ∀ b o, a5 = some ⟨b, o, none⟩ → b ≠ w4.heap.size)
                obtain ⟨wq, hwq⟩ : ∃ wq, wq = ((((wy.setCell ⟨w4.heap.size, 0, none⟩ (.slice a5 1 cap5)).setCell ⟨w4.heap.size, 1, none⟩ (.int .i64 8)).setCell ⟨w4.heap.size, 2, none⟩ (.int .i64 10)).setCell ⟨w4.heap.size, 3, none⟩ (.int .i64 1000)) := ⟨_, rfl⟩
                have hnbq : wy.grownBy wq (some w4.heap.size) := by rw [hwq]; exact Nb.set4 _ _ _ _ _ _
                have HBQ : Hid (Bx wq w4.heap.size (.slice a5 1 cap5) (.int .i64 8) (.int .i64 10) (.int .i64 1000)) := (by
                  obtain ⟨hWb, ⟨d0, d1, d2, d3⟩, e0, e1, e2, e3⟩ := HBU.out
                  rw [hwq]
                  exact ⟨by simpa using hWb, ⟨by simp [go_sem, d0, d1, d2, d3], by simp [go_sem, d0, d1, d2, d3], by simp [go_sem, d0, d1, d2, d3], by simp [go_sem, d0, d1, d2, d3]⟩, by simpa using e0, by simpa using e1, by simpa using e2, by simpa using e3⟩ : Bx wq w4.heap.size (.slice a5 1 cap5) (.int .i64 8) (.int .i64 10) (.int .i64 1000))
                have HLQ : Hid (LiesS wq (.slice a5 1 cap5) [Pp.who1 p t t.size tl5]) := ((HOY.out.nb hnbq (by omega)).lies (by simp) : LiesS wq (.slice a5 1 cap5) [Pp.who1 p t t.size tl5])
                have hb4q : Below w4.heap.size w4 wq := hb4y.trans (Nb.to hnbq hb4y.size (Nat.le_refl _))
                clear hnbq k0 k1 k2 k3 u0 u1 u2 u3 g0 g1 g2 g3 HOY hb4y
                obtain ⟨hXb, ⟨x0, x1, x2, x3⟩, _⟩ := HBX.out
                obtain ⟨hUb2, ⟨d0, d1, d2, d3⟩, e0, e1, e2, e3⟩ := HBU.out
                rw [← hwy]
                clear hwy
                go_wp2_with fail
                rw [← hwq]
                clear hwq d0 d1 d2 d3 e0 e1 e2 e3 x0 x1 x2 x3
                go_roundw
                case rel => exact ⟨j + 1, t.size, a5, cap5, tl5, by simp, by omega, Or.inr rfl, Or.inr rfl, HBQ, HLQ, HNQ, ht51, ht52, hb4q⟩
                case measure => simp [intOf]; omega
            · have hjqi : ¬ (j : Int) ≤ (qn : Int) := by omega
              obtain rfl : c = t.size := by omega
              go_wp2_with fail
              refine (choose_any q 3 _ hq1 hq2 (by decide) (by decide)).mono ?_
              rintro e wc ⟨rfl, hw⟩
              rw [hw, HQN.out]
              clear hw wc
              go_wp2_with fail
              go_roundw
              case rel => exact ⟨t.size, k + 1, ai, ci, tl, hbt, by omega, by omega, rfl, by simp, HB, HL, HNE, htl1, htl2, (fun _ => rfl : C.length < k + 1 ∨ 30 ≤ k + 1 → t.size = t.size), hbel⟩
              case measure => simp [intOf]; omega
    · have hend : a = t.size := HFIN.out (by omega)
      have hg1i : ¬ ((k : Int) ≤ (C.length : Int) ∧ (k : Int) < 30) := by omega
      have hsplit : ¬ (k : Int) ≤ (C.length : Int) ∨ ((k : Int) ≤ (C.length : Int) ∧ ¬ (k : Int) < 30) := by omega
      subst hend
      clear hgo hg1i HFIN HV HRG
      rcases hsplit with hg1i | ⟨hg1i, hg2i⟩
      · skip
        obtain ⟨hUb, ⟨u0, u1, u2, u3⟩, g0, g1, g2, g3⟩ := HB.out
        go_wp2_with fail
        refine (query_w p t till _ _ HL.out HN.out (by omega) ht htl1 htl2).mono ?_
        rintro e w6 ⟨rfl, hb6⟩
        have HB6 := ghid (HB.out.below hb6)
        have HL6 := ghid (HL.out.below hb6)
        have hb06 := below_trans hb0r hb6
        clear hb6 u0 u1 u2 u3 g0 g1 g2 g3 hUb
        obtain ⟨hUb, ⟨u0, u1, u2, u3⟩, g0, g1, g2, g3⟩ := HB6.out
        go_wp2_with fail
        refine (finish_w p t till _ _ HL6.out HN.out (by omega) ht htl1 htl2).mono ?_
        rintro e w7 ⟨u7, rfl, ⟨a7, c7, rfl⟩, hb7⟩
        have hb07 := below_trans hb06 hb7
        clear hb7 u0 u1 u2 u3 g0 g1 g2 g3 hUb
        go_wp2_with fail
        go_ret
        exact ⟨rfl, hb07.alloc hb07.size _⟩
      · skip
        obtain ⟨hUb, ⟨u0, u1, u2, u3⟩, g0, g1, g2, g3⟩ := HB.out
        go_wp2_with fail
        refine (query_w p t till _ _ HL.out HN.out (by omega) ht htl1 htl2).mono ?_
        rintro e w6 ⟨rfl, hb6⟩
        have HB6 := ghid (HB.out.below hb6)
        have HL6 := ghid (HL.out.below hb6)
        have hb06 := below_trans hb0r hb6
        clear hb6 u0 u1 u2 u3 g0 g1 g2 g3 hUb
        obtain ⟨hUb, ⟨u0, u1, u2, u3⟩, g0, g1, g2, g3⟩ := HB6.out
        go_wp2_with fail
        refine (finish_w p t till _ _ HL6.out HN.out (by omega) ht htl1 htl2).mono ?_
        rintro e w7 ⟨u7, rfl, ⟨a7, c7, rfl⟩, hb7⟩
        have hb07 := below_trans hb06 hb7
        clear hb7 u0 u1 u2 u3 g0 g1 g2 g3 hUb
        go_wp2_with fail
        go_ret
        exact ⟨rfl, hb07.alloc hb07.size _⟩
end Go.Proofs.Ytnaedemkpiagmaa
