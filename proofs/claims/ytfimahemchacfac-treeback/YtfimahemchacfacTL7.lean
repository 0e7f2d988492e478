/- What the law TreeBack answers: true, for every tree and every three texts. -/
import Derived.Test.YtfimahemchacfacTPure7
import Derived.Test.YtfimahemchacfacT27
import Derived.Test.YtfimahemchacfacT28
set_option linter.unusedSimpArgs false
set_option linter.unusedVariables false
namespace Go.Proofs.Ytfimahemchacfac
open Go.RowKit

set_option maxHeartbeats 1000000 in
theorem like_yes (L : List En) (p : List UInt8) (v u : Value) (w : World) (hv : Lies w v (L.map (Pp.bk p))) (hu : Lies w u L) :
    Calls Try.prog 18 #[v, u] w fun e w' => e = .returned (.bool true) ∧ Below w.heap.size w w' := by
  obtain ⟨a, cap, rfl, hcap, hcap2, hL⟩ := hv
  have hlm : (L.map (Pp.bk p)).length = L.length := List.length_map ..
  have HL : Hid (∀ i (h : i < L.length), ∃ b o, a = some ⟨b, o, none⟩ ∧ b < w.heap.size ∧ EnAt w b (o + i * 4) (Pp.bk p L[i])) := (fun i h => by
    obtain ⟨b, o, h1, h2, h3⟩ := hL i (by rw [hlm]; exact h)
    rw [List.getElem_map] at h3
    exact ⟨b, o, h1, h2, h3⟩ : ∀ i (h : i < L.length), ∃ b o, a = some ⟨b, o, none⟩ ∧ b < w.heap.size ∧ EnAt w b (o + i * 4) (Pp.bk p L[i]))
  obtain ⟨a', cap', rfl, hcap', _, hL'⟩ := hu
  have HL' : Hid (∀ i (h : i < L.length), ∃ b o, a' = some ⟨b, o, none⟩ ∧ b < w.heap.size ∧ EnAt w b (o + i * 4) L[i]) := hL'
  rw [hlm] at hcap hcap2 ⊢
  clear hL hL' hlm
  go_enter Try.func18, Try.ntmps18
  go_wp2_with fail
  go_loopw [5] (fun i wr => ∃ k : Nat, k ≤ L.length ∧ i = .int .i64 k ∧ Below w.heap.size w wr) (fun i _ => L.length - (intOf i).toNat)
  case atStart => exact ⟨0, Nat.zero_le _, rfl, Below.refl _ _⟩
  case round =>
    obtain ⟨k, hk, rfl, hbel⟩ := hrel
    by_cases hlt : k < L.length
    · obtain ⟨b, o, rfl, hb, he⟩ := HL.out k hlt
      obtain ⟨b', o', rfl, hb', he'⟩ := HL'.out k hlt
      obtain ⟨c0, c1, c2, c3⟩ := he.below hb hbel
      obtain ⟨d0, d1, d2, d3⟩ := he'.below hb' hbel
      have c0' : wr.cell? ⟨b, o + k * 4, none⟩ = some (.string L[k].path) := c0
      have c1' : wr.cell? ⟨b, o + k * 4 + 1, none⟩ = some (.bool L[k].folder) := c1
      have c2' : wr.cell? ⟨b, o + k * 4 + 2, none⟩ = some (.string L[k].text) := c2
      clear c0 c1 c2 c3 he he'
      go_wp2_with fail
      go_region
      go_wp2_with fail
      go_roundw
      case rel => exact ⟨k + 1, by omega, by simp, hbel.drew⟩
      case measure => simp [intOf]; omega
    · go_wp2_with fail
      go_ret
      exact ⟨rfl, hbel⟩

namespace Pp
/-- What the law asks of the move. -/
theorem mv_cases (L : List En) (p q : ByteArray) :
    ((tapE L ⟨3, p, q, ⟨#[]⟩, -1⟩ 9 == 0) = false) ∨
    (tapE L ⟨3, p, q, ⟨#[]⟩, -1⟩ 9 = 0 ∧ Good (tapR L ⟨3, p, q, ⟨#[]⟩, -1⟩ 9) ∧ tapE (tapR L ⟨3, p, q, ⟨#[]⟩, -1⟩ 9) ⟨3, q, p, ⟨#[]⟩, -1⟩ 9 = 0 ∧ tapR (tapR L ⟨3, p, q, ⟨#[]⟩, -1⟩ 9) ⟨3, q, p, ⟨#[]⟩, -1⟩ 9 = L.map (bk p.data.toList)) := by
  by_cases h : tapE L ⟨3, p, q, ⟨#[]⟩, -1⟩ 9 = 0
  · have htr : treeE L = 0 := by
      by_cases ht : treeE L = 0
      · exact ht
      · rw [tapE_no ht] at h; exact absurd h ht
    have happ : appE L ⟨3, p, q, ⟨#[]⟩, -1⟩ 9 = 0 := by rw [← tapE_yes htr]; exact h
    have hL := (good_iff L).1 htr
    have hR : tapR L ⟨3, p, q, ⟨#[]⟩, -1⟩ 9 = chdR L ⟨3, p, q, ⟨#[]⟩, -1⟩ 9 := by rw [tapR, ifz_yes h]
    have hG := app_good hL happ
    obtain ⟨h1, h2⟩ := back_mv hL happ
    refine Or.inr ⟨h, by rw [hR]; exact hG, ?_, ?_⟩
    · rw [hR, tapE_yes ((good_iff _).2 hG)]; exact h1
    · rw [hR, tapR, tapE_yes ((good_iff _).2 hG), ifz_yes h1]; exact h2
  · exact Or.inl (by simpa using h)
theorem wr_cases (L : List En) (p t : ByteArray) :
    ((tapE L ⟨2, p, ⟨#[]⟩, t, 0⟩ 9 == 0) = false) ∨
    (tapE L ⟨2, p, ⟨#[]⟩, t, 0⟩ 9 = 0 ∧ Good (tapR L ⟨2, p, ⟨#[]⟩, t, 0⟩ 9) ∧ tapE (tapR L ⟨2, p, ⟨#[]⟩, t, 0⟩ 9) ⟨4, p, ⟨#[]⟩, ⟨#[]⟩, 9⟩ 10 = 0 ∧ tapR (tapR L ⟨2, p, ⟨#[]⟩, t, 0⟩ 9) ⟨4, p, ⟨#[]⟩, ⟨#[]⟩, 9⟩ 10 = L) := by
  by_cases h : tapE L ⟨2, p, ⟨#[]⟩, t, 0⟩ 9 = 0
  · have htr : treeE L = 0 := by
      by_cases ht : treeE L = 0
      · exact ht
      · rw [tapE_no ht] at h; exact absurd h ht
    have happ : appE L ⟨2, p, ⟨#[]⟩, t, 0⟩ 9 = 0 := by rw [← tapE_yes htr]; exact h
    have hL := (good_iff L).1 htr
    have hR : tapR L ⟨2, p, ⟨#[]⟩, t, 0⟩ 9 = chdR L ⟨2, p, ⟨#[]⟩, t, 0⟩ 9 := by rw [tapR, ifz_yes h]
    have hG := app_good hL happ
    obtain ⟨h1, h2⟩ := back_wr hL happ
    refine Or.inr ⟨h, by rw [hR]; exact hG, ?_, ?_⟩
    · rw [hR, tapE_yes ((good_iff _).2 hG)]; exact h1
    · rw [hR, tapR, tapE_yes ((good_iff _).2 hG), ifz_yes h1]; exact h2
  · exact Or.inl (by simpa using h)
end Pp

set_option maxRecDepth 100000 in
set_option maxHeartbeats 1000000 in
theorem treeBack_walk (L : List En) (v : Value) (p q t : ByteArray) (w : World) (hv : Lies w v L) (hs : Sized L) (hp : p.size ≤ 150000000000000) (hq : q.size ≤ 150000000000000) (ht : t.size ≤ 150000000000000) :
    Calls Try.prog 5 #[v, .string p, .string q, .string t] w fun e w' => e = .returned (.bool true) ∧ Below w.heap.size w w' := by
  have HV : Hid (Lies w v L) := hv
  have HS : Hid (Sized L) := hs
  have h0s : (⟨#[]⟩ : ByteArray).size ≤ 150000000000000 := by decide
  have HM := hid (Pp.mv_cases L p q)
  have HW := hid (Pp.wr_cases L q t)
  clear hv hs
  go_enter Try.func5, Try.ntmps5
  go_wp2_with fail
  refine (begun_yes _).mono ?_
  rintro e w1 ⟨rfl, hb1⟩
  go_wp2_with fail
  refine (tapply_all L v 3 p q ⟨#[]⟩ (-1) 9 _ (HV.out.below hb1) HS.out hp hq h0s).mono ?_
  rintro e w2 ⟨u, rfl, hli, hb2⟩
  have hb02 := below_trans hb1 hb2
  have HU := hid hli
  clear hb1 hb2 hli
  rcases HM.out with hz | ⟨hE, hG, hE2, hR2⟩
  · generalize Pp.tapE L ⟨3, p, q, ⟨#[]⟩, -1⟩ 9 = y at *
    go_wp2_with fail
    refine (tapply_all L v 2 q ⟨#[]⟩ t 0 9 _ (HV.out.below hb02) HS.out hq h0s ht).mono ?_
    rintro e w5 ⟨u5, rfl, hli5, hb5⟩
    have hb05 : Below w.heap.size w w5 := hb02.trans (hb5.mono hb02.size)
    have HU5 := hid hli5
    clear hli5 hb5 hb02
    rcases HW.out with hzw | ⟨hEw, hGw, hE2w, hR2w⟩
    · generalize Pp.tapE L ⟨2, q, ⟨#[]⟩, t, 0⟩ 9 = y at *
      go_wp2_with fail
      go_ret
      exact ⟨rfl, hb05⟩
    · rw [hEw]
      have HGw := hid hGw
      have HE2w := hid hE2w
      have HR2w := hid hR2w
      clear hEw hGw hE2w hR2w
      go_wp2_with fail
      refine (tapply_all _ u5 4 q ⟨#[]⟩ ⟨#[]⟩ 9 10 _ HU5.out (Pp.good_sized HGw.out) hq h0s h0s).mono ?_
      rintro e w6 ⟨u6, rfl, hli6, hb6⟩
      rw [HE2w.out]
      rw [HR2w.out] at hli6
      have hb06 : Below w.heap.size w w6 := hb05.trans (hb6.mono hb05.size)
      have HU6 := hid hli6
      clear hli6 hb6 hb05
      go_wp2_with fail
      refine (same_yes L u6 v _ HU6.out (HV.out.below hb06)).mono ?_
      rintro e w7 ⟨rfl, hb7⟩
      go_wp2
      go_ret
      exact ⟨rfl, below_trans hb06 hb7⟩
  · rw [hE]
    have HG := hid hG
    have HE2 := hid hE2
    have HR2 := hid hR2
    clear hE hG hE2 hR2
    go_wp2_with fail
    refine (tapply_all _ u 3 q p ⟨#[]⟩ (-1) 9 _ HU.out (Pp.good_sized HG.out) hq hp h0s).mono ?_
    rintro e w3 ⟨u3, rfl, hli3, hb3⟩
    rw [HE2.out]
    rw [HR2.out] at hli3
    have hb03 : Below w.heap.size w w3 := hb02.trans (hb3.mono hb02.size)
    have HU3 := hid hli3
    clear hli3 hb3 hb02
    go_wp2_with fail
    refine (like_yes L p.data.toList u3 v _ HU3.out (HV.out.below hb03)).mono ?_
    rintro e w4 ⟨rfl, hb4⟩
    have hb04 := below_trans hb03 hb4
    clear hb03 hb4
    go_wp2_with fail
    refine (tapply_all L v 2 q ⟨#[]⟩ t 0 9 _ (HV.out.below hb04) HS.out hq h0s ht).mono ?_
    rintro e w5 ⟨u5, rfl, hli5, hb5⟩
    have hb05 : Below w.heap.size w w5 := hb04.trans (hb5.mono hb04.size)
    have HU5 := hid hli5
    clear hli5 hb5 hb04
    rcases HW.out with hzw | ⟨hEw, hGw, hE2w, hR2w⟩
    · generalize Pp.tapE L ⟨2, q, ⟨#[]⟩, t, 0⟩ 9 = y at *
      go_wp2_with fail
      go_ret
      exact ⟨rfl, hb05⟩
    · rw [hEw]
      have HGw := hid hGw
      have HE2w := hid hE2w
      have HR2w := hid hR2w
      clear hEw hGw hE2w hR2w
      go_wp2_with fail
      refine (tapply_all _ u5 4 q ⟨#[]⟩ ⟨#[]⟩ 9 10 _ HU5.out (Pp.good_sized HGw.out) hq h0s h0s).mono ?_
      rintro e w6 ⟨u6, rfl, hli6, hb6⟩
      rw [HE2w.out]
      rw [HR2w.out] at hli6
      have hb06 : Below w.heap.size w w6 := hb05.trans (hb6.mono hb05.size)
      have HU6 := hid hli6
      clear hli6 hb6 hb05
      go_wp2_with fail
      refine (same_yes L u6 v _ HU6.out (HV.out.below hb06)).mono ?_
      rintro e w7 ⟨rfl, hb7⟩
      go_wp2
      go_ret
      exact ⟨rfl, below_trans hb06 hb7⟩
end Go.Proofs.Ytfimahemchacfac
