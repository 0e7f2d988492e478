/- What the law TreeApplies answers: true, for every tree, change and version. -/
import Derived.Test.YtgbokcmmknabcabT32
import Derived.Test.YtgbokcmmknabcabT27
import Derived.Test.YtgbokcmmknabcabT28
import Derived.Test.YtgbokcmmknabcabT13
set_option linter.unusedSimpArgs false
set_option linter.unusedVariables false
namespace Go.Proofs.Ytgbokcmmknabcab
open Go.RowKit

namespace Pp
theorem ver_three {n : Int} (h : ¬ verE n = 0) : verE n = 3 := by
  unfold verE at h ⊢
  split
  · rfl
  · rename_i h1; rw [if_neg h1] at h; exact absurd rfl h
end Pp

set_option maxRecDepth 100000 in
set_option maxHeartbeats 1000000 in
theorem treeApplies_walk (L : List En) (v : Value) (k : Int) (p q t : ByteArray) (b n : Int) (w : World) (hv : Lies w v L) (hs : ∀ e ∈ L, e.path.size ≤ 1000000000 ∧ e.text.size ≤ 1000000000) (hp : p.size ≤ 1000000000) (hq : q.size ≤ 1000000000) (ht : t.size ≤ 1000000000) :
    Calls Try.prog 6 #[v, .agg #[.int .i64 k, .string p, .string q, .string t, .int .i64 b], .int .i64 n] w fun e w' => e = .returned (.bool true) ∧ Below w.heap.size w w' := by
  have HV := hid hv
  have HS : Hid (Sized L) := (fun e he => ⟨by have := (hs e he).1; omega, by have := (hs e he).2; omega⟩ : Sized L)
  have HP : Hid (∀ e ∈ L, e.path.size ≤ 1000000000) := (fun e he => (hs e he).1 : ∀ e ∈ L, e.path.size ≤ 1000000000)
  clear hv hs
  by_cases htr : Pp.treeE L = 0
  · have HG := hid ((Pp.good_iff L).1 htr)
    have HT := hid htr
    by_cases hver : Pp.verE n = 0
    · have HVE := hid hver
      have HE : Hid (Pp.tapE L ⟨k, p, q, t, b⟩ n = Pp.appE L ⟨k, p, q, t, b⟩ n) := Pp.tapE_yes htr
      have HR : Hid (Pp.tapR L ⟨k, p, q, t, b⟩ n = Pp.ifz (Pp.appE L ⟨k, p, q, t, b⟩ n) (Pp.chdR L ⟨k, p, q, t, b⟩ n)) := (by rw [Pp.tapR_yes htr]; rfl : Pp.tapR L ⟨k, p, q, t, b⟩ n = Pp.ifz (Pp.appE L ⟨k, p, q, t, b⟩ n) (Pp.chdR L ⟨k, p, q, t, b⟩ n))
      clear htr hver
      go_enter Try.func6, Try.ntmps6
      go_wp2_with fail
      refine (tapply_all L v k p q t b n _ (HV.out.below ((Below.refl _ _).alloc (Nat.le_refl _) _)) HS.out (by omega) (by omega) (by omega)).mono ?_
      rintro e w1 ⟨u, rfl, hli, hb1⟩
      obtain ⟨c0, c1, c2, c3, c4, hbw, hlt⟩ := bx5 hb1
      rw [HE.out]
      rw [HR.out] at hli
      have HU := hid hli
      clear hli
      go_wp2_with fail
      refine (rCheckTree_any L v _ (HV.out.below hbw) HP.out).mono ?_
      rintro e w2 ⟨rfl, hb2⟩
      rw [HT.out]
      have hb02 := hb1.trans (hb2.mono hb1.size)
      have HU2 := hid (HU.out.below hb2)
      clear c0 c1 c2 c3 c4 hbw hlt hb1 hb2 HU
      obtain ⟨c0, c1, c2, c3, c4, hbw, hlt⟩ := bx5 hb02
      go_wp2_with fail
      refine (isVersion_any n _).mono ?_
      rintro e w3 ⟨rfl, rfl⟩
      rw [HVE.out]
      go_wp2_with fail
      refine (changeOf_any L v k p q t b n _ (HV.out.below hbw) hp hq ht HG.out HVE.out).mono ?_
      rintro e w4 ⟨u4, rfl, hli, hb4⟩
      have HL4 := hid hli
      have HU4 := hid (HU2.out.below hb4)
      have hb04 := hbw.trans (hb4.mono (Nat.le_of_lt hlt))
      clear c0 c1 c2 c3 c4 hbw hlt hli hb4 hb02 HU2
      go_wp2_with fail
      refine (begun_yes _).mono ?_
      rintro e w5 ⟨rfl, hb5⟩
      have HL5 : Hid (Pp.appE L ⟨k, p, q, t, b⟩ n = 0 → Lies w5 u4 (Pp.chdR L ⟨k, p, q, t, b⟩ n)) := (fun h => (HL4.out h).below hb5 : Pp.appE L ⟨k, p, q, t, b⟩ n = 0 → Lies w5 u4 (Pp.chdR L ⟨k, p, q, t, b⟩ n))
      have HU5 := hid (HU4.out.below hb5)
      have hb05 := below_trans hb04 hb5
      clear hb5 hb04 HU4 HL4
      go_wp2_with fail
      refine (treeIs_yes (Pp.chdR L ⟨k, p, q, t, b⟩ n) [] u u4 _ _ HU5.out HL5.out).mono ?_
      rintro e w6 ⟨rfl, hb6⟩
      go_wp2
      go_ret
      exact ⟨rfl, below_trans hb05 hb6⟩
    · have h3 := Pp.ver_three hver
      have hE : Pp.tapE L ⟨k, p, q, t, b⟩ n = 3 := by rw [Pp.tapE_yes htr, Pp.app_ver hver, h3]
      have HE := hid hE
      have HR : Hid (Pp.tapR L ⟨k, p, q, t, b⟩ n = Pp.ifz 3 []) := (by rw [Pp.tapR, hE]; rfl : Pp.tapR L ⟨k, p, q, t, b⟩ n = Pp.ifz 3 [])
      have hz : (Pp.verE n == 0) = false := by simpa using hver
      clear htr hver h3 hE
      go_enter Try.func6, Try.ntmps6
      go_wp2_with fail
      refine (tapply_all L v k p q t b n _ (HV.out.below ((Below.refl _ _).alloc (Nat.le_refl _) _)) HS.out (by omega) (by omega) (by omega)).mono ?_
      rintro e w1 ⟨u, rfl, hli, hb1⟩
      obtain ⟨c0, c1, c2, c3, c4, hbw, hlt⟩ := bx5 hb1
      rw [HE.out]
      rw [HR.out] at hli
      have HU := hid hli
      clear hli
      go_wp2_with fail
      refine (rCheckTree_any L v _ (HV.out.below hbw) HP.out).mono ?_
      rintro e w2 ⟨rfl, hb2⟩
      rw [HT.out]
      have hb02 := hb1.trans (hb2.mono hb1.size)
      have HU2 := hid (HU.out.below hb2)
      clear c0 c1 c2 c3 c4 hbw hlt hb1 hb2 HU
      obtain ⟨c0, c1, c2, c3, c4, hbw, hlt⟩ := bx5 hb02
      go_wp2_with fail
      refine (isVersion_any n _).mono ?_
      rintro e w3 ⟨rfl, rfl⟩
      go_wp2_with fail
      refine (begun_yes _).mono ?_
      rintro e w5 ⟨rfl, hb5⟩
      have HU5 := hid (HU2.out.below hb5)
      have hb05 := hbw.trans (hb5.mono (Nat.le_of_lt hlt))
      clear c0 c1 c2 c3 c4 hbw hlt hb5 hb02 HU2
      go_wp2_with fail
      refine (treeIs_yes [] [] u _ _ _ HU5.out (fun _ => lies_nil _)).mono ?_
      rintro e w6 ⟨rfl, hb6⟩
      go_wp2
      go_ret
      exact ⟨rfl, below_trans hb05 hb6⟩
  · have HE : Hid (Pp.tapE L ⟨k, p, q, t, b⟩ n = Pp.treeE L) := Pp.tapE_no htr
    have HR : Hid (Pp.tapR L ⟨k, p, q, t, b⟩ n = Pp.ifz (Pp.treeE L) []) := (by rw [Pp.tapR_no htr, Pp.ifz_no htr] : Pp.tapR L ⟨k, p, q, t, b⟩ n = Pp.ifz (Pp.treeE L) [])
    have hz : (Pp.treeE L == 0) = false := by simpa using htr
    go_enter Try.func6, Try.ntmps6
    go_wp2_with fail
    refine (tapply_all L v k p q t b n _ (HV.out.below ((Below.refl _ _).alloc (Nat.le_refl _) _)) HS.out (by omega) (by omega) (by omega)).mono ?_
    rintro e w1 ⟨u, rfl, hli, hb1⟩
    obtain ⟨c0, c1, c2, c3, c4, hbw, hlt⟩ := bx5 hb1
    rw [HE.out]
    rw [HR.out] at hli
    have HU := hid hli
    clear hli
    go_wp2_with fail
    refine (rCheckTree_any L v _ (HV.out.below hbw) HP.out).mono ?_
    rintro e w2 ⟨rfl, hb2⟩
    have hb02 := hb1.trans (hb2.mono hb1.size)
    have HU2 := hid (HU.out.below hb2)
    clear c0 c1 c2 c3 c4 hbw hlt hb1 hb2 HU
    obtain ⟨c0, c1, c2, c3, c4, hbw, hlt⟩ := bx5 hb02
    go_wp2_with fail
    refine (begun_yes _).mono ?_
    rintro e w5 ⟨rfl, hb5⟩
    have HU5 := hid (HU2.out.below hb5)
    have hb05 := hbw.trans (hb5.mono (Nat.le_of_lt hlt))
    clear c0 c1 c2 c3 c4 hbw hlt hb5 hb02 HU2
    go_wp2_with fail
    refine (treeIs_yes [] [] u _ _ _ HU5.out (fun _ => lies_nil _)).mono ?_
    rintro e w6 ⟨rfl, hb6⟩
    go_wp2
    go_ret
    exact ⟨rfl, below_trans hb05 hb6⟩
end Go.Proofs.Ytgbokcmmknabcab
