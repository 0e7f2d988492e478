/- What upload.Sweep and the reference's BeginUpload, SweepOf and SameUploads answer. -/
import Derived.Test.YtmdkecdhgjjceaaGreatU4
import Derived.Test.YtmdkecdhgjjceaaGreatUC
set_option linter.unusedSimpArgs false
set_option linter.unusedVariables false
namespace Go.Proofs.YtmdkecdhgjjceaaGreat
open Go.RowKit

namespace Pp
/-- What all calls tell first, but for names. -/
def bgE (G : List Se) (x l r now : Int) : Int := if uchE G x l r = 0 then (if inR 0 now 1099511627776 = true then 0 else 3) else uchE G x l r
theorem go_bg (G : List Se) (x l r now : Int) : goE G x l r now [] = bgE G x l r now := by
  have h : nmsE [] = 0 := rfl
  rw [goE, bgE, h]
theorem swL_snoc {now : Int} {G : List Se} {k : Nat} (h : k < G.length) : swL now (G.take (k + 1)) = if ovr now G[k] = true then swL now (G.take k) else swL now (G.take k) ++ [G[k]] := by
  rw [swL, swL, List.take_succ_eq_append_getElem h, List.filter_append]
  cases hh : ovr now G[k] <;> simp [hh]
end Pp

set_option maxHeartbeats 2000000 in
theorem beginUpload_any (G : List Se) (v : Value) (x l r now : Int) (w : World) (hv : LiesS w v G) (hs : SizedS G) :
    Calls Tryz.prog 70 #[.agg #[v, .int .i64 x, .int .i64 l, .int .i64 r], .int .i64 now] w fun e w' => e = .returned (.int .i64 (Pp.bgE G x l r now)) ∧ Below w.heap.size w w' := by
  have HV := ghid hv
  have HS := ghid hs
  clear hv hs
  by_cases h0 : Pp.uchE G x l r = 0
  · have H0 := ghid h0
    by_cases h1 : now < 0
    · have HE : Hid (3 = Pp.bgE G x l r now) := (by rw [Pp.bgE, if_pos h0, if_neg]; simp [Pp.inR]; omega : 3 = Pp.bgE G x l r now)
      clear h0
      go_enter Tryz.func70, Tryz.ntmps70
      go_wp2_with fail
      refine (rCheckUploads_any G _ x l r _ (HV.out.below ((Below.refl _ _).alloc (Nat.le_refl _) _)) HS.out).mono ?_
      rintro e w1 ⟨rfl, hb1⟩
      rw [H0.out]
      obtain ⟨_, _, _, _, hbw, _⟩ := bx4 hb1
      go_wp2
      go_ret
      exact ⟨Pp.ret_int HE.out, hbw⟩
    · by_cases h2 : 1099511627776 < now
      · have HE : Hid (3 = Pp.bgE G x l r now) := (by rw [Pp.bgE, if_pos h0, if_neg]; simp [Pp.inR]; omega : 3 = Pp.bgE G x l r now)
        clear h0
        go_enter Tryz.func70, Tryz.ntmps70
        go_wp2_with fail
        refine (rCheckUploads_any G _ x l r _ (HV.out.below ((Below.refl _ _).alloc (Nat.le_refl _) _)) HS.out).mono ?_
        rintro e w1 ⟨rfl, hb1⟩
        rw [H0.out]
        obtain ⟨_, _, _, _, hbw, _⟩ := bx4 hb1
        go_wp2
        go_ret
        exact ⟨Pp.ret_int HE.out, hbw⟩
      · have HE : Hid (0 = Pp.bgE G x l r now) := (by rw [Pp.bgE, if_pos h0, if_pos]; simp [Pp.inR]; omega : 0 = Pp.bgE G x l r now)
        clear h0
        go_enter Tryz.func70, Tryz.ntmps70
        go_wp2_with fail
        refine (rCheckUploads_any G _ x l r _ (HV.out.below ((Below.refl _ _).alloc (Nat.le_refl _) _)) HS.out).mono ?_
        rintro e w1 ⟨rfl, hb1⟩
        rw [H0.out]
        obtain ⟨_, _, _, _, hbw, _⟩ := bx4 hb1
        go_wp2
        go_ret
        exact ⟨Pp.ret_int HE.out, hbw⟩
  · have HE : Hid (Pp.uchE G x l r = Pp.bgE G x l r now) := ((if_neg h0).symm : Pp.uchE G x l r = Pp.bgE G x l r now)
    have hz : (Pp.uchE G x l r == 0) = false := by simpa using h0
    go_enter Tryz.func70, Tryz.ntmps70
    go_wp2_with fail
    refine (rCheckUploads_any G _ x l r _ (HV.out.below ((Below.refl _ _).alloc (Nat.le_refl _) _)) HS.out).mono ?_
    rintro e w1 ⟨rfl, hb1⟩
    obtain ⟨_, _, _, _, hbw, _⟩ := bx4 hb1
    generalize Pp.uchE G x l r = y at *
    go_wp2
    go_ret
    exact ⟨Pp.ret_int HE.out, hbw⟩

set_option maxRecDepth 100000 in
set_option maxHeartbeats 2000000 in
theorem sameUploads_yes (G : List Se) (v u : Value) (x l r : Int) (w : World) (hv : LiesS w v G) (hu : LiesS w u G) :
    Calls Tryz.prog 31 #[.agg #[v, .int .i64 x, .int .i64 l, .int .i64 r], .agg #[u, .int .i64 x, .int .i64 l, .int .i64 r]] w fun e w' => e = .returned (.bool true) ∧ Below w.heap.size w w' := by
  obtain ⟨a, cap, rfl, hcap, hcap2, hL⟩ := hv
  have HL : Hid (∀ i (h : i < G.length), ∃ b o, a = some ⟨b, o, none⟩ ∧ b < w.heap.size ∧ SeAt w b (o + i * 5) G[i]) := hL
  obtain ⟨a', cap', rfl, hcap', _, hL'⟩ := hu
  have HL' : Hid (∀ i (h : i < G.length), ∃ b o, a' = some ⟨b, o, none⟩ ∧ b < w.heap.size ∧ SeAt w b (o + i * 5) G[i]) := hL'
  clear hL hL'
  obtain ⟨w2, hw2⟩ : ∃ w2, w2 = (w.alloc (.cells #[.slice a G.length cap, .int .i64 x, .int .i64 l, .int .i64 r] 26)).alloc (.cells #[.slice a' G.length cap', .int .i64 x, .int .i64 l, .int .i64 r] 26) := ⟨_, rfl⟩
  have hb2 : Below w.heap.size w w2 := by rw [hw2]; exact ((Below.refl _ _).alloc (Nat.le_refl _) _).alloc (by simp) _
  have HA2 : Hid (Bx w2 w.heap.size (.slice a G.length cap) (.int .i64 x) (.int .i64 l) (.int .i64 r)) := (by rw [hw2]; exact (Bx.new w _ _ _ _ _).below ((Below.refl _ _).alloc (Nat.le_refl _) _) : Bx w2 w.heap.size (.slice a G.length cap) (.int .i64 x) (.int .i64 l) (.int .i64 r))
  have HB2 : Hid (Bx w2 (w.heap.size + 1) (.slice a' G.length cap') (.int .i64 x) (.int .i64 l) (.int .i64 r)) := (by
    have := Bx.new (w.alloc (.cells #[.slice a G.length cap, .int .i64 x, .int .i64 l, .int .i64 r] 26)) (.slice a' G.length cap') (.int .i64 x) (.int .i64 l) (.int .i64 r) 26
    rw [hw2]; simpa using this : Bx w2 (w.heap.size + 1) (.slice a' G.length cap') (.int .i64 x) (.int .i64 l) (.int .i64 r))
  have hsz2 : w2.heap.size = w.heap.size + 2 := by rw [hw2]; simp
  have HW2 := ghid hw2
  go_enter Tryz.func31, Tryz.ntmps31
  go_wp2_with fail
  rw [← hw2]
  clear hw2 HW2
  go_loopw [5] (fun i wr => ∃ k : Nat, k ≤ G.length ∧ i = .int .i64 k ∧ Below w2.heap.size w2 wr) (fun i _ => G.length - (intOf i).toNat)
  case atStart => exact ⟨0, Nat.zero_le _, rfl, Below.refl _ _⟩
  case round =>
    obtain ⟨k, hk, rfl, hbel2⟩ := hrel
    have hbel : Below w.heap.size w wr := hb2.trans (hbel2.mono hb2.size)
    obtain ⟨hAb, ⟨a0, a1, a2, a3⟩, _⟩ := HA2.out.below hbel2
    obtain ⟨hBb, ⟨b0, b1, b2, b3⟩, _⟩ := HB2.out.below hbel2
    by_cases hlt : k < G.length
    · obtain ⟨b, o, rfl, hb, he⟩ := HL.out k hlt
      obtain ⟨b', o', rfl, hb', he'⟩ := HL'.out k hlt
      obtain ⟨c0, c1, c2, c3, c4⟩ := he.below hb hbel
      obtain ⟨d0, d1, d2, d3, d4⟩ := he'.below hb' hbel
      generalize G[k] = s at *
      go_wp2_with fail
      go_region
      go_wp2_with fail
      go_roundw
      case rel => exact ⟨k + 1, by omega, by simp, hbel2.drew⟩
      case measure => simp [intOf]; omega
    · go_wp2_with fail
      go_ret
      exact ⟨rfl, hbel⟩
end Go.Proofs.YtmdkecdhgjjceaaGreat
