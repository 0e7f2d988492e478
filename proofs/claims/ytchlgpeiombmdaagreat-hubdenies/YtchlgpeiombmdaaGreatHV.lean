/- What the reference's SameEntries answers, of the same trees. -/
import Derived.Test.YtchlgpeiombmdaaGreatMD
set_option linter.unusedSimpArgs false
set_option linter.unusedVariables false
namespace Go.Proofs.YtchlgpeiombmdaaGreat
open Go.RowKit

set_option maxHeartbeats 1000000 in
theorem same_yes (L : List En) (v u : Value) (w : World) (hv : Lies w v L) (hu : Lies w u L) :
    Calls Tryz.prog 16 #[v, u] w fun e w' => e = .returned (.bool true) ∧ Below w.heap.size w w' := by
 obtain ⟨a, cap, rfl, hcap, hcap2, hL⟩ := hv
 have HL : Hid (∀ i (h : i < L.length), ∃ b o, a = some ⟨b, o, none⟩ ∧ b < w.heap.size ∧ EnAt w b (o + i * 4) L[i]) := hL
 obtain ⟨a', cap', rfl, hcap', _, hL'⟩ := hu
 have HL' : Hid (∀ i (h : i < L.length), ∃ b o, a' = some ⟨b, o, none⟩ ∧ b < w.heap.size ∧ EnAt w b (o + i * 4) L[i]) := hL'
 clear hL hL'
 go_enter Tryz.func16, Tryz.ntmps16
 go_wp2_with fail
 go_loopw [5] (fun i wr => ∃ k : Nat, k ≤ L.length ∧ i = .int .i64 k ∧ Below w.heap.size w wr) (fun i _ => L.length - (intOf i).toNat)
 case atStart => exact ⟨0, Nat.zero_le _, rfl, Below.refl _ _⟩
 case round =>
  obtain ⟨k, hk, rfl, hbel⟩ := hrel
  by_cases hlt : k < L.length
  · obtain ⟨b, o, rfl, hb, he⟩ := HL.out k hlt
    obtain ⟨b', o', rfl, hb', he'⟩ := HL'.out k hlt
    obtain ⟨c0, c1, c2, c3⟩ := he.below hb hbel
    obtain ⟨d0, d1, d2, d3⟩ := he'.below hb' hbel
    go_wp2_with fail
    go_region
    go_wp2_with fail
    go_roundw
    case rel => exact ⟨k + 1, by omega, by simp, hbel.drew⟩
    case measure => simp [intOf]; omega
  · go_wp2_with fail
    go_ret
    exact ⟨rfl, hbel⟩
--@if tetherpost/tetherpostlaw.treeIs
end Go.Proofs.YtchlgpeiombmdaaGreat
