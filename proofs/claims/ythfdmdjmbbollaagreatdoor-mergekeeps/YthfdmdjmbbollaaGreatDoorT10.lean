/- What tree.Apply answers, where a folder is made or a file is written at a path at which nothing is, and nothing stands against it. -/
import Derived.Test.YthfdmdjmbbollaaGreatDoorPE
set_option linter.unusedSimpArgs false
set_option linter.unusedVariables false
namespace Go.Proofs.YthfdmdjmbbollaaGreatDoor
open Go.RowKit

set_option maxHeartbeats 800000 in
theorem tapply_ok (L : List En) (v : Value) (k : Int) (p t : ByteArray) (b n : Int) (w : World) (hv : Lies w v L) (hs : Sized L) (hc : Pp.treeE L = 0) (h : Fits L k p t b n) :
    Calls Tryz.prog 35 #[v, .agg #[.int .i64 k, .string p, .string ⟨#[]⟩, .string t, .int .i64 b], .int .i64 n] w fun e w' => ∃ u, e = .returned (.tuple #[u, .int .i64 0]) ∧ Lies w' u (after L k p t n) ∧ Below w.heap.size w w' := by
  have HV : Hid (Lies w v L) := hv
  have HS : Hid (Sized L) := hs
  have HF : Hid (Fits L k p t b n) := h
  have HC : Hid (Pp.treeE L = 0) := hc
  clear hv hs h hc
  go_enter Tryz.func35, Tryz.ntmps35
  go_wp2_with fail
  refine (tcheck_any L v _ (HV.out.below ((Below.refl _ _).alloc (Nat.le_refl _) _)) (Nat.le_trans HF.out.room (by decide)) HS.out).mono ?_
  rintro e w1 ⟨rfl, hb1⟩
  rw [HC.out]
  obtain ⟨c0, c1, c2, c3, c4, hbw, hlt⟩ := box5 hb1
  go_wp2_with fail
  refine (apply_ok L v k p t b n _ (HV.out.below hbw) HS.out HF.out).mono ?_
  rintro e w5 ⟨u, rfl, hli, hb5⟩
  have HLI : Hid (Lies w5 u (after L k p t n)) := hli
  have hb05 := hbw.trans (hb5.mono (Nat.le_of_lt hlt))
  clear hb1 hb5 hli c0 c1 c2 c3 c4
  go_wp2
  go_ret2
  exact ⟨u, rfl, HLI.out, hb05⟩
end Go.Proofs.YthfdmdjmbbollaaGreatDoor
