/- What tree.Check and Apply answer, for a tree of any length. -/
import Derived.Test.YtogbahkoijkclaaGreatT24
import Derived.Test.YtogbahkoijkclaaGreatT28a
set_option linter.unusedSimpArgs false
set_option linter.unusedVariables false
namespace Go.Proofs.YtogbahkoijkclaaGreat
open Go.RowKit

set_option maxHeartbeats 1000000 in
theorem tapply_all (L : List En) (v : Value) (k : Int) (p q t : ByteArray) (b n : Int) (w : World) (hv : Lies w v L) (hs : Sized L) (hp : p.size ≤ 150000000000000) (hq : q.size ≤ 150000000000000) (ht : t.size ≤ 150000000000000) :
    Calls Tryz.prog 14 #[v, .agg #[.int .i64 k, .string p, .string q, .string t, .int .i64 b], .int .i64 n] w fun e w' => ∃ u, e = .returned (.tuple #[u, .int .i64 (Pp.tapE L ⟨k, p, q, t, b⟩ n)]) ∧ Lies w' u (Pp.tapR L ⟨k, p, q, t, b⟩ n) ∧ Below w.heap.size w w' := by
  by_cases h60 : L.length ≤ 60
  · exact tapply_any L v k p q t b n w hv (by omega) hs hp hq ht
  · have HV : Hid (Lies w v L) := hv
    have HS : Hid (Sized L) := hs
    have htr : ¬ Pp.treeE L = 0 := by rw [Pp.treeE, if_pos (by omega)]; decide
    clear hv hs
    rw [Pp.tapE_no htr, Pp.tapR_no htr]
    have hz : (Pp.treeE L == 0) = false := by simpa using htr
    go_enter Tryz.func14, Tryz.ntmps14
    go_wp2_with fail
    refine (tcheck_all L v _ (HV.out.below ((Below.refl _ _).alloc (Nat.le_refl _) _)) HS.out).mono ?_
    rintro e w1 ⟨rfl, hb1⟩
    obtain ⟨c0, c1, c2, c3, c4, hbw, hlt⟩ := bx5 hb1
    clear hb1
    go_wp2
    go_ret2
    exact ⟨_, rfl, lies_nil _, hbw⟩
end Go.Proofs.YtogbahkoijkclaaGreat
