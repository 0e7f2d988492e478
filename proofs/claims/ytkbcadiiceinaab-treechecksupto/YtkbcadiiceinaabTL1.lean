/- What the law TreeChecks answers, for every tree that is not too great. -/
import Derived.Test.YtkbcadiiceinaabT11
import Derived.Test.YtkbcadiiceinaabT13
set_option linter.unusedSimpArgs false
set_option linter.unusedVariables false
namespace Go.Proofs.Ytkbcadiiceinaab
open Go.RowKit

set_option maxHeartbeats 1000000 in
theorem treeChecks_walk (L : List En) (v : Value) (w : World) (hv : Lies w v L) (hn : L.length ≤ 1048576) (hs : ∀ e ∈ L, e.path.size ≤ 1048576 ∧ e.text.size ≤ 1048576) :
    Calls Try.prog 3 #[v] w fun e w' => e = .returned (.bool true) ∧ Below w.heap.size w w' := by
  have HV : Hid (Lies w v L) := hv
  have HS : Hid (Sized L) := (fun e he => ⟨Nat.le_trans (hs e he).1 (by decide), Nat.le_trans (hs e he).2 (by decide)⟩ : Sized L)
  have HR : Hid (∀ e ∈ L, e.path.size ≤ 1000000000) := (fun e he => Nat.le_trans (hs e he).1 (by decide) : ∀ e ∈ L, e.path.size ≤ 1000000000)
  have HN : Hid (L.length ≤ 1000000000) := (Nat.le_trans hn (by decide) : L.length ≤ 1000000000)
  clear hv hs hn
  go_enter Try.func3, Try.ntmps3
  go_wp2_with fail
  refine (begun_yes _).mono ?_
  rintro e w1 ⟨rfl, hb1⟩
  go_wp2_with fail
  refine (tcheck_any L v _ (HV.out.below hb1) HN.out HS.out).mono ?_
  rintro e w2 ⟨rfl, hb2⟩
  have hb02 := below_trans hb1 hb2
  clear hb1 hb2
  go_wp2_with fail
  refine (rCheckTree_any L v _ (HV.out.below hb02) HR.out).mono ?_
  rintro e w3 ⟨rfl, hb3⟩
  have hb03 := below_trans hb02 hb3
  clear hb02 hb3
  go_wp2_with fail
  go_ret
  exact ⟨by simp, hb03⟩
end Go.Proofs.Ytkbcadiiceinaab
