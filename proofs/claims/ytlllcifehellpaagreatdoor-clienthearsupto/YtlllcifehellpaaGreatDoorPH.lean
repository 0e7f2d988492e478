/- Small things of trees. What tree.Check answers, for a tree of any length. Worlds that grow, one behind the other. -/
import Derived.Test.YtlllcifehellpaaGreatDoorMA
import Derived.Test.YtlllcifehellpaaGreatDoorMD
set_option linter.unusedSimpArgs false
set_option linter.unusedVariables false
namespace Go.Proofs.YtlllcifehellpaaGreatDoor
open Go.RowKit

theorem hid {p : Prop} (h : p) : Hid p := h
theorem lies_nil (w : World) : Lies w (.slice none 0 0) [] := ⟨none, 0, rfl, Nat.le_refl _, by simp, fun i hi => absurd hi (by simp)⟩
namespace Pp
theorem chk_len {l : List UInt8} (h : chk l = 0) : l.length ≤ 80 := by
  have h1 := chk_not_big h
  rw [big, Bool.or_eq_false_iff] at h1
  have := of_decide_eq_false h1.2
  omega
end Pp
end Go.Proofs.YtlllcifehellpaaGreatDoor
set_option linter.unusedSimpArgs false
set_option linter.unusedVariables false
namespace Go.Proofs.YtlllcifehellpaaGreatDoor
open Go.RowKit

set_option maxHeartbeats 1000000 in
theorem tcheck_all (L : List En) (v : Value) (w : World) (hv : Lies w v L) (hs : Sized L) :
    Calls Tryz.prog 47 #[v] w fun e w' => e = .returned (.int .i64 (Pp.treeE L)) ∧ Below w.heap.size w w' := by
  by_cases h60 : L.length ≤ 60
  · exact tcheck_any L v w hv (by omega) hs
  · have HE : Hid (2 = Pp.treeE L) := (by rw [Pp.treeE, if_pos (by omega)] : 2 = Pp.treeE L)
    obtain ⟨a, cap, rfl, hcap, hcap2, hL⟩ := hv
    have hl : 60 < (L.length : Int) := by omega
    clear hL hs
    go_enter Tryz.func47, Tryz.ntmps47
    go_wp2_with fail
    go_ret
    exact ⟨Pp.ret_int HE.out, Below.refl _ _⟩
end Go.Proofs.YtlllcifehellpaaGreatDoor
set_option linter.unusedSimpArgs false
set_option linter.unusedVariables false
namespace Go.Proofs.YtlllcifehellpaaGreatDoor
open Go.RowKit
theorem below_tr {w w1 w2 : World} (h1 : Below w.heap.size w w1) (h2 : Below w1.heap.size w1 w2) : Below w.heap.size w w2 := h1.trans (h2.mono h1.size)
end Go.Proofs.YtlllcifehellpaaGreatDoor
