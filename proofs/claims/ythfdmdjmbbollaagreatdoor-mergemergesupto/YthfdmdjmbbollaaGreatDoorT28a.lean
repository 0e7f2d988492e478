/- What tree.Check answers, for a tree of any length. -/
import Derived.Test.YthfdmdjmbbollaaGreatDoorMD
import Derived.Test.YthfdmdjmbbollaaGreatDoorTBase
set_option linter.unusedSimpArgs false
set_option linter.unusedVariables false
namespace Go.Proofs.YthfdmdjmbbollaaGreatDoor
open Go.RowKit

set_option maxHeartbeats 1000000 in
theorem tcheck_all (L : List En) (v : Value) (w : World) (hv : Lies w v L) (hs : Sized L) :
    Calls Tryz.prog 18 #[v] w fun e w' => e = .returned (.int .i64 (Pp.treeE L)) ∧ Below w.heap.size w w' := by
  by_cases h60 : L.length ≤ 60
  · exact tcheck_any L v w hv (by omega) hs
  · have HE : Hid (2 = Pp.treeE L) := (by rw [Pp.treeE, if_pos (by omega)] : 2 = Pp.treeE L)
    obtain ⟨a, cap, rfl, hcap, hcap2, hL⟩ := hv
    have hl : 60 < (L.length : Int) := by omega
    clear hL hs
    go_enter Tryz.func18, Tryz.ntmps18
    go_wp2_with fail
    go_ret
    exact ⟨Pp.ret_int HE.out, Below.refl _ _⟩
end Go.Proofs.YthfdmdjmbbollaaGreatDoor
