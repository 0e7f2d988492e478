/- The function literal of tree.All says yes to all. -/
import Derived.Test.YthfdmdjmbbollaaGreatDoorPE
set_option linter.unusedSimpArgs false
set_option linter.unusedVariables false
namespace Go.Proofs.YthfdmdjmbbollaaGreatDoor
open Go.RowKit

set_option maxHeartbeats 400000 in
theorem yes1_any (x : En) (w : World) :
    Calls Tryz.prog 57 #[.agg #[.string x.path, .bool x.folder, .string x.text, .int .i64 x.ver]] w fun r w' => r = .returned (.bool true) ∧ Below w.heap.size w w' := by
  go_enter Tryz.func57, Tryz.ntmps57
  go_wp2
  go_ret
  exact ⟨rfl, by first | exact Below.refl _ _ | exact (Below.refl _ _).alloc (Nat.le_refl _) _⟩

theorem yes_tells (w : World) : Tells w 57 #[] (fun _ => true) :=
  ⟨enters_of Tryz.func57 (by kernel_rfl) rfl, fun W hW x hx => yes1_any x W⟩
end Go.Proofs.YthfdmdjmbbollaaGreatDoor
