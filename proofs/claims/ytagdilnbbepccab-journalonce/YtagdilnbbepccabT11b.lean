/- The function literal of tree.All says yes to all. -/
import Derived.Test.YtagdilnbbepccabT11a
set_option linter.unusedSimpArgs false
set_option linter.unusedVariables false
namespace Go.Proofs.Ytagdilnbbepccab
open Go.RowKit

set_option maxHeartbeats 400000 in
theorem yes1_any (x : En) (w : World) :
    Calls Try.prog 37 #[.agg #[.string x.path, .bool x.folder, .string x.text, .int .i64 x.ver]] w fun r w' => r = .returned (.bool true) ∧ Below w.heap.size w w' := by
  go_enter Try.func37, Try.ntmps37
  go_wp2
  go_ret
  exact ⟨rfl, by first | exact Below.refl _ _ | exact (Below.refl _ _).alloc (Nat.le_refl _) _⟩

theorem yes_tells (w : World) : Tells w 37 #[] (fun _ => true) :=
  ⟨enters_of Try.func37 (by kernel_rfl) rfl, fun W hW x hx => yes1_any x W⟩
end Go.Proofs.Ytagdilnbbepccab
