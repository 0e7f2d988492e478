/- Small things of trees. -/
import Derived.Test.YthfdmdjmbbollaaGreatDoorMA
set_option linter.unusedSimpArgs false
set_option linter.unusedVariables false
namespace Go.Proofs.YthfdmdjmbbollaaGreatDoor
open Go.RowKit

theorem hid {p : Prop} (h : p) : Hid p := h
theorem lies_nil (w : World) : Lies w (.slice none 0 0) [] := ⟨none, 0, rfl, Nat.le_refl _, by simp, fun i hi => absurd hi (by simp)⟩
namespace Pp
theorem chk_len {l : List UInt8} (h : chk l = 0) : l.length ≤ 80 := by
  have h1 := chk_not_big h
  rw [big, Bool.or_eq_false_iff] at h1
  have := of_decide_eq_false h1.2
  omega
end Pp
end Go.Proofs.YthfdmdjmbbollaaGreatDoor
