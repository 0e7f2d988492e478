/- What path.checked answers. -/
import Derived.Test.YtogbahkoijkclaaGreatW3c
set_option linter.unusedSimpArgs false
set_option linter.unusedVariables false
namespace Go.Proofs.YtogbahkoijkclaaGreat
open Go.RowKit

set_option maxHeartbeats 400000 in
theorem checked_ok (s : ByteArray) (w : World) (hs : s.size ≤ 1000000000000000) (h : Pp.chk s.data.toList = 0) :
    Calls Tryz.prog 81 #[.string s] w fun e w' => e = .returned (.tuple #[.string s, .int .i64 0]) ∧ Below w.heap.size w w' := by
  have HZ : Hid (Pp.chk s.data.toList = 0) := h
  clear h
  go_enter Tryz.func81, Tryz.ntmps81
  go_wp2_with fail
  refine (check_any _ _ hs).mono ?_
  rintro e w1 ⟨rfl, hb1⟩
  rw [HZ.out]
  go_wp2
  go_ret2
  exact ⟨rfl, hb1⟩
set_option maxHeartbeats 400000 in
theorem checked_no (s : ByteArray) (w : World) (hs : s.size ≤ 1000000000000000) (h : ¬ Pp.chk s.data.toList = 0) :
    Calls Tryz.prog 81 #[.string s] w fun e w' => e = .returned (.tuple #[.string ⟨#[]⟩, .int .i64 (Pp.chk s.data.toList)]) ∧ Below w.heap.size w w' := by
  have hz : (Pp.chk s.data.toList == 0) = false := by simpa using h
  clear h
  go_enter Tryz.func81, Tryz.ntmps81
  go_wp2_with fail
  refine (check_any _ _ hs).mono ?_
  rintro e w1 ⟨rfl, hb1⟩
  go_wp2
  go_ret2
  exact ⟨rfl, hb1⟩
end Go.Proofs.YtogbahkoijkclaaGreat
