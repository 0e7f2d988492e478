/- What must be in any case: pathBegun answers true. -/
import Derived.Test.YtkbcadiiceinaabDoorW5
set_option linter.unusedSimpArgs false
set_option linter.unusedVariables false
namespace Go.Proofs.YtkbcadiiceinaabDoor
open Go.RowKit

theorem begunE : Pp.asideE [120, 47, 110, 111, 116, 101, 46, 116, 120, 116] 2 = 0 := by decide +kernel
theorem begunT : Pp.ifc 0 (Pp.asideT [120, 47, 110, 111, 116, 101, 46, 116, 120, 116] (2 : Int).toNat) = [120, 47, 110, 111, 116, 101, 32, 40, 50, 41, 46, 116, 120, 116] := by decide +kernel
theorem begunC : Pp.chk [120, 47, 121] = 0 := by decide +kernel
theorem begunP : Pp.ifc 0 (Pp.par [120, 47, 121]) = [120] := by decide +kernel

set_option maxHeartbeats 400000 in
theorem begun_any (w : World) : Calls Tryd.prog 5 #[] w fun e w' => e = .returned (.bool true) ∧ Below w.heap.size w w' := by
  go_enter Tryd.func5, Tryd.ntmps5
  go_wp2_with fail
  refine (aside_any _ 2 _ (by decide)).mono ?_
  rintro e w1 ⟨rfl, hb1⟩
  rw [show Pp.asideE _ 2 = 0 from begunE, show Pp.ifc _ _ = _ from begunT]
  go_wp2_with fail
  refine (parent_any _ _ (by decide)).mono ?_
  rintro e w2 ⟨rfl, hb2⟩
  rw [show Pp.chk _ = 0 from begunC, show Pp.ifc _ _ = _ from begunP]
  go_wp2
  go_ret
  exact ⟨rfl, hb1.trans (hb2.mono hb1.size)⟩
end Go.Proofs.YtkbcadiiceinaabDoor
