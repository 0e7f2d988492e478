/- What path.Parent and Name answer, for every text. -/
import Derived.Test.YtogbahkoijkclaaGreatW3
import Derived.Lib.SmallJoins
set_option linter.unusedSimpArgs false
set_option linter.unusedVariables false
namespace Go.Proofs.YtogbahkoijkclaaGreat
open Go.RowKit

theorem checkAll1 (s : ByteArray) (ty : TypeId) (w : World) (hs : s.size ≤ 1000000000000000) :
    Calls Tryz.prog 36 #[.slice (some ⟨w.heap.size, 0, none⟩) 1 1] (w.alloc (.cells #[.string s] ty)) fun e w' => e = .returned (.int .i64 (Pp.chk s.data.toList)) ∧ Below w.heap.size w w' := by
  refine (checkAll_any [s] w.heap.size 1 _ (by simp) (by simp) (fun i h => ?_) (fun i h => ?_)).mono ?_
  · obtain rfl : i = 0 := by simpa using h
    exact hs
  · obtain rfl : i = 0 := by simpa using h
    simp
  · rintro e w' ⟨rfl, hb⟩
    refine ⟨Pp.ret_int ?_, ((Below.refl _ _).alloc (Nat.le_refl _) _).trans (hb.mono (by simp))⟩
    simp only [List.map, Pp.chks]; split
    · rename_i h; exact h.symm
    · rfl

set_option maxHeartbeats 400000 in
theorem parent_any (s : ByteArray) (w : World) (hs : s.size ≤ 1000000000000000) :
    Calls Tryz.prog 26 #[.string s] w fun e w' => e = .returned (.tuple #[.string ⟨(Pp.ifc (Pp.chk s.data.toList) (Pp.par s.data.toList)).toArray⟩, .int .i64 (Pp.chk s.data.toList)]) ∧ Below w.heap.size w w' := by
  by_cases hz : Pp.chk s.data.toList = 0
  · have HZ : Hid (Pp.chk s.data.toList = 0) := hz
    have HR : Hid (Pp.ifc 0 (Pp.par s.data.toList) = Pp.par s.data.toList) := Pp.ifc_yes rfl _
    clear hz
    go_enter Tryz.func26, Tryz.ntmps26
    go_wp2_with fail
    refine (checkAll1 s _ _ hs).mono ?_
    rintro e w1 ⟨rfl, hb1⟩
    rw [HZ.out]
    go_wp2_with fail
    refine (split_any s _ hs).mono ?_
    rintro e w2 ⟨rfl, hb2⟩
    go_wp2
    go_ret2
    exact ⟨by rw [HZ.out, HR.out]; rfl, hb1.trans (hb2.mono hb1.size)⟩
  · have hz2 : (Pp.chk s.data.toList == 0) = false := by simpa using hz
    have HR : Hid (Pp.ifc (Pp.chk s.data.toList) (Pp.par s.data.toList) = []) := Pp.ifc_no hz _
    clear hz
    go_enter Tryz.func26, Tryz.ntmps26
    go_wp2_with fail
    refine (checkAll1 s _ _ hs).mono ?_
    rintro e w1 ⟨rfl, hb1⟩
    go_wp2
    go_ret2
    exact ⟨by rw [HR.out]; rfl, hb1⟩
end Go.Proofs.YtogbahkoijkclaaGreat
