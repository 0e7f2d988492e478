/- What path.Name answers, for every text. -/
import Derived.Test.YtgbokcmmknabcabW4
set_option linter.unusedSimpArgs false
set_option linter.unusedVariables false
namespace Go.Proofs.Ytgbokcmmknabcab
open Go.RowKit

set_option maxHeartbeats 400000 in
theorem name_any (s : ByteArray) (w : World) (hs : s.size ≤ 1000000000000000) :
    Calls Try.prog 36 #[.string s] w fun e w' => e = .returned (.tuple #[.string ⟨(Pp.ifc (Pp.chk s.data.toList) (Pp.lst s.data.toList)).toArray⟩, .int .i64 (Pp.chk s.data.toList)]) ∧ Below w.heap.size w w' := by
  by_cases hz : Pp.chk s.data.toList = 0
  · have HZ : Hid (Pp.chk s.data.toList = 0) := hz
    have HR : Hid (Pp.ifc 0 (Pp.lst s.data.toList) = Pp.lst s.data.toList) := Pp.ifc_yes rfl _
    clear hz
    go_enter Try.func36, Try.ntmps36
    go_wp2_with fail
    refine (checkAll1 s _ _ hs).mono ?_
    rintro e w1 ⟨rfl, hb1⟩
    rw [HZ.out]
    go_wp2_with fail
    refine (split_any s _ hs).mono ?_
    rintro e w2 ⟨rfl, hb2⟩
    go_wp2
    go_ret2
    exact ⟨by rw [HZ.out, HR.out]; rfl, hb1.trans (hb2.mono hb1.size)⟩
  · have hz2 : (Pp.chk s.data.toList == 0) = false := by simpa using hz
    have HR : Hid (Pp.ifc (Pp.chk s.data.toList) (Pp.lst s.data.toList) = []) := Pp.ifc_no hz _
    clear hz
    go_enter Try.func36, Try.ntmps36
    go_wp2_with fail
    refine (checkAll1 s _ _ hs).mono ?_
    rintro e w1 ⟨rfl, hb1⟩
    go_wp2
    go_ret2
    exact ⟨by rw [HR.out]; rfl, hb1⟩

end Go.Proofs.Ytgbokcmmknabcab
