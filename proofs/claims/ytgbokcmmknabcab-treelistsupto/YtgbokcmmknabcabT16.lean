/- What tree.justIn answers, for every path. -/
import Derived.Test.YtgbokcmmknabcabT5
set_option linter.unusedSimpArgs false
set_option linter.unusedVariables false
namespace Go.Proofs.Ytgbokcmmknabcab
open Go.RowKit

namespace Pp
def jiB (q : List UInt8) (e : En) : Bool := ifc (chk e.path.data.toList) (par e.path.data.toList) == q
end Pp
set_option maxHeartbeats 400000 in
theorem justIn1_any (e : En) (q : ByteArray) (b : Nat) (w : World) (hb : b < w.heap.size) (hc : w.cell? ⟨b, 0, none⟩ = some (.string q)) (hs : e.path.size ≤ 1000000000000000) :
    Calls Try.prog 51 #[.agg #[.string e.path, .bool e.folder, .string e.text, .int .i64 e.ver], .pointer (some ⟨b, 0, none⟩)] w fun r w' => r = .returned (.bool (Pp.jiB q.data.toList e)) ∧ Below w.heap.size w w' := by
  have HI : Hid (((⟨(Pp.ifc (Pp.chk e.path.data.toList) (Pp.par e.path.data.toList)).toArray⟩ : ByteArray).toList == q.toList) = Pp.jiB q.data.toList e) := (by rw [Pp.jiB, Lib.toList_data, Lib.toList_data] : ((⟨(Pp.ifc (Pp.chk e.path.data.toList) (Pp.par e.path.data.toList)).toArray⟩ : ByteArray).toList == q.toList) = Pp.jiB q.data.toList e)
  go_enter Try.func51, Try.ntmps51
  go_wp2_with fail
  refine (parent_any e.path _ hs).mono ?_
  rintro r w1 ⟨rfl, hb1⟩
  obtain ⟨d0, d1, d2, d3, hb1w, hlt1⟩ := box4 hb1
  have hc2 : w1.cell? ⟨b, 0, none⟩ = some (.string q) := (hb1w.cell (p := ⟨b, 0, none⟩) hb).trans hc
  clear hb1
  generalize hP : (⟨(Pp.ifc (Pp.chk e.path.data.toList) (Pp.par e.path.data.toList)).toArray⟩ : ByteArray) = P at *
  go_wp2
  go_ret
  exact ⟨Pp.ret_bool HI.out, hb1w⟩
set_option maxHeartbeats 400000 in
theorem justIn_any (q : ByteArray) (w : World) :
    Calls Try.prog 35 #[.string q] w fun e w' => e = .returned (.func (.func 51) #[] #[.pointer (some ⟨w.heap.size, 0, none⟩)]) ∧ Tells w' 51 #[.pointer (some ⟨w.heap.size, 0, none⟩)] (Pp.jiB q.data.toList) ∧ Below w.heap.size w w' := by
  go_enter Try.func35, Try.ntmps35
  go_wp2
  go_ret
  refine ⟨rfl, ⟨enters_of Try.func51 (by kernel_rfl) rfl, fun W hW e he => ?_⟩, (Below.refl _ _).alloc (Nat.le_refl _) _⟩
  exact justIn1_any e q w.heap.size W (Nat.lt_of_lt_of_le (by simp) hW.size) ((hW.cell (p := ⟨w.heap.size, 0, none⟩) (by simp)).trans (by simp)) he
end Go.Proofs.Ytgbokcmmknabcab
