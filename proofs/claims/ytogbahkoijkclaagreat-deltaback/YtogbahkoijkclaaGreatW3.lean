/- What path.split answer, for every text. -/
import Derived.Test.YtogbahkoijkclaaGreatW3c
set_option linter.unusedSimpArgs false
set_option linter.unusedVariables false
namespace Go.Proofs.YtogbahkoijkclaaGreat
open Go.RowKit

theorem lastIdx_any (s : ByteArray) (c : UInt8) (w : World) (hs : s.size ≤ 1000000000000000) :
    Calls Tryz.prog 52 #[.string s, .string ⟨#[c]⟩] w fun e w' => e = .returned (.int .i64 (Lib.lastIndexByte s (c.toNat : Int))) ∧ w' = w :=
  Tryz.strings_LastIndex_one s ⟨#[c]⟩ rfl (by omega) w

set_option maxHeartbeats 400000 in
theorem split_any (s : ByteArray) (w : World) (hs : s.size ≤ 1000000000000000) :
    Calls Tryz.prog 37 #[.string s] w fun e w' => e = .returned (.tuple #[.string ⟨(Pp.par s.data.toList).toArray⟩, .string ⟨(Pp.lst s.data.toList).toArray⟩]) ∧ Below w.heap.size w w' := by
  rcases Pp.last_cases s 47 with ⟨e, hn⟩ | ⟨a, b, e, hn, hl⟩
  · have HE : Hid (Lib.lastIndexByte s ((47 : UInt8).toNat : Int) = -1) := e
    have HP : Hid (s.extract 0 0 = ⟨(Pp.par s.data.toList).toArray⟩) := (Pp.bytes_eq (by rw [Lib.extract_data, Pp.par_none hn]; simp) : s.extract 0 0 = ⟨(Pp.par s.data.toList).toArray⟩)
    have HL : Hid (⟨(Pp.lst s.data.toList).toArray⟩ = s) := (by rw [Pp.lst_none hn] : ⟨(Pp.lst s.data.toList).toArray⟩ = s)
    clear e hn
    go_enter Tryz.func37, Tryz.ntmps37
    go_wp2_with fail
    refine (lastIdx_any s 47 _ hs).mono ?_
    rintro e w' ⟨rfl, rfl⟩
    rw [HE.out]
    go_wp2_with fail
    go_region
    go_wp2
    go_ret2
    exact ⟨by rw [show (max (-1 : Int) 0).toNat = 0 from rfl, HP.out, HL.out]; rfl, (Below.refl _ _).drew⟩
  · have HE : Hid (Lib.lastIndexByte s ((47 : UInt8).toNat : Int) = a.length) := e
    have hz : s.size = a.length + b.length + 1 := by rw [Lib.size_eq, hl]; simp; try omega
    have l1 : (a.length : Int) ≤ s.size := by omega
    have l2 : (a.length : Int) + 1 ≤ s.size := by omega
    have HP : Hid (s.extract 0 a.length = ⟨(Pp.par s.data.toList).toArray⟩) := (Pp.bytes_eq (by rw [Lib.extract_data, hl, Pp.par_cut a hn]; simp) : s.extract 0 a.length = ⟨(Pp.par s.data.toList).toArray⟩)
    have HL : Hid (s.extract (a.length + 1) s.size = ⟨(Pp.lst s.data.toList).toArray⟩) := (Pp.bytes_eq (by rw [Lib.extract_data, hl, Pp.lst_cut a hn, hz]; simp) : s.extract (a.length + 1) s.size = ⟨(Pp.lst s.data.toList).toArray⟩)
    clear e hn hl hz
    go_enter Tryz.func37, Tryz.ntmps37
    go_wp2_with fail
    refine (lastIdx_any s 47 _ hs).mono ?_
    rintro e w' ⟨rfl, rfl⟩
    rw [HE.out]
    go_wp2_with fail
    go_region
    go_wp2
    go_ret2
    exact ⟨by rw [HP.out, HL.out]; rfl, (Below.refl _ _).drew⟩

end Go.Proofs.YtogbahkoijkclaaGreat
