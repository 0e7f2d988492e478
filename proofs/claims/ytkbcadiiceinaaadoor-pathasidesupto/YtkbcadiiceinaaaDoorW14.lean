/- What path.Moved answers, for every three texts. -/
import Derived.Test.YtkbcadiiceinaaaDoorW13
set_option linter.unusedSimpArgs false
set_option linter.unusedVariables false
namespace Go.Proofs.YtkbcadiiceinaaaDoor
open Go.RowKit

namespace Pp
theorem mv_cut (p f t : ByteArray) (h : isInB p.data.toList f.data.toList = true) : f.size ≤ p.size ∧ t ++ p.extract f.size p.size = ⟨(mvT p.data.toList f.data.toList t.data.toList).toArray⟩ := by
  have hle : f.data.toList.length ≤ p.data.toList.length := by
    rcases (isIn_of _ _).1 h with e | ⟨r, e⟩
    · rw [e]; exact Nat.le_refl _
    · rw [e]; simp
  refine ⟨by rw [Lib.size_eq, Lib.size_eq]; exact hle, bytes_eq ?_⟩
  rw [Joins.data_append, Lib.extract_data, mvT, Lib.size_eq f, Lib.size_eq p, List.take_of_length_le (by rw [List.length_drop]; exact Nat.le_refl _)]
theorem len_mv (p f t : List UInt8) : (mvT p f t).length ≤ t.length + p.length := by simp [mvT]
theorem mvE_no {p f t : List UInt8} (h : ¬ chks [p, f, t] = 0) : mvE p f t = chks [p, f, t] := by rw [mvE, if_neg h]
theorem mvE_out {p f t : List UInt8} (h : chks [p, f, t] = 0) (hi : isInB p f = false) : mvE p f t = 5 := by rw [mvE, if_pos h, if_neg (by rw [hi]; decide)]
theorem mvE_in {p f t : List UInt8} (h : chks [p, f, t] = 0) (hi : isInB p f = true) : mvE p f t = chk (mvT p f t) := by rw [mvE, if_pos h, if_pos hi]
end Pp

set_option maxHeartbeats 800000 in
theorem moved_any (p f t : ByteArray) (w : World) (hp : p.size ≤ 100000000) (hf : f.size ≤ 100000000) (ht : t.size ≤ 100000000) :
    Calls Tryd.prog 24 #[.string p, .string f, .string t] w fun e w' => e = .returned (.tuple #[.string ⟨(Pp.ifc (Pp.mvE p.data.toList f.data.toList t.data.toList) (Pp.mvT p.data.toList f.data.toList t.data.toList)).toArray⟩, .int .i64 (Pp.mvE p.data.toList f.data.toList t.data.toList)]) ∧ Below w.heap.size w w' := by
  have hlen := Pp.len_mv p.data.toList f.data.toList t.data.toList
  rw [← Lib.size_eq, ← Lib.size_eq] at hlen
  by_cases hz : Pp.chks [p.data.toList, f.data.toList, t.data.toList] = 0
  · have HZ : Hid (Pp.chks [p.data.toList, f.data.toList, t.data.toList] = 0) := hz
    cases hi : Pp.isInB p.data.toList f.data.toList with
    | false =>
      have HI : Hid (Pp.isInB p.data.toList f.data.toList = false) := hi
      have HE : Hid (Pp.mvE p.data.toList f.data.toList t.data.toList = 5) := Pp.mvE_out hz hi
      clear hz hi
      go_enter Tryd.func24, Tryd.ntmps24
      go_wp2_with fail
      refine (checkAll3 p f t _ _ (by omega) (by omega) (by omega)).mono ?_
      rintro e w1 ⟨rfl, hb1⟩
      rw [HZ.out]
      go_wp2_with fail
      refine (pwithin_any p f _ (by omega) (by omega)).mono ?_
      rintro e w2 ⟨rfl, rfl⟩
      rw [HI.out]
      go_wp2
      go_ret2
      exact ⟨by rw [HE.out, Pp.ifc_no (by decide)]; rfl, hb1⟩
    | true =>
      have HI : Hid (Pp.isInB p.data.toList f.data.toList = true) := hi
      have HE : Hid (Pp.mvE p.data.toList f.data.toList t.data.toList = Pp.chk (Pp.mvT p.data.toList f.data.toList t.data.toList)) := Pp.mvE_in hz hi
      obtain ⟨hle, hcut⟩ := Pp.mv_cut p f t hi
      have HCUT : Hid (t ++ p.extract f.size p.size = ⟨(Pp.mvT p.data.toList f.data.toList t.data.toList).toArray⟩) := hcut
      clear hz hi hcut
      have hle2 : (f.size : Int) ≤ p.size := by omega
      by_cases hq : Pp.chk (Pp.mvT p.data.toList f.data.toList t.data.toList) = 0
      · have HQ : Hid (Pp.chk (Pp.mvT p.data.toList f.data.toList t.data.toList) = 0) := hq
        clear hq
        go_enter Tryd.func24, Tryd.ntmps24
        go_wp2_with fail
        refine (checkAll3 p f t _ _ (by omega) (by omega) (by omega)).mono ?_
        rintro e w1 ⟨rfl, hb1⟩
        rw [HZ.out]
        go_wp2_with fail
        refine (pwithin_any p f _ (by omega) (by omega)).mono ?_
        rintro e w2 ⟨rfl, rfl⟩
        rw [HI.out]
        go_wp2_with fail
        rw [HCUT.out]
        refine (checked_ok ⟨(Pp.mvT p.data.toList f.data.toList t.data.toList).toArray⟩ _ (by rw [Pp.sz]; omega) HQ.out).mono ?_
        rintro e w4 ⟨rfl, hb4⟩
        go_wp2
        go_ret2
        exact ⟨by rw [HE.out, HQ.out, Pp.ifc_yes rfl]; rfl, below_trans hb1 hb4⟩
      · have HQ : Hid (¬ Pp.chk (Pp.mvT p.data.toList f.data.toList t.data.toList) = 0) := hq
        clear hq
        go_enter Tryd.func24, Tryd.ntmps24
        go_wp2_with fail
        refine (checkAll3 p f t _ _ (by omega) (by omega) (by omega)).mono ?_
        rintro e w1 ⟨rfl, hb1⟩
        rw [HZ.out]
        go_wp2_with fail
        refine (pwithin_any p f _ (by omega) (by omega)).mono ?_
        rintro e w2 ⟨rfl, rfl⟩
        rw [HI.out]
        go_wp2_with fail
        rw [HCUT.out]
        refine (checked_no ⟨(Pp.mvT p.data.toList f.data.toList t.data.toList).toArray⟩ _ (by rw [Pp.sz]; omega) HQ.out).mono ?_
        rintro e w4 ⟨rfl, hb4⟩
        go_wp2
        go_ret2
        exact ⟨by rw [HE.out, Pp.ifc_no HQ.out]; rfl, below_trans hb1 hb4⟩
  · have HE : Hid (Pp.mvE p.data.toList f.data.toList t.data.toList = Pp.chks [p.data.toList, f.data.toList, t.data.toList]) := Pp.mvE_no hz
    have HZ : Hid (¬ Pp.chks [p.data.toList, f.data.toList, t.data.toList] = 0) := hz
    have hz2 : (Pp.chks [p.data.toList, f.data.toList, t.data.toList] == 0) = false := by simpa using hz
    clear hz
    go_enter Tryd.func24, Tryd.ntmps24
    go_wp2_with fail
    refine (checkAll3 p f t _ _ (by omega) (by omega) (by omega)).mono ?_
    rintro e w1 ⟨rfl, hb1⟩
    go_wp2
    go_ret2
    exact ⟨by rw [HE.out, Pp.ifc_no HZ.out]; rfl, hb1⟩
end Go.Proofs.YtkbcadiiceinaaaDoor
