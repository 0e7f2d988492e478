/- What path.within, Within and Moved answer, for every text. -/
import Derived.Test.YtogbahkoijkclaaGreatW3d
import Derived.Test.YtogbahkoijkclaaGreatW4
import Derived.Test.YtogbahkoijkclaaGreatV0
import Derived.Test.YtogbahkoijkclaaGreatPure3
set_option linter.unusedSimpArgs false
set_option linter.unusedVariables false
namespace Go.Proofs.YtogbahkoijkclaaGreat
open Go.RowKit

theorem checkAll2 (s t : ByteArray) (ty : TypeId) (w : World) (hs : s.size ≤ 1000000000000000) (ht : t.size ≤ 1000000000000000) :
    Calls Tryz.prog 36 #[.slice (some ⟨w.heap.size, 0, none⟩) 2 2] (w.alloc (.cells #[.string s, .string t] ty)) fun e w' => e = .returned (.int .i64 (Pp.chks [s.data.toList, t.data.toList])) ∧ Below w.heap.size w w' := by
  refine (checkAll_any [s, t] w.heap.size 2 _ (by simp) (by simp) (fun i h => ?_) (fun i h => ?_)).mono ?_
  · match i, h with
    | 0, _ => exact hs
    | 1, _ => exact ht
  · match i, h with
    | 0, _ => simp
    | 1, _ => simp
  · rintro e w' ⟨rfl, hb⟩
    exact ⟨rfl, ((Below.refl _ _).alloc (Nat.le_refl _) _).trans (hb.mono (by simp))⟩
theorem checkAll3 (s t u : ByteArray) (ty : TypeId) (w : World) (hs : s.size ≤ 1000000000000000) (ht : t.size ≤ 1000000000000000) (hu : u.size ≤ 1000000000000000) :
    Calls Tryz.prog 36 #[.slice (some ⟨w.heap.size, 0, none⟩) 3 3] (w.alloc (.cells #[.string s, .string t, .string u] ty)) fun e w' => e = .returned (.int .i64 (Pp.chks [s.data.toList, t.data.toList, u.data.toList])) ∧ Below w.heap.size w w' := by
  refine (checkAll_any [s, t, u] w.heap.size 3 _ (by simp) (by simp) (fun i h => ?_) (fun i h => ?_)).mono ?_
  · match i, h with
    | 0, _ => exact hs
    | 1, _ => exact ht
    | 2, _ => exact hu
  · match i, h with
    | 0, _ => simp
    | 1, _ => simp
    | 2, _ => simp
  · rintro e w' ⟨rfl, hb⟩
    exact ⟨rfl, ((Below.refl _ _).alloc (Nat.le_refl _) _).trans (hb.mono (by simp))⟩


set_option maxHeartbeats 400000 in
theorem pwithin_any (s t : ByteArray) (w : World) (hs : s.size ≤ 1000000000000000) (ht : t.size ≤ 1000000000000000) :
    Calls Tryz.prog 77 #[.string s, .string t] w fun e w' => e = .returned (.bool (Pp.isInB s.data.toList t.data.toList)) ∧ w' = w := by
  have HI := Pp.isIn_eq s.data.toList t.data.toList
  cases hc : (s.toList == t.toList) with
  | true =>
    have HR : Hid (true = Pp.isInB s.data.toList t.data.toList) := (by rw [← HI, ← Lib.toList_data, ← Lib.toList_data, hc]; rfl : true = Pp.isInB s.data.toList t.data.toList)
    clear HI
    go_enter Tryz.func77, Tryz.ntmps77
    go_wp2_with fail
    go_ret
    exact ⟨Pp.ret_bool HR.out, rfl⟩
  | false =>
    have HR : Hid (Lib.hasPrefix s.data.toList (t ++ ⟨#[47]⟩).data.toList = Pp.isInB s.data.toList t.data.toList) := (by
      rw [← HI, Joins.data_append]
      rw [Lib.toList_data, Lib.toList_data] at hc
      rw [hc]; simp : Lib.hasPrefix s.data.toList (t ++ ⟨#[47]⟩).data.toList = Pp.isInB s.data.toList t.data.toList)
    clear HI
    go_enter Tryz.func77, Tryz.ntmps77
    go_wp2_with fail
    refine (Tryz.strings_HasPrefix _ _ _).mono ?_
    rintro e w1 ⟨rfl, rfl⟩
    rw [HR.out]
    go_wp2
    go_ret
    exact ⟨rfl, rfl⟩

set_option maxHeartbeats 400000 in
theorem within_any (s t : ByteArray) (w : World) (hs : s.size ≤ 1000000000000000) (ht : t.size ≤ 1000000000000000) :
    Calls Tryz.prog 57 #[.string s, .string t] w fun e w' => e = .returned (.tuple #[.bool (Pp.chks [s.data.toList, t.data.toList] == 0 && Pp.isInB s.data.toList t.data.toList), .int .i64 (Pp.chks [s.data.toList, t.data.toList])]) ∧ Below w.heap.size w w' := by
  cases hz : (Pp.chks [s.data.toList, t.data.toList] == 0) with
  | true =>
    have HZ : Hid (Pp.chks [s.data.toList, t.data.toList] = 0) := (by simpa using hz : Pp.chks [s.data.toList, t.data.toList] = 0)
    clear hz
    go_enter Tryz.func57, Tryz.ntmps57
    go_wp2_with fail
    refine (checkAll2 s t _ _ hs ht).mono ?_
    rintro e w1 ⟨rfl, hb1⟩
    rw [HZ.out]
    go_wp2_with fail
    refine (pwithin_any s t _ hs ht).mono ?_
    rintro e w2 ⟨rfl, rfl⟩
    go_wp2
    go_ret2
    exact ⟨by rw [HZ.out]; rfl, hb1⟩
  | false =>
    go_enter Tryz.func57, Tryz.ntmps57
    go_wp2_with fail
    refine (checkAll2 s t _ _ hs ht).mono ?_
    rintro e w1 ⟨rfl, hb1⟩
    go_wp2
    go_ret2
    exact ⟨rfl, hb1⟩

namespace Pp
theorem mv_cut (p f t : ByteArray) (h : isInB p.data.toList f.data.toList = true) : f.size ≤ p.size ∧ t ++ p.extract f.size p.size = ⟨(mvT p.data.toList f.data.toList t.data.toList).toArray⟩ := by
  have hle : f.data.toList.length ≤ p.data.toList.length := by
    rcases (isIn_of _ _).1 h with e | ⟨r, e⟩
    · rw [e]; exact Nat.le_refl _
    · rw [e]; simp
  refine ⟨by rw [Lib.size_eq, Lib.size_eq]; exact hle, bytes_eq ?_⟩
  rw [Joins.data_append, Lib.extract_data, mvT, Lib.size_eq f, Lib.size_eq p, List.take_of_length_le (by rw [List.length_drop]; exact Nat.le_refl _)]
theorem len_mv (p f t : List UInt8) : (mvT p f t).length ≤ t.length + p.length := by simp [mvT]
theorem mvE_no {p f t : List UInt8} (h : ¬ chks [p, f, t] = 0) : mvE p f t = chks [p, f, t] := by rw [mvE, if_neg h]
theorem mvE_out {p f t : List UInt8} (h : chks [p, f, t] = 0) (hi : isInB p f = false) : mvE p f t = 5 := by rw [mvE, if_pos h, if_neg (by rw [hi]; decide)]
theorem mvE_in {p f t : List UInt8} (h : chks [p, f, t] = 0) (hi : isInB p f = true) : mvE p f t = chk (mvT p f t) := by rw [mvE, if_pos h, if_pos hi]
end Pp

set_option maxHeartbeats 800000 in
theorem moved_any (p f t : ByteArray) (w : World) (hp : p.size ≤ 200000000000000) (hf : f.size ≤ 200000000000000) (ht : t.size ≤ 200000000000000) :
    Calls Tryz.prog 60 #[.string p, .string f, .string t] w fun e w' => e = .returned (.tuple #[.string ⟨(Pp.ifc (Pp.mvE p.data.toList f.data.toList t.data.toList) (Pp.mvT p.data.toList f.data.toList t.data.toList)).toArray⟩, .int .i64 (Pp.mvE p.data.toList f.data.toList t.data.toList)]) ∧ Below w.heap.size w w' := by
  have hlen := Pp.len_mv p.data.toList f.data.toList t.data.toList
  rw [← Lib.size_eq, ← Lib.size_eq] at hlen
  by_cases hz : Pp.chks [p.data.toList, f.data.toList, t.data.toList] = 0
  · have HZ : Hid (Pp.chks [p.data.toList, f.data.toList, t.data.toList] = 0) := hz
    cases hi : Pp.isInB p.data.toList f.data.toList with
    | false =>
      have HI : Hid (Pp.isInB p.data.toList f.data.toList = false) := hi
      have HE : Hid (Pp.mvE p.data.toList f.data.toList t.data.toList = 5) := Pp.mvE_out hz hi
      clear hz hi
      go_enter Tryz.func60, Tryz.ntmps60
      go_wp2_with fail
      refine (checkAll3 p f t _ _ (by omega) (by omega) (by omega)).mono ?_
      rintro e w1 ⟨rfl, hb1⟩
      rw [HZ.out]
      go_wp2_with fail
      refine (pwithin_any p f _ (by omega) (by omega)).mono ?_
      rintro e w2 ⟨rfl, rfl⟩
      rw [HI.out]
      go_wp2
      go_ret2
      exact ⟨by rw [HE.out, Pp.ifc_no (by decide)]; rfl, hb1⟩
    | true =>
      have HI : Hid (Pp.isInB p.data.toList f.data.toList = true) := hi
      have HE : Hid (Pp.mvE p.data.toList f.data.toList t.data.toList = Pp.chk (Pp.mvT p.data.toList f.data.toList t.data.toList)) := Pp.mvE_in hz hi
      obtain ⟨hle, hcut⟩ := Pp.mv_cut p f t hi
      have HCUT : Hid (t ++ p.extract f.size p.size = ⟨(Pp.mvT p.data.toList f.data.toList t.data.toList).toArray⟩) := hcut
      clear hz hi hcut
      have hle2 : (f.size : Int) ≤ p.size := by omega
      by_cases hq : Pp.chk (Pp.mvT p.data.toList f.data.toList t.data.toList) = 0
      · have HQ : Hid (Pp.chk (Pp.mvT p.data.toList f.data.toList t.data.toList) = 0) := hq
        clear hq
        go_enter Tryz.func60, Tryz.ntmps60
        go_wp2_with fail
        refine (checkAll3 p f t _ _ (by omega) (by omega) (by omega)).mono ?_
        rintro e w1 ⟨rfl, hb1⟩
        rw [HZ.out]
        go_wp2_with fail
        refine (pwithin_any p f _ (by omega) (by omega)).mono ?_
        rintro e w2 ⟨rfl, rfl⟩
        rw [HI.out]
        go_wp2_with fail
        rw [HCUT.out]
        refine (checked_ok ⟨(Pp.mvT p.data.toList f.data.toList t.data.toList).toArray⟩ _ (by rw [Pp.sz]; omega) HQ.out).mono ?_
        rintro e w4 ⟨rfl, hb4⟩
        go_wp2
        go_ret2
        exact ⟨by rw [HE.out, HQ.out, Pp.ifc_yes rfl]; rfl, below_trans hb1 hb4⟩
      · have HQ : Hid (¬ Pp.chk (Pp.mvT p.data.toList f.data.toList t.data.toList) = 0) := hq
        clear hq
        go_enter Tryz.func60, Tryz.ntmps60
        go_wp2_with fail
        refine (checkAll3 p f t _ _ (by omega) (by omega) (by omega)).mono ?_
        rintro e w1 ⟨rfl, hb1⟩
        rw [HZ.out]
        go_wp2_with fail
        refine (pwithin_any p f _ (by omega) (by omega)).mono ?_
        rintro e w2 ⟨rfl, rfl⟩
        rw [HI.out]
        go_wp2_with fail
        rw [HCUT.out]
        refine (checked_no ⟨(Pp.mvT p.data.toList f.data.toList t.data.toList).toArray⟩ _ (by rw [Pp.sz]; omega) HQ.out).mono ?_
        rintro e w4 ⟨rfl, hb4⟩
        go_wp2
        go_ret2
        exact ⟨by rw [HE.out, Pp.ifc_no HQ.out]; rfl, below_trans hb1 hb4⟩
  · have HE : Hid (Pp.mvE p.data.toList f.data.toList t.data.toList = Pp.chks [p.data.toList, f.data.toList, t.data.toList]) := Pp.mvE_no hz
    have HZ : Hid (¬ Pp.chks [p.data.toList, f.data.toList, t.data.toList] = 0) := hz
    have hz2 : (Pp.chks [p.data.toList, f.data.toList, t.data.toList] == 0) = false := by simpa using hz
    clear hz
    go_enter Tryz.func60, Tryz.ntmps60
    go_wp2_with fail
    refine (checkAll3 p f t _ _ (by omega) (by omega) (by omega)).mono ?_
    rintro e w1 ⟨rfl, hb1⟩
    go_wp2
    go_ret2
    exact ⟨by rw [HE.out, Pp.ifc_no HZ.out]; rfl, hb1⟩
end Go.Proofs.YtogbahkoijkclaaGreat
