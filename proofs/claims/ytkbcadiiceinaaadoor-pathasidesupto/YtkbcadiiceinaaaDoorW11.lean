/- What path.within and Within, the document's own CheckPaths and IsIn answer, for every two texts; the law on Within. -/
import Derived.Test.YtkbcadiiceinaaaDoorW10
set_option linter.unusedSimpArgs false
set_option linter.unusedVariables false
namespace Go.Proofs.YtkbcadiiceinaaaDoor
open Go.RowKit

theorem checkAll2 (s t : ByteArray) (ty : TypeId) (w : World) (hs : s.size ≤ 1000000000) (ht : t.size ≤ 1000000000) :
    Calls Tryd.prog 31 #[.slice (some ⟨w.heap.size, 0, none⟩) 2 2] (w.alloc (.cells #[.string s, .string t] ty)) fun e w' => e = .returned (.int .i64 (Pp.chks [s.data.toList, t.data.toList])) ∧ Below w.heap.size w w' := by
  refine (checkAll_any [s, t] w.heap.size 2 _ (by simp) (by simp) (fun i h => ?_) (fun i h => ?_)).mono ?_
  · match i, h with
    | 0, _ => exact hs
    | 1, _ => exact ht
  · match i, h with
    | 0, _ => simp
    | 1, _ => simp
  · rintro e w' ⟨rfl, hb⟩
    exact ⟨rfl, ((Below.refl _ _).alloc (Nat.le_refl _) _).trans (hb.mono (by simp))⟩
theorem checkAll3 (s t u : ByteArray) (ty : TypeId) (w : World) (hs : s.size ≤ 1000000000) (ht : t.size ≤ 1000000000) (hu : u.size ≤ 1000000000) :
    Calls Tryd.prog 31 #[.slice (some ⟨w.heap.size, 0, none⟩) 3 3] (w.alloc (.cells #[.string s, .string t, .string u] ty)) fun e w' => e = .returned (.int .i64 (Pp.chks [s.data.toList, t.data.toList, u.data.toList])) ∧ Below w.heap.size w w' := by
  refine (checkAll_any [s, t, u] w.heap.size 3 _ (by simp) (by simp) (fun i h => ?_) (fun i h => ?_)).mono ?_
  · match i, h with
    | 0, _ => exact hs
    | 1, _ => exact ht
    | 2, _ => exact hu
  · match i, h with
    | 0, _ => simp
    | 1, _ => simp
    | 2, _ => simp
  · rintro e w' ⟨rfl, hb⟩
    exact ⟨rfl, ((Below.refl _ _).alloc (Nat.le_refl _) _).trans (hb.mono (by simp))⟩

set_option maxHeartbeats 400000 in
theorem rCheckPaths_any (ls : List ByteArray) (b cap : Nat) (w : World) (hb : b < w.heap.size) (hn : ls.length ≤ 1000) (hs : ∀ i (h : i < ls.length), (ls[i]).size ≤ 1000000000)
    (hc : ∀ i (h : i < ls.length), w.cell? ⟨b, i, none⟩ = some (.string ls[i])) :
    Calls Tryd.prog 22 #[.slice (some ⟨b, 0, none⟩) ls.length cap] w fun e w' => e = .returned (.int .i64 (Pp.chks (ls.map fun s => s.data.toList))) ∧ Below w.heap.size w w' := by
  have HS : Hid (∀ i (h : i < ls.length), (ls[i]).size ≤ 1000000000) := hs
  have HC : Hid (∀ i (h : i < ls.length), w.cell? ⟨b, i, none⟩ = some (.string ls[i])) := hc
  clear hs hc
  go_enter Tryd.func22, Tryd.ntmps22
  go_wp2_with fail
  go_loopw [3] (fun i wr => ∃ k : Nat, k ≤ ls.length ∧ i = .int .i64 k ∧ Pp.chks (ls.map fun s => s.data.toList) = Pp.chks ((ls.drop k).map fun s => s.data.toList) ∧ Below w.heap.size w wr) (fun i _ => ls.length - (intOf i).toNat)
  case atStart => exact ⟨0, Nat.zero_le _, rfl, rfl, Below.refl _ _⟩
  case round =>
    obtain ⟨k, hk, rfl, heq, hbel⟩ := hrel
    have HE : Hid (Pp.chks (ls.map fun s => s.data.toList) = Pp.chks ((ls.drop k).map fun s => s.data.toList)) := heq
    clear heq
    by_cases hlt : k < ls.length
    · have hcell : wr.cell? ⟨b, k, none⟩ = some (.string ls[k]) := (hbel.cell (p := ⟨b, k, none⟩) hb).trans (HC.out k hlt)
      have HD : Hid (ls.drop k = ls[k] :: ls.drop (k + 1)) := List.drop_eq_getElem_cons hlt
      cases hz : (Pp.chk (ls[k]).data.toList == 0) with
      | true =>
        have HZ : Hid (Pp.chk (ls[k]).data.toList = 0) := (by simpa using hz : Pp.chk (ls[k]).data.toList = 0)
        clear hz
        go_wp2_with fail
        refine (rCheck_any _ _ (HS.out k hlt)).mono ?_
        rintro e w1 ⟨rfl, hb1⟩
        rw [HZ.out]
        go_wp2_with fail
        go_roundw
        case rel => exact ⟨k + 1, by omega, by simp, by rw [HE.out, HD.out, List.map_cons, Pp.chks, if_pos HZ.out], hbel.trans (hb1.mono hbel.size)⟩
        case measure => simp [intOf]; omega
      | false =>
        have HZ : Hid (¬ Pp.chk (ls[k]).data.toList = 0) := (by simpa using hz : ¬ Pp.chk (ls[k]).data.toList = 0)
        go_wp2_with fail
        refine (rCheck_any _ _ (HS.out k hlt)).mono ?_
        rintro e w1 ⟨rfl, hb1⟩
        go_wp2_with fail
        go_ret
        exact ⟨Pp.ret_int (by rw [HE.out, HD.out, List.map_cons, Pp.chks, if_neg HZ.out]), hbel.trans (hb1.mono hbel.size)⟩
    · go_wp2_with fail
      go_ret
      exact ⟨Pp.ret_int (by rw [HE.out, List.drop_of_length_le (by omega)]; rfl), hbel⟩
theorem rCheckPaths2 (s t : ByteArray) (ty : TypeId) (w : World) (hs : s.size ≤ 1000000000) (ht : t.size ≤ 1000000000) :
    Calls Tryd.prog 22 #[.slice (some ⟨w.heap.size, 0, none⟩) 2 2] (w.alloc (.cells #[.string s, .string t] ty)) fun e w' => e = .returned (.int .i64 (Pp.chks [s.data.toList, t.data.toList])) ∧ Below w.heap.size w w' := by
  refine (rCheckPaths_any [s, t] w.heap.size 2 _ (by simp) (by simp) (fun i h => ?_) (fun i h => ?_)).mono ?_
  · match i, h with
    | 0, _ => exact hs
    | 1, _ => exact ht
  · match i, h with
    | 0, _ => simp
    | 1, _ => simp
  · rintro e w' ⟨rfl, hb⟩
    exact ⟨rfl, ((Below.refl _ _).alloc (Nat.le_refl _) _).trans (hb.mono (by simp))⟩
theorem rCheckPaths3 (s t u : ByteArray) (ty : TypeId) (w : World) (hs : s.size ≤ 1000000000) (ht : t.size ≤ 1000000000) (hu : u.size ≤ 1000000000) :
    Calls Tryd.prog 22 #[.slice (some ⟨w.heap.size, 0, none⟩) 3 3] (w.alloc (.cells #[.string s, .string t, .string u] ty)) fun e w' => e = .returned (.int .i64 (Pp.chks [s.data.toList, t.data.toList, u.data.toList])) ∧ Below w.heap.size w w' := by
  refine (rCheckPaths_any [s, t, u] w.heap.size 3 _ (by simp) (by simp) (fun i h => ?_) (fun i h => ?_)).mono ?_
  · match i, h with
    | 0, _ => exact hs
    | 1, _ => exact ht
    | 2, _ => exact hu
  · match i, h with
    | 0, _ => simp
    | 1, _ => simp
    | 2, _ => simp
  · rintro e w' ⟨rfl, hb⟩
    exact ⟨rfl, ((Below.refl _ _).alloc (Nat.le_refl _) _).trans (hb.mono (by simp))⟩

set_option maxHeartbeats 400000 in
theorem pwithin_any (s t : ByteArray) (w : World) (hs : s.size ≤ 1000000000) (ht : t.size ≤ 1000000000) :
    Calls Tryd.prog 35 #[.string s, .string t] w fun e w' => e = .returned (.bool (Pp.isInB s.data.toList t.data.toList)) ∧ w' = w := by
  have HI := Pp.isIn_eq s.data.toList t.data.toList
  cases hc : (s.toList == t.toList) with
  | true =>
    have HR : Hid (true = Pp.isInB s.data.toList t.data.toList) := (by rw [← HI, ← Lib.toList_data, ← Lib.toList_data, hc]; rfl : true = Pp.isInB s.data.toList t.data.toList)
    clear HI
    go_enter Tryd.func35, Tryd.ntmps35
    go_wp2_with fail
    go_ret
    exact ⟨Pp.ret_bool HR.out, rfl⟩
  | false =>
    have HR : Hid (Lib.hasPrefix s.data.toList (t ++ ⟨#[47]⟩).data.toList = Pp.isInB s.data.toList t.data.toList) := (by
      rw [← HI, Joins.data_append]
      rw [Lib.toList_data, Lib.toList_data] at hc
      rw [hc]; simp : Lib.hasPrefix s.data.toList (t ++ ⟨#[47]⟩).data.toList = Pp.isInB s.data.toList t.data.toList)
    clear HI
    go_enter Tryd.func35, Tryd.ntmps35
    go_wp2_with fail
    refine (Tryd.strings_HasPrefix _ _ _).mono ?_
    rintro e w1 ⟨rfl, rfl⟩
    rw [HR.out]
    go_wp2
    go_ret
    exact ⟨rfl, rfl⟩

set_option maxHeartbeats 400000 in
theorem within_any (s t : ByteArray) (w : World) (hs : s.size ≤ 1000000000) (ht : t.size ≤ 1000000000) :
    Calls Tryd.prog 21 #[.string s, .string t] w fun e w' => e = .returned (.tuple #[.bool (Pp.chks [s.data.toList, t.data.toList] == 0 && Pp.isInB s.data.toList t.data.toList), .int .i64 (Pp.chks [s.data.toList, t.data.toList])]) ∧ Below w.heap.size w w' := by
  cases hz : (Pp.chks [s.data.toList, t.data.toList] == 0) with
  | true =>
    have HZ : Hid (Pp.chks [s.data.toList, t.data.toList] = 0) := (by simpa using hz : Pp.chks [s.data.toList, t.data.toList] = 0)
    clear hz
    go_enter Tryd.func21, Tryd.ntmps21
    go_wp2_with fail
    refine (checkAll2 s t _ _ hs ht).mono ?_
    rintro e w1 ⟨rfl, hb1⟩
    rw [HZ.out]
    go_wp2_with fail
    refine (pwithin_any s t _ hs ht).mono ?_
    rintro e w2 ⟨rfl, rfl⟩
    go_wp2
    go_ret2
    exact ⟨by rw [HZ.out]; rfl, hb1⟩
  | false =>
    go_enter Tryd.func21, Tryd.ntmps21
    go_wp2_with fail
    refine (checkAll2 s t _ _ hs ht).mono ?_
    rintro e w1 ⟨rfl, hb1⟩
    go_wp2
    go_ret2
    exact ⟨rfl, hb1⟩
end Go.Proofs.YtkbcadiiceinaaaDoor
