/- What path.checkAll, checked, joined, split, parts and shortened answer, for every text. -/
import Derived.Test.YtkbcadiiceinaabDoorW2
import Derived.Test.YtkbcadiiceinaabDoorPure2
set_option linter.unusedSimpArgs false
set_option linter.unusedVariables false
namespace Go.Proofs.YtkbcadiiceinaabDoor
open Go.RowKit

set_option maxHeartbeats 400000 in
theorem checkAll_any (ls : List ByteArray) (b cap : Nat) (w : World) (hb : b < w.heap.size) (hn : ls.length ≤ 1000) (hs : ∀ i (h : i < ls.length), (ls[i]).size ≤ 1000000000000000)
    (hc : ∀ i (h : i < ls.length), w.cell? ⟨b, i, none⟩ = some (.string ls[i])) :
    Calls Tryd.prog 13 #[.slice (some ⟨b, 0, none⟩) ls.length cap] w fun e w' => e = .returned (.int .i64 (Pp.chks (ls.map fun s => s.data.toList))) ∧ Below w.heap.size w w' := by
  have HS : Hid (∀ i (h : i < ls.length), (ls[i]).size ≤ 1000000000000000) := hs
  have HC : Hid (∀ i (h : i < ls.length), w.cell? ⟨b, i, none⟩ = some (.string ls[i])) := hc
  clear hs hc
  go_enter Tryd.func13, Tryd.ntmps13
  go_wp2_with fail
  go_loopw [8] (fun i wr => ∃ k : Nat, k ≤ ls.length ∧ i = .int .i64 k ∧ Pp.chks (ls.map fun s => s.data.toList) = Pp.chks ((ls.drop k).map fun s => s.data.toList) ∧ Below w.heap.size w wr) (fun i _ => ls.length - (intOf i).toNat)
  case atStart => exact ⟨0, Nat.zero_le _, rfl, rfl, Below.refl _ _⟩
  case round =>
    obtain ⟨k, hk, rfl, heq, hbel⟩ := hrel
    have HE : Hid (Pp.chks (ls.map fun s => s.data.toList) = Pp.chks ((ls.drop k).map fun s => s.data.toList)) := heq
    clear heq
    by_cases hlt : k < ls.length
    · have hcell : wr.cell? ⟨b, k, none⟩ = some (.string ls[k]) := (hbel.cell (p := ⟨b, k, none⟩) hb).trans (HC.out k hlt)
      have HD : Hid (ls.drop k = ls[k] :: ls.drop (k + 1)) := List.drop_eq_getElem_cons hlt
      cases hz : (Pp.chk (ls[k]).data.toList == 0) with
      | true =>
        have HZ : Hid (Pp.chk (ls[k]).data.toList = 0) := (by simpa using hz : Pp.chk (ls[k]).data.toList = 0)
        clear hz
        go_wp2_with fail
        refine (check_any _ _ (HS.out k hlt)).mono ?_
        rintro e w1 ⟨rfl, hb1⟩
        rw [HZ.out]
        go_wp2_with fail
        go_roundw
        case rel => exact ⟨k + 1, by omega, by simp, by rw [HE.out, HD.out, List.map_cons, Pp.chks, if_pos HZ.out], hbel.trans (hb1.mono hbel.size)⟩
        case measure => simp [intOf]; omega
      | false =>
        have HZ : Hid (¬ Pp.chk (ls[k]).data.toList = 0) := (by simpa using hz : ¬ Pp.chk (ls[k]).data.toList = 0)
        go_wp2_with fail
        refine (check_any _ _ (HS.out k hlt)).mono ?_
        rintro e w1 ⟨rfl, hb1⟩
        go_wp2_with fail
        go_ret
        exact ⟨Pp.ret_int (by rw [HE.out, HD.out, List.map_cons, Pp.chks, if_neg HZ.out]), hbel.trans (hb1.mono hbel.size)⟩
    · go_wp2_with fail
      go_ret
      exact ⟨Pp.ret_int (by rw [HE.out, List.drop_of_length_le (by omega)]; rfl), hbel⟩

set_option maxHeartbeats 400000 in
theorem checked_ok (s : ByteArray) (w : World) (hs : s.size ≤ 1000000000000000) (h : Pp.chk s.data.toList = 0) :
    Calls Tryd.prog 16 #[.string s] w fun e w' => e = .returned (.tuple #[.string s, .int .i64 0]) ∧ Below w.heap.size w w' := by
  have HZ : Hid (Pp.chk s.data.toList = 0) := h
  clear h
  go_enter Tryd.func16, Tryd.ntmps16
  go_wp2_with fail
  refine (check_any _ _ hs).mono ?_
  rintro e w1 ⟨rfl, hb1⟩
  rw [HZ.out]
  go_wp2
  go_ret2
  exact ⟨rfl, hb1⟩
set_option maxHeartbeats 400000 in
theorem checked_no (s : ByteArray) (w : World) (hs : s.size ≤ 1000000000000000) (h : ¬ Pp.chk s.data.toList = 0) :
    Calls Tryd.prog 16 #[.string s] w fun e w' => e = .returned (.tuple #[.string ⟨#[]⟩, .int .i64 (Pp.chk s.data.toList)]) ∧ Below w.heap.size w w' := by
  have hz : (Pp.chk s.data.toList == 0) = false := by simpa using h
  clear h
  go_enter Tryd.func16, Tryd.ntmps16
  go_wp2_with fail
  refine (check_any _ _ hs).mono ?_
  rintro e w1 ⟨rfl, hb1⟩
  go_wp2
  go_ret2
  exact ⟨rfl, hb1⟩

theorem lastIdx_any (s : ByteArray) (c : UInt8) (w : World) (hs : s.size ≤ 1000000000000000) :
    Calls Tryd.prog 23 #[.string s, .string ⟨#[c]⟩] w fun e w' => e = .returned (.int .i64 (Lib.lastIndexByte s (c.toNat : Int))) ∧ w' = w :=
  Tryd.strings_LastIndex_one s ⟨#[c]⟩ rfl (by omega) w

set_option maxHeartbeats 400000 in
theorem split_any (s : ByteArray) (w : World) (hs : s.size ≤ 1000000000000000) :
    Calls Tryd.prog 14 #[.string s] w fun e w' => e = .returned (.tuple #[.string ⟨(Pp.par s.data.toList).toArray⟩, .string ⟨(Pp.lst s.data.toList).toArray⟩]) ∧ Below w.heap.size w w' := by
  rcases Pp.last_cases s 47 with ⟨e, hn⟩ | ⟨a, b, e, hn, hl⟩
  · have HE : Hid (Lib.lastIndexByte s ((47 : UInt8).toNat : Int) = -1) := e
    have HP : Hid (s.extract 0 0 = ⟨(Pp.par s.data.toList).toArray⟩) := (Pp.bytes_eq (by rw [Lib.extract_data, Pp.par_none hn]; simp) : s.extract 0 0 = ⟨(Pp.par s.data.toList).toArray⟩)
    have HL : Hid (⟨(Pp.lst s.data.toList).toArray⟩ = s) := (by rw [Pp.lst_none hn] : ⟨(Pp.lst s.data.toList).toArray⟩ = s)
    clear e hn
    go_enter Tryd.func14, Tryd.ntmps14
    go_wp2_with fail
    refine (lastIdx_any s 47 _ hs).mono ?_
    rintro e w' ⟨rfl, rfl⟩
    rw [HE.out]
    go_wp2_with fail
    go_region
    go_wp2
    go_ret2
    exact ⟨by rw [show (max (-1 : Int) 0).toNat = 0 from rfl, HP.out, HL.out]; rfl, (Below.refl _ _).drew⟩
  · have HE : Hid (Lib.lastIndexByte s ((47 : UInt8).toNat : Int) = a.length) := e
    have hz : s.size = a.length + b.length + 1 := by rw [Lib.size_eq, hl]; simp; try omega
    have l1 : (a.length : Int) ≤ s.size := by omega
    have l2 : (a.length : Int) + 1 ≤ s.size := by omega
    have HP : Hid (s.extract 0 a.length = ⟨(Pp.par s.data.toList).toArray⟩) := (Pp.bytes_eq (by rw [Lib.extract_data, hl, Pp.par_cut a hn]; simp) : s.extract 0 a.length = ⟨(Pp.par s.data.toList).toArray⟩)
    have HL : Hid (s.extract (a.length + 1) s.size = ⟨(Pp.lst s.data.toList).toArray⟩) := (Pp.bytes_eq (by rw [Lib.extract_data, hl, Pp.lst_cut a hn, hz]; simp) : s.extract (a.length + 1) s.size = ⟨(Pp.lst s.data.toList).toArray⟩)
    clear e hn hl hz
    go_enter Tryd.func14, Tryd.ntmps14
    go_wp2_with fail
    refine (lastIdx_any s 47 _ hs).mono ?_
    rintro e w' ⟨rfl, rfl⟩
    rw [HE.out]
    go_wp2_with fail
    go_region
    go_wp2
    go_ret2
    exact ⟨by rw [HP.out, HL.out]; rfl, (Below.refl _ _).drew⟩

set_option maxHeartbeats 400000 in
theorem parts_any (s : ByteArray) (w : World) (hs : s.size ≤ 1000000000000000) :
    Calls Tryd.prog 19 #[.string s] w fun e w' => e = .returned (.tuple #[.string ⟨(Pp.stem s.data.toList).toArray⟩, .string ⟨(Pp.ending s.data.toList).toArray⟩]) ∧ Below w.heap.size w w' := by
  have go1 : ∀ i : Int, Lib.lastIndexByte s ((46 : UInt8).toNat : Int) = i → i ≤ 0 → Pp.stem s.data.toList = s.data.toList → Pp.ending s.data.toList = [] →
      Calls Tryd.prog 19 #[.string s] w fun e w' => e = .returned (.tuple #[.string ⟨(Pp.stem s.data.toList).toArray⟩, .string ⟨(Pp.ending s.data.toList).toArray⟩]) ∧ Below w.heap.size w w' := by
    intro i e hi h1 h2
    have HE : Hid (Lib.lastIndexByte s ((46 : UInt8).toNat : Int) = i) := e
    have HP : Hid (⟨(Pp.stem s.data.toList).toArray⟩ = s) := (by rw [h1] : ⟨(Pp.stem s.data.toList).toArray⟩ = s)
    have HL : Hid (Pp.ending s.data.toList = []) := h2
    clear e h1 h2
    go_enter Tryd.func19, Tryd.ntmps19
    go_wp2_with fail
    refine (lastIdx_any s 46 _ hs).mono ?_
    rintro e w' ⟨rfl, rfl⟩
    rw [HE.out]
    go_wp2
    go_ret2
    exact ⟨by rw [HP.out, HL.out]; rfl, Below.refl _ _⟩
  rcases Pp.last_cases s 46 with ⟨e, hn⟩ | ⟨a, b, e, hn, hl⟩
  · exact go1 _ e (by omega) (Pp.parts_none hn).1 (Pp.parts_none hn).2
  · cases a with
    | nil => exact go1 _ e (by simp) (by rw [hl]; exact (Pp.parts_first hn).1) (by rw [hl]; exact (Pp.parts_first hn).2)
    | cons a0 r =>
      have ha : 1 ≤ (a0 :: r).length := by simp
      generalize a0 :: r = a at *
      have HE : Hid (Lib.lastIndexByte s ((46 : UInt8).toNat : Int) = a.length) := e
      have hz : s.size = a.length + b.length + 1 := by rw [Lib.size_eq, hl]; simp; try omega
      have l1 : (a.length : Int) ≤ s.size := by omega
      have l3 : 0 < (a.length : Int) := by omega
      have l4 : ¬ a = [] := by intro h; rw [h] at ha; simp at ha
      have HP : Hid (s.extract 0 a.length = ⟨(Pp.stem s.data.toList).toArray⟩) := (Pp.bytes_eq (by rw [Lib.extract_data, hl, (Pp.parts_cut ha hn).1]; simp) : s.extract 0 a.length = ⟨(Pp.stem s.data.toList).toArray⟩)
      have HL : Hid (s.extract a.length s.size = ⟨(Pp.ending s.data.toList).toArray⟩) := (Pp.bytes_eq (by rw [Lib.extract_data, hl, (Pp.parts_cut ha hn).2, hz, List.drop_left]; exact List.take_of_length_le (by simp; omega)) : s.extract a.length s.size = ⟨(Pp.ending s.data.toList).toArray⟩)
      clear e hn hl hz go1
      go_enter Tryd.func19, Tryd.ntmps19
      go_wp2_with fail
      refine (lastIdx_any s 46 _ hs).mono ?_
      rintro e w' ⟨rfl, rfl⟩
      rw [HE.out]
      go_wp2
      go_region
      go_wp2
      go_ret2
      exact ⟨by rw [HP.out, HL.out]; rfl, (Below.refl _ _).drew⟩

set_option maxHeartbeats 400000 in
theorem shortened_any (s : ByteArray) (room : Int) (w : World) (hs : s.size ≤ 1000000000000000) (h1 : -1000000000000000 ≤ room) (h2 : room ≤ 1000000000000000) :
    Calls Tryd.prog 21 #[.string s, .int .i64 room] w fun e w' => e = .returned (.string ⟨(Pp.short s.data.toList room).toArray⟩) ∧ Below w.heap.size w w' := by
  by_cases hr : (s.size : Int) ≤ room
  · have HP : Hid (⟨(Pp.short s.data.toList room).toArray⟩ = s) := (by rw [Pp.short, if_pos (by rw [← Lib.size_eq]; exact hr)] : ⟨(Pp.short s.data.toList room).toArray⟩ = s)
    go_enter Tryd.func21, Tryd.ntmps21
    go_wp2
    go_ret
    exact ⟨by rw [HP.out]; rfl, Below.refl _ _⟩
  · obtain ⟨m, hm⟩ : ∃ m : Int, m = max room 0 := ⟨_, rfl⟩
    have HP : Hid (Lib.trimRightB (s.extract 0 (max room 0).toNat).data.toList 32 = Pp.short s.data.toList room) :=
      (by rw [Pp.short, if_neg (by rw [← Lib.size_eq]; exact hr), Lib.extract_data]; simp [show (max room 0).toNat = room.toNat by omega] : Lib.trimRightB (s.extract 0 (max room 0).toNat).data.toList 32 = Pp.short s.data.toList room)
    have l1 : 0 ≤ max room 0 := by omega
    have l2 : max room 0 ≤ s.size := by omega
    go_enter Tryd.func21, Tryd.ntmps21
    go_wp2_with fail
    refine (Tryd.strings_TrimRight_one _ 32 (by decide) _ (by rw [Lib.size_eq, Lib.extract_data]; simp; omega)).mono ?_
    rintro e w' ⟨rfl, rfl⟩
    rw [HP.out]
    go_wp2
    go_ret
    exact ⟨rfl, Below.refl _ _⟩
end Go.Proofs.YtkbcadiiceinaabDoor
