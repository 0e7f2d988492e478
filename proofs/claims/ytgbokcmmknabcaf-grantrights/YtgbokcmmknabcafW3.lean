/- What path.checkAll, checked and split answer, for every text. -/
import Derived.Test.YtgbokcmmknabcafW2
import Derived.Test.YtgbokcmmknabcafPure2
set_option linter.unusedSimpArgs false
set_option linter.unusedVariables false
namespace Go.Proofs.Ytgbokcmmknabcaf
open Go.RowKit

set_option maxHeartbeats 400000 in
theorem checkAll_any (ls : List ByteArray) (b cap : Nat) (w : World) (hb : b < w.heap.size) (hn : ls.length ≤ 1000) (hs : ∀ i (h : i < ls.length), (ls[i]).size ≤ 1000000000000000)
    (hc : ∀ i (h : i < ls.length), w.cell? ⟨b, i, none⟩ = some (.string ls[i])) :
    Calls Try.prog 83 #[.slice (some ⟨b, 0, none⟩) ls.length cap] w fun e w' => e = .returned (.int .i64 (Pp.chks (ls.map fun s => s.data.toList))) ∧ Below w.heap.size w w' := by
  have HS : Hid (∀ i (h : i < ls.length), (ls[i]).size ≤ 1000000000000000) := hs
  have HC : Hid (∀ i (h : i < ls.length), w.cell? ⟨b, i, none⟩ = some (.string ls[i])) := hc
  clear hs hc
  go_enter Try.func83, Try.ntmps83
  go_wp2_with fail
  go_loopw [8] (fun i wr => ∃ k : Nat, k ≤ ls.length ∧ i = .int .i64 k ∧ Pp.chks (ls.map fun s => s.data.toList) = Pp.chks ((ls.drop k).map fun s => s.data.toList) ∧ Below w.heap.size w wr) (fun i _ => ls.length - (intOf i).toNat)
  case atStart => exact ⟨0, Nat.zero_le _, rfl, rfl, Below.refl _ _⟩
  case round =>
    obtain ⟨k, hk, rfl, heq, hbel⟩ := hrel
    have HE : Hid (Pp.chks (ls.map fun s => s.data.toList) = Pp.chks ((ls.drop k).map fun s => s.data.toList)) := heq
    clear heq
    by_cases hlt : k < ls.length
    · have hcell : wr.cell? ⟨b, k, none⟩ = some (.string ls[k]) := (hbel.cell (p := ⟨b, k, none⟩) hb).trans (HC.out k hlt)
      have HD : Hid (ls.drop k = ls[k] :: ls.drop (k + 1)) := List.drop_eq_getElem_cons hlt
      cases hz : (Pp.chk (ls[k]).data.toList == 0) with
      | true =>
        have HZ : Hid (Pp.chk (ls[k]).data.toList = 0) := (by simpa using hz : Pp.chk (ls[k]).data.toList = 0)
        clear hz
        go_wp2_with fail
        refine (check_any _ _ (HS.out k hlt)).mono ?_
        rintro e w1 ⟨rfl, hb1⟩
        rw [HZ.out]
        go_wp2_with fail
        go_roundw
        case rel => exact ⟨k + 1, by omega, by simp, by rw [HE.out, HD.out, List.map_cons, Pp.chks, if_pos HZ.out], hbel.trans (hb1.mono hbel.size)⟩
        case measure => simp [intOf]; omega
      | false =>
        have HZ : Hid (¬ Pp.chk (ls[k]).data.toList = 0) := (by simpa using hz : ¬ Pp.chk (ls[k]).data.toList = 0)
        go_wp2_with fail
        refine (check_any _ _ (HS.out k hlt)).mono ?_
        rintro e w1 ⟨rfl, hb1⟩
        go_wp2_with fail
        go_ret
        exact ⟨Pp.ret_int (by rw [HE.out, HD.out, List.map_cons, Pp.chks, if_neg HZ.out]), hbel.trans (hb1.mono hbel.size)⟩
    · go_wp2_with fail
      go_ret
      exact ⟨Pp.ret_int (by rw [HE.out, List.drop_of_length_le (by omega)]; rfl), hbel⟩

set_option maxHeartbeats 400000 in
theorem checked_ok (s : ByteArray) (w : World) (hs : s.size ≤ 1000000000000000) (h : Pp.chk s.data.toList = 0) :
    Calls Try.prog 85 #[.string s] w fun e w' => e = .returned (.tuple #[.string s, .int .i64 0]) ∧ Below w.heap.size w w' := by
  have HZ : Hid (Pp.chk s.data.toList = 0) := h
  clear h
  go_enter Try.func85, Try.ntmps85
  go_wp2_with fail
  refine (check_any _ _ hs).mono ?_
  rintro e w1 ⟨rfl, hb1⟩
  rw [HZ.out]
  go_wp2
  go_ret2
  exact ⟨rfl, hb1⟩
set_option maxHeartbeats 400000 in
theorem checked_no (s : ByteArray) (w : World) (hs : s.size ≤ 1000000000000000) (h : ¬ Pp.chk s.data.toList = 0) :
    Calls Try.prog 85 #[.string s] w fun e w' => e = .returned (.tuple #[.string ⟨#[]⟩, .int .i64 (Pp.chk s.data.toList)]) ∧ Below w.heap.size w w' := by
  have hz : (Pp.chk s.data.toList == 0) = false := by simpa using h
  clear h
  go_enter Try.func85, Try.ntmps85
  go_wp2_with fail
  refine (check_any _ _ hs).mono ?_
  rintro e w1 ⟨rfl, hb1⟩
  go_wp2
  go_ret2
  exact ⟨rfl, hb1⟩

theorem lastIdx_any (s : ByteArray) (c : UInt8) (w : World) (hs : s.size ≤ 1000000000000000) :
    Calls Try.prog 113 #[.string s, .string ⟨#[c]⟩] w fun e w' => e = .returned (.int .i64 (Lib.lastIndexByte s (c.toNat : Int))) ∧ w' = w :=
  Try.strings_LastIndex_one s ⟨#[c]⟩ rfl (by omega) w

set_option maxHeartbeats 400000 in
theorem split_any (s : ByteArray) (w : World) (hs : s.size ≤ 1000000000000000) :
    Calls Try.prog 99 #[.string s] w fun e w' => e = .returned (.tuple #[.string ⟨(Pp.par s.data.toList).toArray⟩, .string ⟨(Pp.lst s.data.toList).toArray⟩]) ∧ Below w.heap.size w w' := by
  rcases Pp.last_cases s 47 with ⟨e, hn⟩ | ⟨a, b, e, hn, hl⟩
  · have HE : Hid (Lib.lastIndexByte s ((47 : UInt8).toNat : Int) = -1) := e
    have HP : Hid (s.extract 0 0 = ⟨(Pp.par s.data.toList).toArray⟩) := (Pp.bytes_eq (by rw [Lib.extract_data, Pp.par_none hn]; simp) : s.extract 0 0 = ⟨(Pp.par s.data.toList).toArray⟩)
    have HL : Hid (⟨(Pp.lst s.data.toList).toArray⟩ = s) := (by rw [Pp.lst_none hn] : ⟨(Pp.lst s.data.toList).toArray⟩ = s)
    clear e hn
    go_enter Try.func99, Try.ntmps99
    go_wp2_with fail
    refine (lastIdx_any s 47 _ hs).mono ?_
    rintro e w' ⟨rfl, rfl⟩
    rw [HE.out]
    go_wp2_with fail
    go_region
    go_wp2
    go_ret2
    exact ⟨by rw [show (max (-1 : Int) 0).toNat = 0 from rfl, HP.out, HL.out]; rfl, (Below.refl _ _).drew⟩
  · have HE : Hid (Lib.lastIndexByte s ((47 : UInt8).toNat : Int) = a.length) := e
    have hz : s.size = a.length + b.length + 1 := by rw [Lib.size_eq, hl]; simp; try omega
    have l1 : (a.length : Int) ≤ s.size := by omega
    have l2 : (a.length : Int) + 1 ≤ s.size := by omega
    have HP : Hid (s.extract 0 a.length = ⟨(Pp.par s.data.toList).toArray⟩) := (Pp.bytes_eq (by rw [Lib.extract_data, hl, Pp.par_cut a hn]; simp) : s.extract 0 a.length = ⟨(Pp.par s.data.toList).toArray⟩)
    have HL : Hid (s.extract (a.length + 1) s.size = ⟨(Pp.lst s.data.toList).toArray⟩) := (Pp.bytes_eq (by rw [Lib.extract_data, hl, Pp.lst_cut a hn, hz]; simp) : s.extract (a.length + 1) s.size = ⟨(Pp.lst s.data.toList).toArray⟩)
    clear e hn hl hz
    go_enter Try.func99, Try.ntmps99
    go_wp2_with fail
    refine (lastIdx_any s 47 _ hs).mono ?_
    rintro e w' ⟨rfl, rfl⟩
    rw [HE.out]
    go_wp2_with fail
    go_region
    go_wp2
    go_ret2
    exact ⟨by rw [HP.out, HL.out]; rfl, (Below.refl _ _).drew⟩

end Go.Proofs.Ytgbokcmmknabcaf
