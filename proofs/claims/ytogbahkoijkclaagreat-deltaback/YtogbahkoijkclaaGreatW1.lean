/- What path.inNames and path.isName answer, for every byte and every text. -/
import Derived.Test.YtogbahkoijkclaaGreatPure
import Derived.Test.YtogbahkoijkclaaGreatShelf
import Derived.WalkKit
import Derived.WalkSpells
import Derived.WalkLawsBesides
import Derived.Handy
set_option linter.unusedSimpArgs false
set_option linter.unusedVariables false
namespace Go.Proofs.YtogbahkoijkclaaGreat
open Go.RowKit

set_option maxHeartbeats 400000 in
theorem inNames_any (c : UInt8) (w : World) :
    Calls Tryz.prog 51 #[.int .u8 (c.toNat : Int)] w fun e w' => e = .returned (.bool (Pp.okB c)) ∧ w' = w := by
  go_enter Tryz.func51, Tryz.ntmps51
  go_wp2_with (go_at_call 63; refine (Tryz.strings_IndexByte _ _ _).mono ?_; rintro e w' ⟨rfl, rfl⟩)
  all_goals go_ret
  all_goals first
    | exact ⟨Pp.ret_bool (Pp.okB_l c (by omega)), rfl⟩
    | exact ⟨Pp.ret_bool (Pp.okB_o c (by omega) (by omega) (by omega)), rfl⟩

set_option maxHeartbeats 800000 in
theorem isName_any (s : ByteArray) (w : World) (hs : s.size ≤ maxLen) :
    Calls Tryz.prog 35 #[.string s] w fun e w' => e = .returned (.bool (Pp.nameB s.data.toList)) ∧ w' = w := by
  unfold maxLen at hs
  by_cases c1 : (s.size : Int) < 1
  · go_enter Tryz.func35, Tryz.ntmps35
    go_wp2_with fail
    go_ret
    exact ⟨Pp.ret_bool (Pp.nameB_no s (Or.inl (by omega))), rfl⟩
  by_cases c2 : 20 < (s.size : Int)
  · go_enter Tryz.func35, Tryz.ntmps35
    go_wp2_with fail
    go_ret
    exact ⟨Pp.ret_bool (Pp.nameB_no s (Or.inr (Or.inl (by omega)))), rfl⟩
  cases c3 : (s.toList == [46]) with
  | true =>
    have HN : Hid (s.toList = [46]) := (by simpa using c3 : s.toList = [46])
    go_enter Tryz.func35, Tryz.ntmps35
    go_wp2_with fail
    go_ret
    exact ⟨Pp.ret_bool (Pp.nameB_no s (Or.inr (Or.inr (Or.inl HN.out)))), rfl⟩
  | false =>
  cases c4 : (s.toList == [46, 46]) with
  | true =>
    have HN : Hid (s.toList = [46, 46]) := (by simpa using c4 : s.toList = [46, 46])
    go_enter Tryz.func35, Tryz.ntmps35
    go_wp2_with fail
    go_ret
    exact ⟨Pp.ret_bool (Pp.nameB_no s (Or.inr (Or.inr (Or.inr HN.out)))), rfl⟩
  | false =>
  have h0 : 0 < s.size := by omega
  have h6 : s.size - 1 < s.size := by omega
  cases c5 : ((s[0].toNat : Int) == 32) with
  | true =>
    have HN : Hid ((s[0].toNat : Int) = 32) := (by simpa using c5 : (s[0].toNat : Int) = 32)
    go_enter Tryz.func35, Tryz.ntmps35
    go_wp2_with fail
    go_ret
    exact ⟨Pp.ret_bool (Pp.nameB_head s h0 HN.out), rfl⟩
  | false =>
  cases c6 : ((s[s.size - 1].toNat : Int) == 32) with
  | true =>
    have HN : Hid ((s[s.size - 1].toNat : Int) = 32) := (by simpa using c6 : (s[s.size - 1].toNat : Int) = 32)
    go_enter Tryz.func35, Tryz.ntmps35
    go_wp2_with fail
    go_ret
    exact ⟨Pp.ret_bool (Pp.nameB_last s h6 HN.out), rfl⟩
  | false =>
  have HY : Hid (s.data.toList.all Pp.okB = true → true = Pp.nameB s.data.toList) := fun h8 =>
    Pp.nameB_yes s (by omega) (by omega) (by simpa using c3) (by simpa using c4) h0 (by simpa using c5) h6 (by simpa using c6) h8
  go_enter Tryz.func35, Tryz.ntmps35
  go_wp2_with fail
  go_loop [33] (fun i => ∃ k : Nat, k ≤ s.size ∧ i = .int .i64 k ∧ (s.data.toList.take k).all Pp.okB = true) (fun i => s.size - (intOf i).toNat)
  case atStart => exact ⟨0, Nat.zero_le _, rfl, by simp⟩
  case round =>
    obtain ⟨k, hk, rfl, hall⟩ := hrel
    have HA : Hid ((s.data.toList.take k).all Pp.okB = true) := hall
    clear hall
    by_cases hlt : k < s.size
    · cases hok : Pp.okB s[k] with
      | true =>
        go_wp2_with (go_at_call 51; refine (inNames_any _ _).mono ?_; rintro e w' ⟨rfl, rfl⟩)
        go_round
        case rel => exact ⟨k + 1, by omega, by go_num, Pp.all_snoc s k hlt HA.out hok⟩
        case measure => simp [intOf]; omega
      | false =>
        go_wp2_with (go_at_call 51; refine (inNames_any _ _).mono ?_; rintro e w' ⟨rfl, rfl⟩)
        go_ret
        exact ⟨Pp.ret_bool (Pp.nameB_bad s k hlt hok), rfl⟩
    · go_wp2_with fail
      go_ret
      exact ⟨Pp.ret_bool (HY.out (by have := HA.out; rwa [List.take_of_length_le (by simp; omega)] at this)), rfl⟩
end Go.Proofs.YtogbahkoijkclaaGreat
