/- Keys: what word.inKeys and word.Key answer, for every byte and every text. What path.joined answers, for every two texts. -/
import Derived.Test.YtlllcifehellpaaGreatDoorProg
import Derived.WalkKit
import Derived.WalkSpells
import Derived.WalkLawsBesides
import Derived.Handy
import Derived.Test.YtlllcifehellpaaGreatDoorMC
import Derived.Lib.SmallJoins
set_option linter.unusedSimpArgs false
set_option linter.unusedVariables false
namespace Go.Proofs.YtlllcifehellpaaGreatDoor
open Go.RowKit

namespace Pp
theorem retB {a b : Bool} (h : a = b) : Ending.returned (.bool a) = .returned (.bool b) := by rw [h]
def okK (c : UInt8) : Bool := decide (97 ≤ (c.toNat : Int) ∧ (c.toNat : Int) ≤ 122 ∨ 65 ≤ (c.toNat : Int) ∧ (c.toNat : Int) ≤ 90 ∨ 48 ≤ (c.toNat : Int) ∧ (c.toNat : Int) ≤ 57 ∨ (c.toNat : Int) = 45)
def keyB (l : List UInt8) : Bool := decide (1 ≤ l.length) && decide (l.length ≤ 20) && l.all okK
def keyE (l : List UInt8) : Int := if keyB l = true then 0 else 1
theorem keyE_yes {l : List UInt8} (h : keyB l = true) : keyE l = 0 := if_pos h
theorem keyE_no {l : List UInt8} (h : keyB l = false) : keyE l = 1 := if_neg (by rw [h]; decide)
theorem keyB_short {l : List UInt8} (h : l.length < 1) : keyB l = false := by simp [keyB]; omega
theorem keyB_long {l : List UInt8} (h : 20 < l.length) : keyB l = false := by simp [keyB]; omega
theorem keyB_bad {l : List UInt8} {k : Nat} (hk : k < l.length) (h : okK l[k] = false) : keyB l = false := by
  have : l.all okK = false := by
    rw [List.all_eq_false]
    exact ⟨l[k], List.getElem_mem hk, by simp [h]⟩
  simp [keyB, this]
theorem keyB_ok {l : List UInt8} (h1 : ¬ l.length < 1) (h2 : ¬ 20 < l.length) (h : l.all okK = true) : keyB l = true := by
  simp only [keyB, h, Bool.and_true, Bool.and_eq_true, decide_eq_true_eq]; omega
theorem all_take {l : List UInt8} {f : UInt8 → Bool} {k : Nat} (hk : k < l.length) (h : (l.take k).all f = true) (hf : f l[k] = true) : (l.take (k + 1)).all f = true := by
  rw [List.take_succ_eq_append_getElem hk, List.all_append, h]; simp [hf]
theorem okK_yes {c : UInt8} (h : 97 ≤ (c.toNat : Int) ∧ (c.toNat : Int) ≤ 122 ∨ 65 ≤ (c.toNat : Int) ∧ (c.toNat : Int) ≤ 90 ∨ 48 ≤ (c.toNat : Int) ∧ (c.toNat : Int) ≤ 57) : true = okK c := by
  rw [okK, eq_comm, decide_eq_true_eq]; omega
theorem okK_last {c : UInt8} (h : ¬ (97 ≤ (c.toNat : Int) ∧ (c.toNat : Int) ≤ 122 ∨ 65 ≤ (c.toNat : Int) ∧ (c.toNat : Int) ≤ 90 ∨ 48 ≤ (c.toNat : Int) ∧ (c.toNat : Int) ≤ 57)) : ((c.toNat : Int) == 45) = okK c := by
  rw [okK, Bool.eq_iff_iff, beq_iff_eq, decide_eq_true_eq]; omega
end Pp

set_option maxHeartbeats 400000 in
theorem inKeys_any (c : UInt8) (w : World) :
    Calls Tryz.prog 90 #[.int .u8 (c.toNat : Int)] w fun e w' => e = .returned (.bool (Pp.okK c)) ∧ w' = w := by
  go_enter Tryz.func90, Tryz.ntmps90
  go_wp2
  all_goals go_ret
  all_goals first
    | exact ⟨Pp.retB (Pp.okK_yes (by omega)), rfl⟩
    | exact ⟨Pp.retB (Pp.okK_last (by omega)), rfl⟩

set_option maxHeartbeats 800000 in
theorem key_any (s : ByteArray) (w : World) (hs : s.size ≤ maxLen) :
    Calls Tryz.prog 67 #[.string s] w fun e w' => e = .returned (.int .i64 (Pp.keyE s.data.toList)) ∧ w' = w := by
  unfold maxLen at hs
  have hz : s.data.toList.length = s.size := Array.length_toList
  by_cases c1 : (s.size : Int) < 1
  · rw [Pp.keyE_no (Pp.keyB_short (by omega))]
    go_enter Tryz.func67, Tryz.ntmps67
    go_wp2_with fail
    go_ret
    exact ⟨rfl, rfl⟩
  by_cases c2 : 20 < (s.size : Int)
  · rw [Pp.keyE_no (Pp.keyB_long (by omega))]
    go_enter Tryz.func67, Tryz.ntmps67
    go_wp2_with fail
    go_ret
    exact ⟨rfl, rfl⟩
  have HZ : Hid (s.data.toList.length = s.size) := hz
  have HY : Hid (s.data.toList.all Pp.okK = true → Pp.keyE s.data.toList = 0) := fun h => Pp.keyE_yes (Pp.keyB_ok (by omega) (by omega) h)
  clear hz
  go_enter Tryz.func67, Tryz.ntmps67
  go_wp2_with fail
  go_loop [14] (fun i => ∃ k : Nat, k ≤ s.size ∧ i = .int .i64 k ∧ (s.data.toList.take k).all Pp.okK = true) (fun i => s.size - (intOf i).toNat)
  case atStart => exact ⟨0, Nat.zero_le _, rfl, by simp⟩
  case round =>
    obtain ⟨k, hk, rfl, hall⟩ := hrel
    have HA : Hid ((s.data.toList.take k).all Pp.okK = true) := hall
    clear hall
    by_cases hlt : k < s.size
    · cases ho : Pp.okK s[k] with
      | true =>
        have HN : Hid ((s.data.toList.take (k + 1)).all Pp.okK = true) := Pp.all_take (by rw [HZ.out]; exact hlt) HA.out ho
        go_wp2_with (go_at_call 90; refine (inKeys_any _ _).mono ?_; rintro e w' ⟨rfl, rfl⟩)
        go_round
        case rel => exact ⟨k + 1, by omega, by go_num, HN.out⟩
        case measure => simp [intOf]; omega
      | false =>
        have HE : Hid (Pp.keyE s.data.toList = 1) := Pp.keyE_no (Pp.keyB_bad (by rw [HZ.out]; exact hlt) ho)
        go_wp2_with (go_at_call 90; refine (inKeys_any _ _).mono ?_; rintro e w' ⟨rfl, rfl⟩)
        go_ret
        exact ⟨by rw [HE.out]; rfl, rfl⟩
    · have HE2 : Hid (Pp.keyE s.data.toList = 0) := HY.out (by have := HA.out; rwa [List.take_of_length_le (by rw [HZ.out]; omega)] at this)
      go_wp2_with fail
      go_ret
      exact ⟨by rw [HE2.out]; rfl, rfl⟩

set_option maxHeartbeats 800000 in
theorem isKey_any (s : ByteArray) (w : World) (hs : s.size ≤ maxLen) :
    Calls Tryz.prog 13 #[.string s] w fun e w' => e = .returned (.bool (Pp.keyB s.data.toList)) ∧ w' = w := by
  unfold maxLen at hs
  have hz : s.data.toList.length = s.size := Array.length_toList
  have HZ : Hid (s.data.toList.length = s.size) := hz
  clear hz
  go_enter Tryz.func13, Tryz.ntmps13
  go_wp2_with fail
  go_loop [3] (fun i => ∃ k : Nat, k ≤ s.size ∧ i = .int .i64 k ∧ (s.data.toList.take k).all Pp.okK = true) (fun i => s.size - (intOf i).toNat)
  case atStart => exact ⟨0, Nat.zero_le _, rfl, by simp⟩
  case round =>
    obtain ⟨k, hk, rfl, hall⟩ := hrel
    have HA : Hid ((s.data.toList.take k).all Pp.okK = true) := hall
    clear hall
    by_cases hlt : k < s.size
    · cases ho : Pp.okK s[k] with
      | true =>
        have HN : Hid ((s.data.toList.take (k + 1)).all Pp.okK = true) := Pp.all_take (by rw [HZ.out]; exact hlt) HA.out ho
        have HC := of_decide_eq_true ho
        rcases HC with ⟨h1, h2⟩ | ⟨h1, h2⟩ | ⟨h1, h2⟩ | h1
        · go_wp2_with fail
          go_round
          case rel => exact ⟨k + 1, by omega, by go_num, HN.out⟩
          case measure => simp [intOf]; omega
        · have g1 : ¬ 97 ≤ (s[k].toNat : Int) := by omega
          go_wp2_with fail
          go_round
          case rel => exact ⟨k + 1, by omega, by go_num, HN.out⟩
          case measure => simp [intOf]; omega
        · have g1 : ¬ 97 ≤ (s[k].toNat : Int) := by omega
          have g2 : ¬ 65 ≤ (s[k].toNat : Int) := by omega
          go_wp2_with fail
          go_round
          case rel => exact ⟨k + 1, by omega, by go_num, HN.out⟩
          case measure => simp [intOf]; omega
        · have g1 : ¬ 97 ≤ (s[k].toNat : Int) := by omega
          have g2 : ¬ 65 ≤ (s[k].toNat : Int) := by omega
          have g3 : ¬ 48 ≤ (s[k].toNat : Int) := by omega
          go_wp2_with fail
          go_round
          case rel => exact ⟨k + 1, by omega, by go_num, HN.out⟩
          case measure => simp [intOf]; omega
      | false =>
        have HE : Hid (Pp.keyB s.data.toList = false) := Pp.keyB_bad (by rw [HZ.out]; exact hlt) ho
        have HC := of_decide_eq_false ho
        have g4 : ((s[k].toNat : Int) == 45) = false := by simp; omega
        by_cases g1 : 97 ≤ (s[k].toNat : Int)
        · have g2 : ¬ (s[k].toNat : Int) ≤ 122 := by omega
          have g3 : 65 ≤ (s[k].toNat : Int) := by omega
          have g5 : ¬ (s[k].toNat : Int) ≤ 90 := by omega
          have g6 : 48 ≤ (s[k].toNat : Int) := by omega
          have g7 : ¬ (s[k].toNat : Int) ≤ 57 := by omega
          clear HC
          go_wp2_with fail
          go_ret
          exact ⟨by rw [HE.out]; rfl, rfl⟩
        by_cases g3 : 65 ≤ (s[k].toNat : Int)
        · have g5 : ¬ (s[k].toNat : Int) ≤ 90 := by omega
          have g6 : 48 ≤ (s[k].toNat : Int) := by omega
          have g7 : ¬ (s[k].toNat : Int) ≤ 57 := by omega
          clear HC
          go_wp2_with fail
          go_ret
          exact ⟨by rw [HE.out]; rfl, rfl⟩
        by_cases g6 : 48 ≤ (s[k].toNat : Int)
        · have g7 : ¬ (s[k].toNat : Int) ≤ 57 := by omega
          clear HC
          go_wp2_with fail
          go_ret
          exact ⟨by rw [HE.out]; rfl, rfl⟩
        · clear HC
          go_wp2_with fail
          go_ret
          exact ⟨by rw [HE.out]; rfl, rfl⟩
    · have HAL : Hid (s.data.toList.all Pp.okK = true) := (by have := HA.out; rwa [List.take_of_length_le (by rw [HZ.out]; omega)] at this : s.data.toList.all Pp.okK = true)
      by_cases c1 : 1 ≤ (s.size : Int)
      · by_cases c2 : (s.size : Int) ≤ 20
        · have HE2 : Hid (Pp.keyB s.data.toList = true) := Pp.keyB_ok (by rw [HZ.out]; omega) (by rw [HZ.out]; omega) HAL.out
          go_wp2_with fail
          go_ret
          exact ⟨by rw [HE2.out]; rfl, rfl⟩
        · have HE2 : Hid (Pp.keyB s.data.toList = false) := Pp.keyB_long (by rw [HZ.out]; omega)
          go_wp2_with fail
          go_ret
          exact ⟨by rw [HE2.out]; rfl, rfl⟩
      · have HE2 : Hid (Pp.keyB s.data.toList = false) := Pp.keyB_short (by rw [HZ.out]; omega)
        go_wp2_with fail
        go_ret
        exact ⟨by rw [HE2.out]; rfl, rfl⟩
end Go.Proofs.YtlllcifehellpaaGreatDoor
set_option linter.unusedSimpArgs false
set_option linter.unusedVariables false
namespace Go.Proofs.YtlllcifehellpaaGreatDoor
open Go.RowKit

set_option maxHeartbeats 400000 in
theorem joined_any (s t : ByteArray) (w : World) (hs : s.size ≤ 1000000000000000) (ht : t.size ≤ 1000000000000000) :
    Calls Tryz.prog 116 #[.string s, .string t] w fun e w' => e = .returned (.string ⟨(Pp.jn s.data.toList t.data.toList).toArray⟩) ∧ w' = w := by
  cases hc : s.toList.isEmpty with
  | true =>
    have HP : Hid (⟨(Pp.jn s.data.toList t.data.toList).toArray⟩ = t) := (by rw [Lib.toList_data, List.isEmpty_iff] at hc; rw [Pp.jn, if_pos hc] : ⟨(Pp.jn s.data.toList t.data.toList).toArray⟩ = t)
    go_enter Tryz.func116, Tryz.ntmps116
    go_wp2
    go_ret
    exact ⟨by rw [HP.out]; rfl, rfl⟩
  | false =>
    have HP : Hid (s ++ ⟨#[47]⟩ ++ t = ⟨(Pp.jn s.data.toList t.data.toList).toArray⟩) := (Pp.bytes_eq (by
      rw [Lib.toList_data] at hc
      rw [Joins.data_append, Joins.data_append, Pp.jn, if_neg (by intro h; rw [h] at hc; cases hc)]; simp) : s ++ ⟨#[47]⟩ ++ t = ⟨(Pp.jn s.data.toList t.data.toList).toArray⟩)
    go_enter Tryz.func116, Tryz.ntmps116
    go_wp2
    go_ret
    exact ⟨by rw [← HP.out]; rfl, rfl⟩

end Go.Proofs.YtlllcifehellpaaGreatDoor
