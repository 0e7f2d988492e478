/- What the document's own IsName answers, for every text. -/
import Derived.Test.YtchlgpeiombmdaaGreatMA
import Derived.Test.YtchlgpeiombmdaaGreatProg
import Derived.WalkKit
import Derived.WalkSpells
import Derived.WalkLawsBesides
import Derived.Handy
set_option linter.unusedSimpArgs false
set_option linter.unusedVariables false
namespace Go.Proofs.YtchlgpeiombmdaaGreat
open Go.RowKit

namespace Pp
theorem cls (c : UInt8) : (97 ≤ (c.toNat : Int) ∧ (c.toNat : Int) ≤ 122) ∨ (65 ≤ (c.toNat : Int) ∧ (c.toNat : Int) ≤ 90) ∨ (48 ≤ (c.toNat : Int) ∧ (c.toNat : Int) ≤ 57) ∨
    (c.toNat : Int) = 45 ∨ (c.toNat : Int) = 95 ∨ (c.toNat : Int) = 46 ∨ (c.toNat : Int) = 40 ∨ (c.toNat : Int) = 41 ∨ (c.toNat : Int) = 32 ∨ okB c = false := by
 cases h : okB c with
 | false => simp
 | true => have := (okB_iff c).1 h; omega
theorem not_ok (c : UInt8) (h : okB c = false) : (c.toNat : Int) < 32 ∨ (32 < (c.toNat : Int) ∧ (c.toNat : Int) < 40) ∨ (41 < (c.toNat : Int) ∧ (c.toNat : Int) < 45) ∨ (46 < (c.toNat : Int) ∧ (c.toNat : Int) < 48) ∨
    (57 < (c.toNat : Int) ∧ (c.toNat : Int) < 65) ∨ (90 < (c.toNat : Int) ∧ (c.toNat : Int) < 95) ∨ (95 < (c.toNat : Int) ∧ (c.toNat : Int) < 97) ∨ 122 < (c.toNat : Int) := by
 have h1 : ¬ (okB c = true) := by simp [h]
 rw [okB_iff] at h1
 omega
def goodTo (s : ByteArray) (k : Nat) : Prop := (s.data.toList.take k).all okB = true ∧ ∀ j (h : j < s.size), j < k → (j = 0 ∨ j = s.size - 1) → (s[j].toNat : Int) ≠ 32
theorem good_zero (s : ByteArray) : goodTo s 0 := ⟨by simp, fun j h h1 => absurd h1 (Nat.not_lt_zero _)⟩
theorem good_step (s : ByteArray) (k : Nat) (hk : k < s.size) (h : goodTo s k) (h1 : okB s[k] = true) (h2 : (k = 0 ∨ k = s.size - 1) → (s[k].toNat : Int) ≠ 32) : goodTo s (k + 1) := by
 refine ⟨all_snoc s k hk h.1 h1, fun j hj hj2 hj3 => ?_⟩
 by_cases e : j = k
 · subst e; exact h2 hj3
 · exact h.2 j hj (by omega) hj3
theorem good_end (s : ByteArray) (h : goodTo s s.size) (h1 : 1 ≤ s.size) (h2 : s.size ≤ 20) (h3 : s.toList ≠ [46]) (h4 : s.toList ≠ [46, 46]) : true = nameB s.data.toList :=
 nameB_yes s h1 h2 h3 h4 (by omega) (h.2 0 (by omega) (by omega) (Or.inl rfl)) (by omega) (h.2 (s.size - 1) (by omega) (by omega) (Or.inr rfl))
  (by have := h.1; rwa [List.take_of_length_le (by rw [← Lib.size_eq]; exact Nat.le_refl _)] at this)
theorem blank_ok (c : UInt8) (h : (c.toNat : Int) = 32) : okB c = true := (okB_iff c).2 (by omega)
end Pp

set_option maxRecDepth 100000 in
set_option maxHeartbeats 2000000 in
theorem rIsName_any (s : ByteArray) (w : World) (hs : s.size ≤ 150000000000000) :
    Calls Tryz.prog 17 #[.string s] w fun e w' => e = .returned (.bool (Pp.nameB s.data.toList)) ∧ w' = w := by
 go_enter Tryz.func17, Tryz.ntmps17
 go_wp2_with fail
 go_loop [3] (fun i => ∃ k : Nat, k ≤ s.size ∧ i = .int .i64 k ∧ Hid (Pp.goodTo s k)) (fun i => s.size - (intOf i).toNat)
 case atStart => exact ⟨0, Nat.zero_le _, rfl, Pp.good_zero s⟩
 case round =>
  obtain ⟨k, hk, rfl, HG⟩ := hrel
  by_cases hlt : k < s.size
  · rcases Pp.cls s[k] with ⟨h1, h2⟩ | ⟨h1, h2⟩ | ⟨h1, h2⟩ | h | h | h | h | h | h | h
    iterate 3
     · have HK := hid (show Pp.okB s[k] = true from (Pp.okB_iff _).2 (by omega))
       have HB := hid (show (k = 0 ∨ k = s.size - 1) → (s[k].toNat : Int) ≠ 32 from fun _ => by omega)
       go_wp2_with fail
       go_round
       case rel => exact ⟨k + 1, by omega, by go_num, Pp.good_step s k hlt HG.out HK.out HB.out⟩
       case measure => simp [intOf]; omega
    iterate 5
     · have HK := hid (show Pp.okB s[k] = true from (Pp.okB_iff _).2 (by omega))
       have HB := hid (show (k = 0 ∨ k = s.size - 1) → (s[k].toNat : Int) ≠ 32 from fun _ => by omega)
       go_wp2_with fail
       go_round
       case rel => exact ⟨k + 1, by omega, by go_num, Pp.good_step s k hlt HG.out HK.out HB.out⟩
       case measure => simp [intOf]; omega
    · have HK := hid (show Pp.okB s[k] = true from Pp.blank_ok _ h)
      by_cases hk0 : k = 0
      · clear HK
        subst hk0
        have HF : Hid (false = Pp.nameB s.data.toList) := Pp.nameB_head s hlt h
        go_wp2_with fail
        go_ret
        exact ⟨Pp.ret_bool HF.out, rfl⟩
      by_cases hk1 : k = s.size - 1
      · have HF : Hid (false = Pp.nameB s.data.toList) := Pp.nameB_last s (by omega) (by subst hk1; exact h)
        have hk2 : ((k : Int) == (s.size : Int) - 1) = true := by rw [beq_iff_eq]; omega
        have hk3 : ((k : Int) == 0) = false := by rw [beq_eq_false_iff_ne]; omega
        clear hk1 hk0
        go_wp2_with fail
        go_ret
        exact ⟨Pp.ret_bool HF.out, rfl⟩
      have HB := hid (show (k = 0 ∨ k = s.size - 1) → (s[k].toNat : Int) ≠ 32 from fun e => by omega)
      have hk2 : ((k : Int) == (s.size : Int) - 1) = false := by rw [beq_eq_false_iff_ne]; omega
      have hk3 : ((k : Int) == 0) = false := by rw [beq_eq_false_iff_ne]; omega
      clear hk1 hk0
      go_wp2_with fail
      go_round
      case rel => exact ⟨k + 1, by omega, by go_num, Pp.good_step s k hlt HG.out HK.out HB.out⟩
      case measure => simp [intOf]; omega
    · have HF : Hid (false = Pp.nameB s.data.toList) := Pp.nameB_bad s k hlt h
      rcases Pp.not_ok _ h with g1 | ⟨g1, g2⟩ | ⟨g1, g2⟩ | ⟨g1, g2⟩ | ⟨g1, g2⟩ | ⟨g1, g2⟩ | ⟨g1, g2⟩ | g1
      all_goals
       clear h
       go_wp2_with fail
       go_ret
       exact ⟨Pp.ret_bool HF.out, rfl⟩
  · obtain rfl : k = s.size := by omega
    clear hlt hk
    cases c0 : s.toList.isEmpty with
    | true =>
     have HF := hid (show false = Pp.nameB s.data.toList from Pp.nameB_no s (Or.inl (by rw [Lib.toList_data] at c0; rw [Lib.size_eq]; rw [List.isEmpty_iff] at c0; rw [c0]; decide)))
     go_wp2_with fail
     go_ret
     exact ⟨Pp.ret_bool HF.out, rfl⟩
    | false =>
    by_cases c2 : 20 < (s.size : Int)
    · have HF := hid (show false = Pp.nameB s.data.toList from Pp.nameB_no s (Or.inr (Or.inl (by omega))))
      go_wp2_with fail
      go_ret
      exact ⟨Pp.ret_bool HF.out, rfl⟩
    cases c3 : (s.toList == [46]) with
    | true =>
     have HF := hid (show false = Pp.nameB s.data.toList from Pp.nameB_no s (Or.inr (Or.inr (Or.inl (by simpa using c3)))))
     go_wp2_with fail
     go_ret
     exact ⟨Pp.ret_bool HF.out, rfl⟩
    | false =>
    cases c4 : (s.toList == [46, 46]) with
    | true =>
     have HF := hid (show false = Pp.nameB s.data.toList from Pp.nameB_no s (Or.inr (Or.inr (Or.inr (by simpa using c4)))))
     go_wp2_with fail
     go_ret
     exact ⟨Pp.ret_bool HF.out, rfl⟩
    | false =>
     have HF := hid (show true = Pp.nameB s.data.toList from Pp.good_end s HG.out (by
      rw [Lib.toList_data] at c0
      rw [Lib.size_eq]
      cases e : s.data.toList with
      | nil => rw [e] at c0; cases c0
      | cons _ _ => simp) (by omega) (by simpa using c3) (by simpa using c4))
     go_wp2_with fail
     go_ret
     exact ⟨Pp.ret_bool HF.out, rfl⟩
end Go.Proofs.YtchlgpeiombmdaaGreat
