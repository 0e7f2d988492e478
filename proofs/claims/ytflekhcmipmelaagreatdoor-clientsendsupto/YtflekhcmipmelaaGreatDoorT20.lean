/- What tree.checkChange answers, for every change. -/
import Derived.Test.YtflekhcmipmelaaGreatDoorT20a
import Derived.Test.YtflekhcmipmelaaGreatDoorME
set_option linter.unusedSimpArgs false
set_option linter.unusedVariables false
namespace Go.Proofs.YtflekhcmipmelaaGreatDoor
open Go.RowKit

set_option maxHeartbeats 2000000 in
theorem checkChange_any (k : Int) (p q t : ByteArray) (b : Int) (w : World) (hp : p.size ≤ 1000000000000000) (hq : q.size ≤ 1000000000000000) (ht : t.size ≤ 1000000000000000) :
    Calls Tryz.prog 67 #[.agg #[.int .i64 k, .string p, .string q, .string t, .int .i64 b]] w fun e w' => e = .returned (.int .i64 (Pp.chgE ⟨k, p, q, t, b⟩)) ∧ Below w.heap.size w w' := by
  by_cases h1 : k < 1
  · have HE : Hid (7 = Pp.chgE ⟨k, p, q, t, b⟩) := (by rw [Pp.chgE, if_pos (Or.inl h1)] : 7 = Pp.chgE ⟨k, p, q, t, b⟩)
    go_enter Tryz.func67, Tryz.ntmps67
    go_wp2
    go_ret
    exact ⟨Pp.ret_int HE.out, (Below.refl _ _).alloc (Nat.le_refl _) _⟩
  by_cases h2 : 4 < k
  · have HE : Hid (7 = Pp.chgE ⟨k, p, q, t, b⟩) := (by rw [Pp.chgE, if_pos (Or.inr h2)] : 7 = Pp.chgE ⟨k, p, q, t, b⟩)
    go_enter Tryz.func67, Tryz.ntmps67
    go_wp2
    go_ret
    exact ⟨Pp.ret_int HE.out, (Below.refl _ _).alloc (Nat.le_refl _) _⟩
  by_cases hz : Pp.chk p.data.toList = 0
  · have HZ : Hid (Pp.chk p.data.toList = 0) := hz
    have h4 : (k = 1 ∨ k = 4) ∨ k = 2 ∨ k = 3 := by omega
    clear h1 h2
    rcases h4 with h | rfl | rfl
    · have hcases := Pp.cc14 h p q t b hz
      clear hz
      rcases h with rfl | rfl
      all_goals
        rcases hcases with ⟨f1, HE⟩ | ⟨f1, f2, HE⟩ | ⟨f1, f2, f3, f4, HE⟩ | ⟨f1, f2, f3, f4, HE⟩ | ⟨f1, f2, f3, f4, f5, HE⟩
      all_goals
        go_enter Tryz.func67, Tryz.ntmps67
        go_wp2_with fail
        refine (check_any p _ hp).mono ?_
        rintro e w1 ⟨rfl, hb1'⟩
        rw [HZ.out]
        obtain ⟨c0, c1, c2, c3, c4, hbw, hlt⟩ := bx5 hb1'
        clear hb1'
        go_wp2_with fail
        go_ret
        exact ⟨Pp.ret_int HE.out, hbw⟩
    · have hcases := Pp.cc2 p q t b hz
      clear hz
      rcases hcases with ⟨f1, HE⟩ | ⟨f1, f2, HE⟩ | ⟨f1, f2, f3, HE⟩ | ⟨f1, f2, f3, HE⟩ | ⟨f1, f2, f3, f4, HE⟩
      all_goals
        go_enter Tryz.func67, Tryz.ntmps67
        go_wp2_with fail
        refine (check_any p _ hp).mono ?_
        rintro e w1 ⟨rfl, hb1'⟩
        rw [HZ.out]
        obtain ⟨c0, c1, c2, c3, c4, hbw, hlt⟩ := bx5 hb1'
        clear hb1'
        go_wp2_with fail
        go_ret
        exact ⟨Pp.ret_int HE.out, hbw⟩
    · by_cases hy : Pp.chk q.data.toList = 0
      · have hcases := Pp.cc3 p q t b hz hy
        have HY : Hid (Pp.chk q.data.toList = 0) := hy
        clear hz hy
        rcases hcases with ⟨f1, HE⟩ | ⟨f1, f2, f3, HE⟩ | ⟨f1, f2, f3, HE⟩ | ⟨f1, f2, f3, f4, HE⟩
        all_goals
          go_enter Tryz.func67, Tryz.ntmps67
          go_wp2_with fail
          refine (check_any p _ hp).mono ?_
          rintro e w1 ⟨rfl, hb1'⟩
          rw [HZ.out]
          obtain ⟨c0, c1, c2, c3, c4, hbw, hlt⟩ := bx5 hb1'
          go_wp2_with fail
          refine (check_any q _ hq).mono ?_
          rintro e w2 ⟨rfl, hb2'⟩
          rw [HY.out]
          have hb02 := hb1'.trans (hb2'.mono hb1'.size)
          clear c0 c1 c2 c3 c4 hbw hlt hb1' hb2'
          obtain ⟨c0, c1, c2, c3, c4, hbw, hlt⟩ := bx5 hb02
          clear hb02
          go_wp2_with fail
          go_ret
          exact ⟨Pp.ret_int HE.out, hbw⟩
      · have HE : Hid (Pp.chk q.data.toList = Pp.chgE ⟨3, p, q, t, b⟩) := (by simp [Pp.chgE, hz, hy] : Pp.chk q.data.toList = Pp.chgE ⟨3, p, q, t, b⟩)
        have hy2 : (Pp.chk q.data.toList == 0) = false := by simpa using hy
        clear hz
        go_enter Tryz.func67, Tryz.ntmps67
        go_wp2_with fail
        refine (check_any p _ hp).mono ?_
        rintro e w1 ⟨rfl, hb1'⟩
        rw [HZ.out]
        obtain ⟨c0, c1, c2, c3, c4, hbw, hlt⟩ := bx5 hb1'
        go_wp2_with fail
        refine (check_any q _ hq).mono ?_
        rintro e w2 ⟨rfl, hb2'⟩
        have hb02 := hb1'.trans (hb2'.mono hb1'.size)
        clear c0 c1 c2 c3 c4 hbw hlt hb1' hb2'
        obtain ⟨c0, c1, c2, c3, c4, hbw, hlt⟩ := bx5 hb02
        clear hb02
        go_wp2_with fail
        go_ret
        exact ⟨Pp.ret_int HE.out, hbw⟩
  · have HE : Hid (Pp.chk p.data.toList = Pp.chgE ⟨k, p, q, t, b⟩) := (by rw [Pp.chgE, if_neg (by simp only; omega), if_pos hz] : Pp.chk p.data.toList = Pp.chgE ⟨k, p, q, t, b⟩)
    have hz2 : (Pp.chk p.data.toList == 0) = false := by simpa using hz
    go_enter Tryz.func67, Tryz.ntmps67
    go_wp2_with fail
    refine (check_any p _ hp).mono ?_
    rintro e w1 ⟨rfl, hb1⟩
    obtain ⟨c0, c1, c2, c3, c4, hb, hlt⟩ := bx5 hb1
    clear hb1
    go_wp2_with fail
    go_ret
    exact ⟨Pp.ret_int HE.out, hb⟩
end Go.Proofs.YtflekhcmipmelaaGreatDoor
