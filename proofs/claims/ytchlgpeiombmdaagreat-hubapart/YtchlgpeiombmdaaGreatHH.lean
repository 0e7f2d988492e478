/- A box of five cells; how a change passes or falls by its form. What tree.checkChange answers, for every change. -/
import Derived.Test.YtchlgpeiombmdaaGreatMA
import Derived.Test.YtchlgpeiombmdaaGreatMB
import Derived.Test.YtchlgpeiombmdaaGreatMC
import Derived.Test.YtchlgpeiombmdaaGreatME
set_option linter.unusedSimpArgs false
set_option linter.unusedVariables false
namespace Go.Proofs.YtchlgpeiombmdaaGreat
open Go.RowKit

theorem bx5 {w w1 : World} {a b c d e : Value} {T : TypeId} (h : Below (w.alloc (.cells #[a, b, c, d, e] T)).heap.size (w.alloc (.cells #[a, b, c, d, e] T)) w1) :
    w1.cell? ⟨w.heap.size, 0, none⟩ = some a ∧ w1.cell? ⟨w.heap.size, 1, none⟩ = some b ∧ w1.cell? ⟨w.heap.size, 2, none⟩ = some c ∧ w1.cell? ⟨w.heap.size, 3, none⟩ = some d ∧ w1.cell? ⟨w.heap.size, 4, none⟩ = some e ∧ Below w.heap.size w w1 ∧ w.heap.size < w1.heap.size := by
 have hz : w.heap.size < (w.alloc (.cells #[a, b, c, d, e] T)).heap.size := by simp
 refine ⟨?_, ?_, ?_, ?_, ?_, ((Below.refl _ _).alloc (Nat.le_refl _) _).trans (h.mono (Nat.le_of_lt hz)), Nat.lt_of_lt_of_le hz h.size⟩
 · exact (h.cell (p := ⟨w.heap.size, 0, none⟩) hz).trans (by simp)
 · exact (h.cell (p := ⟨w.heap.size, 1, none⟩) hz).trans (by simp)
 · exact (h.cell (p := ⟨w.heap.size, 2, none⟩) hz).trans (by simp)
 · exact (h.cell (p := ⟨w.heap.size, 3, none⟩) hz).trans (by simp)
 · exact (h.cell (p := ⟨w.heap.size, 4, none⟩) hz).trans (by simp)
theorem txt0 {t : ByteArray} (h : t.toList.isEmpty = true) : t.size = 0 := by rw [Lib.size_eq, (Pp.empty_iff t).1 h]; rfl
namespace Pp
theorem cc14 {k : Int} (hk : k = 1 ∨ k = 4) (p q t : ByteArray) (b : Int) (hz : chk p.data.toList = 0) :
    (q.toList.isEmpty = false ∧ Hid (1 = chgE ⟨k, p, q, t, b⟩)) ∨ (q.toList.isEmpty = true ∧ t.toList.isEmpty = false ∧ Hid (1 = chgE ⟨k, p, q, t, b⟩)) ∨
    (q.toList.isEmpty = true ∧ t.toList.isEmpty = true ∧ (t.size : Int) ≤ 300 ∧ b < -1 ∧ Hid (3 = chgE ⟨k, p, q, t, b⟩)) ∨
    (q.toList.isEmpty = true ∧ t.toList.isEmpty = true ∧ (t.size : Int) ≤ 300 ∧ 1000000 < b ∧ Hid (3 = chgE ⟨k, p, q, t, b⟩)) ∨
    (q.toList.isEmpty = true ∧ t.toList.isEmpty = true ∧ (t.size : Int) ≤ 300 ∧ -1 ≤ b ∧ b ≤ 1000000 ∧ Hid (0 = chgE ⟨k, p, q, t, b⟩)) := by
 have h3 : ¬ k = 3 := by omega
 have h2 : ¬ k = 2 := by omega
 have hkk : ¬ (k < 1 ∨ 4 < k) := by omega
 have hE : chgE ⟨k, p, q, t, b⟩ = if (¬ q.data.toList = []) ∨ (¬ t.data.toList = []) then 1 else if 300 < t.size then 2 else if b < -1 ∨ 1000000 < b then 3 else 0 := by
  simp only [chgE, hkk, if_false, hz, not_true, h3, h2, false_and, not_false_iff, true_and]
 cases hq : q.toList.isEmpty with
 | false => exact Or.inl ⟨rfl, (by rw [hE, if_pos (Or.inl (not_empty hq))] : 1 = chgE ⟨k, p, q, t, b⟩)⟩
 | true =>
  have hq' := (empty_iff q).1 hq
  cases ht : t.toList.isEmpty with
  | false => exact Or.inr (Or.inl ⟨rfl, rfl, (by rw [hE, if_pos (Or.inr (not_empty ht))] : 1 = chgE ⟨k, p, q, t, b⟩)⟩)
  | true =>
   have ht' := (empty_iff t).1 ht
   have hs : t.size = 0 := by rw [Lib.size_eq, ht']; rfl
   rw [if_neg (by simp [hq', ht']), if_neg (by omega)] at hE
   by_cases h1 : b < -1
   · exact Or.inr (Or.inr (Or.inl ⟨rfl, rfl, by omega, h1, (by rw [hE, if_pos (Or.inl h1)] : 3 = chgE ⟨k, p, q, t, b⟩)⟩))
   · by_cases h5 : 1000000 < b
     · exact Or.inr (Or.inr (Or.inr (Or.inl ⟨rfl, rfl, by omega, h5, (by rw [hE, if_pos (Or.inr h5)] : 3 = chgE ⟨k, p, q, t, b⟩)⟩)))
     · exact Or.inr (Or.inr (Or.inr (Or.inr ⟨rfl, rfl, by omega, by omega, by omega, (by rw [hE, if_neg (by omega)] : 0 = chgE ⟨k, p, q, t, b⟩)⟩)))
theorem cc2 (p q t : ByteArray) (b : Int) (hz : chk p.data.toList = 0) :
    (q.toList.isEmpty = false ∧ Hid (1 = chgE ⟨2, p, q, t, b⟩)) ∨ (q.toList.isEmpty = true ∧ 300 < (t.size : Int) ∧ Hid (2 = chgE ⟨2, p, q, t, b⟩)) ∨
    (q.toList.isEmpty = true ∧ (t.size : Int) ≤ 300 ∧ b < -1 ∧ Hid (3 = chgE ⟨2, p, q, t, b⟩)) ∨
    (q.toList.isEmpty = true ∧ (t.size : Int) ≤ 300 ∧ 1000000 < b ∧ Hid (3 = chgE ⟨2, p, q, t, b⟩)) ∨
    (q.toList.isEmpty = true ∧ (t.size : Int) ≤ 300 ∧ -1 ≤ b ∧ b ≤ 1000000 ∧ Hid (0 = chgE ⟨2, p, q, t, b⟩)) := by
 have hE : chgE ⟨2, p, q, t, b⟩ = if (¬ q.data.toList = []) then 1 else if 300 < t.size then 2 else if b < -1 ∨ 1000000 < b then 3 else 0 := by
  simp [chgE, hz]
 cases hq : q.toList.isEmpty with
 | false => exact Or.inl ⟨rfl, (by rw [hE, if_pos (not_empty hq)] : 1 = chgE ⟨2, p, q, t, b⟩)⟩
 | true =>
  have hq' := (empty_iff q).1 hq
  rw [if_neg (by simp [hq'])] at hE
  by_cases hs : 300 < (t.size : Int)
  · exact Or.inr (Or.inl ⟨rfl, hs, (by rw [hE, if_pos (by omega)] : 2 = chgE ⟨2, p, q, t, b⟩)⟩)
  · rw [if_neg (by omega)] at hE
    by_cases h1 : b < -1
    · exact Or.inr (Or.inr (Or.inl ⟨rfl, by omega, h1, (by rw [hE, if_pos (Or.inl h1)] : 3 = chgE ⟨2, p, q, t, b⟩)⟩))
    · by_cases h5 : 1000000 < b
      · exact Or.inr (Or.inr (Or.inr (Or.inl ⟨rfl, by omega, h5, (by rw [hE, if_pos (Or.inr h5)] : 3 = chgE ⟨2, p, q, t, b⟩)⟩)))
      · exact Or.inr (Or.inr (Or.inr (Or.inr ⟨rfl, by omega, by omega, by omega, (by rw [hE, if_neg (by omega)] : 0 = chgE ⟨2, p, q, t, b⟩)⟩)))
theorem cc3 (p q t : ByteArray) (b : Int) (hz : chk p.data.toList = 0) (hy : chk q.data.toList = 0) :
    (t.toList.isEmpty = false ∧ Hid (1 = chgE ⟨3, p, q, t, b⟩)) ∨
    (t.toList.isEmpty = true ∧ (t.size : Int) ≤ 300 ∧ b < -1 ∧ Hid (3 = chgE ⟨3, p, q, t, b⟩)) ∨
    (t.toList.isEmpty = true ∧ (t.size : Int) ≤ 300 ∧ 1000000 < b ∧ Hid (3 = chgE ⟨3, p, q, t, b⟩)) ∨
    (t.toList.isEmpty = true ∧ (t.size : Int) ≤ 300 ∧ -1 ≤ b ∧ b ≤ 1000000 ∧ Hid (0 = chgE ⟨3, p, q, t, b⟩)) := by
 have hE : chgE ⟨3, p, q, t, b⟩ = if (¬ t.data.toList = []) then 1 else if 300 < t.size then 2 else if b < -1 ∨ 1000000 < b then 3 else 0 := by
  simp [chgE, hz, hy]
 cases ht : t.toList.isEmpty with
 | false => exact Or.inl ⟨rfl, (by rw [hE, if_pos (not_empty ht)] : 1 = chgE ⟨3, p, q, t, b⟩)⟩
 | true =>
  have ht' := (empty_iff t).1 ht
  have hs : t.size = 0 := by rw [Lib.size_eq, ht']; rfl
  rw [if_neg (by simp [ht']), if_neg (by omega)] at hE
  by_cases h1 : b < -1
  · exact Or.inr (Or.inl ⟨rfl, by omega, h1, (by rw [hE, if_pos (Or.inl h1)] : 3 = chgE ⟨3, p, q, t, b⟩)⟩)
  · by_cases h5 : 1000000 < b
    · exact Or.inr (Or.inr (Or.inl ⟨rfl, by omega, h5, (by rw [hE, if_pos (Or.inr h5)] : 3 = chgE ⟨3, p, q, t, b⟩)⟩))
    · exact Or.inr (Or.inr (Or.inr ⟨rfl, by omega, by omega, by omega, (by rw [hE, if_neg (by omega)] : 0 = chgE ⟨3, p, q, t, b⟩)⟩))
end Pp
end Go.Proofs.YtchlgpeiombmdaaGreat
set_option linter.unusedSimpArgs false
set_option linter.unusedVariables false
namespace Go.Proofs.YtchlgpeiombmdaaGreat
open Go.RowKit

set_option maxHeartbeats 2000000 in
theorem checkChange_any (k : Int) (p q t : ByteArray) (b : Int) (w : World) (hp : p.size ≤ 1000000000000000) (hq : q.size ≤ 1000000000000000) (ht : t.size ≤ 1000000000000000) :
    Calls Tryz.prog 167 #[.agg #[.int .i64 k, .string p, .string q, .string t, .int .i64 b]] w fun e w' => e = .returned (.int .i64 (Pp.chgE ⟨k, p, q, t, b⟩)) ∧ Below w.heap.size w w' := by
 by_cases h1 : k < 1
 · have HE := hid (show 7 = Pp.chgE ⟨k, p, q, t, b⟩ from by rw [Pp.chgE, if_pos (Or.inl h1)])
   go_enter Tryz.func167, Tryz.ntmps167
   go_wp2
   go_ret
   exact ⟨Pp.ret_int HE.out, (Below.refl _ _).alloc (Nat.le_refl _) _⟩
 by_cases h2 : 4 < k
 · have HE := hid (show 7 = Pp.chgE ⟨k, p, q, t, b⟩ from by rw [Pp.chgE, if_pos (Or.inr h2)])
   go_enter Tryz.func167, Tryz.ntmps167
   go_wp2
   go_ret
   exact ⟨Pp.ret_int HE.out, (Below.refl _ _).alloc (Nat.le_refl _) _⟩
 by_cases hz : Pp.chk p.data.toList = 0
 · have HZ : Hid (Pp.chk p.data.toList = 0) := hz
   have h4 : (k = 1 ∨ k = 4) ∨ k = 2 ∨ k = 3 := by omega
   clear h1 h2
   rcases h4 with h | rfl | rfl
   · have hcases := Pp.cc14 h p q t b hz
     clear hz
     rcases h with rfl | rfl
     all_goals
      rcases hcases with ⟨f1, HE⟩ | ⟨f1, f2, HE⟩ | ⟨f1, f2, f3, f4, HE⟩ | ⟨f1, f2, f3, f4, HE⟩ | ⟨f1, f2, f3, f4, f5, HE⟩
     all_goals
      go_enter Tryz.func167, Tryz.ntmps167
      go_wp2_with fail
      refine (check_any p _ hp).mono ?_
      rintro e w1 ⟨rfl, hb1'⟩
      rw [HZ.out]
      obtain ⟨c0, c1, c2, c3, c4, hbw, hlt⟩ := bx5 hb1'
      clear hb1'
      go_wp2_with fail
      go_ret
      exact ⟨Pp.ret_int HE.out, hbw⟩
   · have hcases := Pp.cc2 p q t b hz
     clear hz
     rcases hcases with ⟨f1, HE⟩ | ⟨f1, f2, HE⟩ | ⟨f1, f2, f3, HE⟩ | ⟨f1, f2, f3, HE⟩ | ⟨f1, f2, f3, f4, HE⟩
     all_goals
      go_enter Tryz.func167, Tryz.ntmps167
      go_wp2_with fail
      refine (check_any p _ hp).mono ?_
      rintro e w1 ⟨rfl, hb1'⟩
      rw [HZ.out]
      obtain ⟨c0, c1, c2, c3, c4, hbw, hlt⟩ := bx5 hb1'
      clear hb1'
      go_wp2_with fail
      go_ret
      exact ⟨Pp.ret_int HE.out, hbw⟩
   · by_cases hy : Pp.chk q.data.toList = 0
     · have hcases := Pp.cc3 p q t b hz hy
       have HY : Hid (Pp.chk q.data.toList = 0) := hy
       clear hz hy
       rcases hcases with ⟨f1, HE⟩ | ⟨f1, f2, f3, HE⟩ | ⟨f1, f2, f3, HE⟩ | ⟨f1, f2, f3, f4, HE⟩
       all_goals
        go_enter Tryz.func167, Tryz.ntmps167
        go_wp2_with fail
        refine (check_any p _ hp).mono ?_
        rintro e w1 ⟨rfl, hb1'⟩
        rw [HZ.out]
        obtain ⟨c0, c1, c2, c3, c4, hbw, hlt⟩ := bx5 hb1'
        go_wp2_with fail
        refine (check_any q _ hq).mono ?_
        rintro e w2 ⟨rfl, hb2'⟩
        rw [HY.out]
        have hb02 := hb1'.trans (hb2'.mono hb1'.size)
        clear c0 c1 c2 c3 c4 hbw hlt hb1' hb2'
        obtain ⟨c0, c1, c2, c3, c4, hbw, hlt⟩ := bx5 hb02
        clear hb02
        go_wp2_with fail
        go_ret
        exact ⟨Pp.ret_int HE.out, hbw⟩
     · have HE := hid (show Pp.chk q.data.toList = Pp.chgE ⟨3, p, q, t, b⟩ from by simp [Pp.chgE, hz, hy])
       have hy2 : (Pp.chk q.data.toList == 0) = false := by simpa using hy
       clear hz
       go_enter Tryz.func167, Tryz.ntmps167
       go_wp2_with fail
       refine (check_any p _ hp).mono ?_
       rintro e w1 ⟨rfl, hb1'⟩
       rw [HZ.out]
       obtain ⟨c0, c1, c2, c3, c4, hbw, hlt⟩ := bx5 hb1'
       go_wp2_with fail
       refine (check_any q _ hq).mono ?_
       rintro e w2 ⟨rfl, hb2'⟩
       have hb02 := hb1'.trans (hb2'.mono hb1'.size)
       clear c0 c1 c2 c3 c4 hbw hlt hb1' hb2'
       obtain ⟨c0, c1, c2, c3, c4, hbw, hlt⟩ := bx5 hb02
       clear hb02
       go_wp2_with fail
       go_ret
       exact ⟨Pp.ret_int HE.out, hbw⟩
 · have HE := hid (show Pp.chk p.data.toList = Pp.chgE ⟨k, p, q, t, b⟩ from by rw [Pp.chgE, if_neg (by simp only; omega), if_pos hz])
   have hz2 : (Pp.chk p.data.toList == 0) = false := by simpa using hz
   go_enter Tryz.func167, Tryz.ntmps167
   go_wp2_with fail
   refine (check_any p _ hp).mono ?_
   rintro e w1 ⟨rfl, hb1⟩
   obtain ⟨c0, c1, c2, c3, c4, hb, hlt⟩ := bx5 hb1
   clear hb1
   go_wp2_with fail
   go_ret
   exact ⟨Pp.ret_int HE.out, hb⟩
end Go.Proofs.YtchlgpeiombmdaaGreat
