/- What journal.checkCommit answers, for every commit. -/
import Derived.Test.YtagdilnbbepccaaGreatMB
import Derived.Test.YtagdilnbbepccaaGreatT20a
import Derived.Deep.RegionHeld3
set_option linter.unusedSimpArgs false
set_option linter.unusedVariables false
namespace Go.Proofs.YtagdilnbbepccaaGreat
open Go.RowKit

namespace Jn
theorem co_cases (c : Co) (n : Int) : ((c.nu == n) = false ∧ coE c n = 4) ∨ (c.nu = n ∧ 1000000 < n ∧ coE c n = 3) ∨ (c.nu = n ∧ ¬ 1000000 < n ∧ Pp.keyE c.ke.data.toList = 1 ∧ coE c n = 1) ∨
    (c.nu = n ∧ ¬ 1000000 < n ∧ Pp.keyE c.ke.data.toList = 0 ∧ c.ch.length = 0 ∧ coE c n = 1) ∨ (c.nu = n ∧ ¬ 1000000 < n ∧ Pp.keyE c.ke.data.toList = 0 ∧ 0 < c.ch.length ∧ coE c n = 0) := by
  by_cases h1 : c.nu = n
  · by_cases h2 : 1000000 < n
    · exact Or.inr (Or.inl ⟨h1, h2, by rw [coE, if_neg (fun x => x h1), if_pos h2]⟩)
    · cases h3 : Pp.keyB c.ke.data.toList with
      | false => exact Or.inr (Or.inr (Or.inl ⟨h1, h2, Pp.keyE_no h3, by rw [coE, if_neg (fun x => x h1), if_neg h2, if_pos (by simp [h3])]⟩))
      | true =>
        by_cases h4 : c.ch = []
        · exact Or.inr (Or.inr (Or.inr (Or.inl ⟨h1, h2, Pp.keyE_yes h3, by rw [h4]; rfl, by rw [coE, if_neg (fun x => x h1), if_neg h2, if_neg (fun x => x h3), if_pos h4]⟩)))
        · exact Or.inr (Or.inr (Or.inr (Or.inr ⟨h1, h2, Pp.keyE_yes h3, List.length_pos_iff.2 h4, by rw [coE, if_neg (fun x => x h1), if_neg h2, if_neg (fun x => x h3), if_neg h4]⟩)))
  · exact Or.inl ⟨by simpa using h1, by rw [coE, if_pos h1]⟩
end Jn

theorem bx3 {w w1 : World} {a b c : Value} {T : TypeId} (h : Below (w.alloc (.cells #[a, b, c] T)).heap.size (w.alloc (.cells #[a, b, c] T)) w1) :
    w1.cell? ⟨w.heap.size, 0, none⟩ = some a ∧ w1.cell? ⟨w.heap.size, 1, none⟩ = some b ∧ w1.cell? ⟨w.heap.size, 2, none⟩ = some c ∧ Below w.heap.size w w1 ∧ w.heap.size < w1.heap.size := by
  have hz : w.heap.size < (w.alloc (.cells #[a, b, c] T)).heap.size := by simp
  refine ⟨?_, ?_, ?_, ((Below.refl _ _).alloc (Nat.le_refl _) _).trans (h.mono (Nat.le_of_lt hz)), Nat.lt_of_lt_of_le hz h.size⟩
  · exact (h.cell (p := ⟨w.heap.size, 0, none⟩) hz).trans (by simp)
  · exact (h.cell (p := ⟨w.heap.size, 1, none⟩) hz).trans (by simp)
  · exact (h.cell (p := ⟨w.heap.size, 2, none⟩) hz).trans (by simp)

set_option maxRecDepth 100000 in
set_option maxHeartbeats 1000000 in
theorem checkCommit_any (c : Co) (u : Value) (n : Int) (w : World) (hu : LiesC w u c.ch) (hke : c.ke.size ≤ maxLen) :
    Calls Tryz.prog 47 #[.agg #[.int .i64 c.nu, .string c.ke, u], .int .i64 n] w fun e w' => e = .returned (.int .i64 (Jn.coE c n)) ∧ Below w.heap.size w w' := by
  obtain ⟨a, cap, rfl, hcap, hcap2, _⟩ := hu
  have hbw : Below w.heap.size w (w.alloc (.cells #[.int .i64 c.nu, .string c.ke, .slice a c.ch.length cap] 73)) := (Below.refl _ _).alloc (Nat.le_refl _) _
  rcases Jn.co_cases c n with ⟨h1, hE⟩ | ⟨h1, h2, hE⟩ | ⟨h1, h2, h3, hE⟩ | ⟨h1, h2, h3, h4, hE⟩ | ⟨h1, h2, h3, h4, hE⟩
  · have HE := hid hE
    clear hE
    go_enter Tryz.func47, Tryz.ntmps47
    go_wp2
    go_ret
    exact ⟨by rw [HE.out]; rfl, hbw⟩
  · have HE := hid hE
    clear hE
    obtain ⟨nu, ke, ch⟩ := c
    simp only at h1 h2 hbw hke ⊢
    subst h1
    go_enter Tryz.func47, Tryz.ntmps47
    go_wp2
    go_ret
    exact ⟨by rw [HE.out]; rfl, hbw⟩
  all_goals
    have HE := hid hE
    have H3 := hid h3
    clear hE h3
    try (have h4' : ((c.ch.length : Int) == 0) = true := by rw [beq_iff_eq]; omega)
    try (have h4' : ((c.ch.length : Int) == 0) = false := by rw [beq_eq_false_iff_ne]; omega)
    try clear h4
    obtain ⟨nu, ke, ch⟩ := c
    simp only at h1 h2 hbw hke hcap hcap2 ⊢
    try simp only at h4'
    subst h1
    go_enter Tryz.func47, Tryz.ntmps47
    go_wp2_with fail
    refine (key_any ke _ hke).mono ?_
    rintro e w1 ⟨rfl, hw⟩
    rw [hw, H3.out]
    clear hw w1
    go_wp2
    go_ret
    exact ⟨by rw [HE.out]; rfl, hbw⟩
end Go.Proofs.YtagdilnbbepccaaGreat
