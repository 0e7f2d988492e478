/- The numbers of a journal's commits, if it passes Check: plain mathematics. -/
import Derived.Test.YtagdilnbbepccaaGreatMB
set_option linter.unusedSimpArgs false
set_option linter.unusedVariables false
namespace Go.Proofs.YtagdilnbbepccaaGreat
open Go.RowKit

namespace Jn
theorem run_nums : ∀ {n : Int} {T : List En} {l : List Co}, (runJ n T l).1 = 0 → ∀ (i : Nat) (h : i < l.length), l[i].nu = n + i
  | n, T, [], _, i, h => absurd h (by simp)
  | n, T, c :: r, h, i, hi => by
    rw [runJ] at h
    by_cases h0 : coE c n = 0
    · rw [if_neg (fun x => x h0)] at h
      by_cases h1 : Pp.allE T c.ch c.nu = 0
      · rw [if_neg (fun x => x h1)] at h
        cases i with
        | zero =>
          rw [coE] at h0
          by_cases a : c.nu = n
          · simp [a]
          · rw [if_pos a] at h0; cases h0
        | succ j =>
          have := run_nums h j (by simpa using hi)
          simp only [List.getElem_cons_succ]
          omega
      · rw [if_pos h1] at h; exact absurd h h1
    · rw [if_pos h0] at h; exact absurd h h0
theorem chk_nums {J : Jo} (h : chkE J = 0) (i : Nat) (hi : i < J.cos.length) : J.cos[i].nu = J.first + i := by
  obtain ⟨_, _, _, h4, _⟩ := chk_parts h
  exact run_nums (n := J.first) (T := J.base) (by rw [h4]) i hi
end Jn
end Go.Proofs.YtagdilnbbepccaaGreat
