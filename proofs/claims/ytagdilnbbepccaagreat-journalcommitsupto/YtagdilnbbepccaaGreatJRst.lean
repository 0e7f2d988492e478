/- What a page of a journal from behind its first number is, and what following it answers: plain mathematics. -/
import Derived.Test.YtagdilnbbepccaaGreatMP
import Derived.Test.YtagdilnbbepccaaGreatTCh
set_option linter.unusedSimpArgs false
set_option linter.unusedVariables false
namespace Go.Proofs.YtagdilnbbepccaaGreat
open Go.RowKit

namespace Jn
theorem run_last : ∀ {n : Int} {T : List En} {l : List Co}, (runJ n T l).1 = 0 → l = [] ∨ n - 1 + l.length ≤ 1000000
  | n, T, [], _ => Or.inl rfl
  | n, T, c :: r, h => by
    right
    rw [runJ] at h
    by_cases h1 : coE c n = 0
    · rw [if_neg (fun x => x h1)] at h
      have hn : n ≤ 1000000 := by
        rw [coE] at h1
        by_cases a : c.nu = n
        · rw [if_neg (fun x => x a)] at h1
          by_cases b : 1000000 < n
          · rw [if_pos b] at h1; cases h1
          · omega
        · rw [if_pos a] at h1; cases h1
      by_cases h2 : Pp.allE T c.ch c.nu = 0
      · rw [if_neg (fun x => x h2)] at h
        rcases run_last h with h3 | h3
        · rw [h3]; simp; omega
        · simp; omega
      · rw [if_pos h2] at h; exact absurd h h2
    · rw [if_pos h1] at h; exact absurd h h1
theorem last_range {J : Jo} (h : chkE J = 0) : 0 ≤ last J ∧ last J ≤ 1000000 := by
  obtain ⟨_, h2, _, h4, _⟩ := chk_parts h
  obtain ⟨f1, f2⟩ := ver_iff.1 h2
  rw [last]
  refine ⟨by omega, ?_⟩
  rcases run_last (show (runJ J.first J.base J.cos).1 = 0 by rw [h4]) with h3 | h3
  · rw [h3]; simp; omega
  · exact h3
/-- The page that lays the tree anew. -/
def rstP (J : Jo) : Pg := ⟨true, tree J, [], last J, false⟩
theorem rd_early {J : Jo} {c : Int} (h : chkE J = 0) (hf : 2 ≤ J.first) : rdE J (Pp.chz c (J.first - 1)) 3 = 0 ∧ rdR J (Pp.chz c (J.first - 1)) 3 = rstP J := by
  obtain ⟨a, b⟩ := Pp.chz_range c (show 0 < J.first - 1 by omega)
  have hl : last J = J.first - 1 + J.cos.length := rfl
  have h0 : rdE J (Pp.chz c (J.first - 1)) 3 = 0 := rd_ok h (by omega) (by omega)
  exact ⟨h0, rd_reset h0 b⟩
theorem kn_last {J : Jo} (h : chkE J = 0) : knE (tree J) (last J) = 0 := by
  obtain ⟨a, b⟩ := last_range h
  rw [kn_cur ((Pp.good_iff _).2 (tree_good h)), curE, if_neg (by omega)]
theorem rst_fol {J : Jo} (h : chkE J = 0) (T : List En) : folE T 0 (rstP J) = Pp.treeE T := by
  by_cases ht : Pp.treeE T = 0
  · have hk : knE T 0 = 0 := by rw [kn_cur ht]; rfl
    rw [fol_reset hk rfl, rst_ok (kn_last h) (by simp [rstP]), ht]
  · have hk : knE T 0 = Pp.treeE T := kn_tree ht
    rw [fol_kn (by rw [hk]; exact ht), hk]
theorem rst_folR {J : Jo} (h : chkE J = 0) {T : List En} (ht : Pp.treeE T = 0) : folR T 0 (rstP J) = tree J ∧ folN T 0 (rstP J) = last J := fol_okR (by rw [rst_fol h, ht]) rfl
end Jn
end Go.Proofs.YtagdilnbbepccaaGreat
