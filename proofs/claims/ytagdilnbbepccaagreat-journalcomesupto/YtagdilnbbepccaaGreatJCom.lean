/- Who reads a journal on, page by page, comes to the tree that there is: plain mathematics. -/
import Derived.Test.YtagdilnbbepccaaGreatMP
import Derived.Test.YtagdilnbbepccaaGreatJRst
import Derived.Test.YtagdilnbbepccaaGreatJNum
set_option linter.unusedSimpArgs false
set_option linter.unusedVariables false
namespace Go.Proofs.YtagdilnbbepccaaGreat
open Go.RowKit

namespace Jn
theorem left_at {J : Jo} (h : chkE J = 0) : ∀ k, k ≤ J.cos.length → LeftJ J (trAt J k) k ∧ Pp.Good (trAt J k) ∧ ∀ (hk : k < J.cos.length), Pp.allE (trAt J k) J.cos[k].ch J.cos[k].nu = 0 := by
  obtain ⟨h1, _, _, h4, _⟩ := chk_parts h
  have step : ∀ k, LeftJ J (trAt J k) k → ∀ (hk : k < J.cos.length), coE J.cos[k] (J.first + k) = 0 ∧ Pp.allE (trAt J k) J.cos[k].ch J.cos[k].nu = 0 := fun k hl hk => by
    by_cases a : coE J.cos[k] (J.first + k) = 0
    · refine ⟨a, ?_⟩
      by_cases b : Pp.allE (trAt J k) J.cos[k].ch J.cos[k].nu = 0
      · exact b
      · have := left_all hl hk a b
        rw [h4] at this
        injection this with this
        exact this.symm
    · have := left_bad hl hk a
      rw [h4] at this
      injection this with this
      exact absurd this.symm a
  intro k
  induction k with
  | zero =>
    intro _
    have hl : LeftJ J (trAt J 0) 0 := by rw [trAt_zero]; exact left_zero J
    exact ⟨hl, by rw [trAt_zero]; exact (Pp.good_iff _).1 h1, fun hk => (step 0 hl hk).2⟩
  | succ k ih =>
    intro hk
    obtain ⟨i1, i2, i3⟩ := ih (by omega)
    obtain ⟨s1, s2⟩ := step k i1 (by omega)
    have hl : LeftJ J (trAt J (k + 1)) (k + 1) := by rw [trAt_succ (by omega)]; exact left_next i1 (by omega) s1 s2
    exact ⟨hl, by rw [trAt_succ (by omega)]; exact all_good s2, fun hk => (step _ hl hk).2⟩
theorem fol_part {J : Jo} (h : chkE J = 0) : ∀ n k, k + n ≤ J.cos.length → folF (trAt J k) ((J.cos.drop k).take n) = (0, trAt J (k + n))
  | 0, k, _ => by rw [List.take_zero, folF]; rfl
  | n + 1, k, hk => by
    have hlt : k < J.cos.length := by omega
    rw [List.drop_eq_getElem_cons hlt, List.take_succ_cons, folF, if_pos ((left_at h k (by omega)).2.2 hlt), ← trAt_succ hlt, fol_part h n (k + 1) (by omega)]
    congr 2
    omega
theorem nums_part {J : Jo} (h : chkE J = 0) : ∀ n k, k + n ≤ J.cos.length → numsB (J.first - 1 + k) ((J.cos.drop k).take n) = true
  | 0, k, _ => by rw [List.take_zero]; rfl
  | n + 1, k, hk => by
    have hlt : k < J.cos.length := by omega
    have hn := chk_nums h k hlt
    have hr := nums_part h n (k + 1) (by omega)
    rw [List.drop_eq_getElem_cons hlt, List.take_succ_cons, numsB, hn, show J.first - 1 + (k : Int) + 1 = J.first - 1 + ((k + 1 : Nat) : Int) by omega, hr]
    simp; omega
def pgAt (J : Jo) (k n : Nat) : Pg := ⟨false, [], (J.cos.drop k).take n, J.first - 1 + (k + n : Nat), decide (n < J.cos.length - k)⟩
theorem rd_at {J : Jo} (h : chkE J = 0) {k : Nat} (hk : k ≤ J.cos.length) {m : Int} (h1 : 1 ≤ m) (h2 : m ≤ 10) : rdE J (J.first - 1 + k) m = 0 ∧ rdR J (J.first - 1 + k) m = pgAt J k (few m (J.cos.length - k)) := by
  obtain ⟨_, v, _, _, _⟩ := chk_parts h
  obtain ⟨f1, f2⟩ := ver_iff.1 v
  have hl : last J = J.first - 1 + J.cos.length := rfl
  have h0 : rdE J (J.first - 1 + k) m = 0 := rd_ok h (by omega) (by omega)
  have hb : behind J (J.first - 1 + k) = J.cos.drop k := by rw [behind]; congr 1; omega
  refine ⟨h0, ?_⟩
  rw [rd_page h0 (by omega), hb, List.length_drop, pgAt]
  congr 1
  omega
theorem few_le {m : Int} {n : Nat} : few m n ≤ n ∧ (few m n : Int) ≤ max m 0 := by rw [few]; omega
theorem fol_at {J : Jo} (h : chkE J = 0) {k n : Nat} (hk : k + n ≤ J.cos.length) (hn : n ≤ 10) : folE (trAt J k) (J.first - 1 + k) (pgAt J k n) = 0 ∧ folR (trAt J k) (J.first - 1 + k) (pgAt J k n) = trAt J (k + n) ∧ folN (trAt J k) (J.first - 1 + k) (pgAt J k n) = J.first - 1 + (k + n : Nat) := by
  obtain ⟨_, v, _, _, _⟩ := chk_parts h
  obtain ⟨f1, f2⟩ := ver_iff.1 v
  have hl : last J = J.first - 1 + J.cos.length := rfl
  obtain ⟨l1, l2⟩ := last_range h
  have hkn : knE (trAt J k) (J.first - 1 + k) = 0 := by
    rw [kn_cur ((Pp.good_iff _).2 (left_at h k (by omega)).2.1), curE, if_neg (by omega)]
  have hlen : ((J.cos.drop k).take n).length = n := by rw [List.length_take, List.length_drop]; omega
  have hon : onE (pgAt J k n) (J.first - 1 + k) = 0 := on_ok rfl (by show ¬ 10 < ((J.cos.drop k).take n).length; omega) (nums_part h n k hk) (by show J.first - 1 + ((k + n : Nat) : Int) = J.first - 1 + k + (((J.cos.drop k).take n).length : Int); rw [hlen]; omega)
  have hf : folF (trAt J k) (pgAt J k n).cos = (0, trAt J (k + n)) := fol_part h n k hk
  have h0 : folE (trAt J k) (J.first - 1 + k) (pgAt J k n) = 0 := by rw [fol_run hkn rfl hon, hf]
  obtain ⟨a, b⟩ := fol_okF h0 rfl
  exact ⟨h0, by rw [a, hf], b⟩
end Jn
end Go.Proofs.YtagdilnbbepccaaGreat
