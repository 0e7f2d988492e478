/- What a journal is behind one more commit, and what comes of the same key again: plain mathematics. -/
import Derived.Test.YtchlgpeiombmdaaGreatHQ
set_option linter.unusedSimpArgs false
set_option linter.unusedVariables false
namespace Go.Proofs.YtchlgpeiombmdaaGreat
open Go.RowKit

namespace Jn
theorem run_cons {n : Int} {T S : List En} {c : Co} {r : List Co} (h : runJ n T (c :: r) = (0, S)) : coE c n = 0 ∧ Pp.allE T c.ch c.nu = 0 ∧ runJ (n + 1) (Pp.allR T c.ch c.nu) r = (0, S) := by
 have h1 := run_first (n := n) (T := T) (c := c) (r := r) (by rw [h])
 rw [runJ, if_neg (fun x => x h1.1), if_neg (fun x => x h1.2)] at h
 exact ⟨h1.1, h1.2, h⟩
theorem run_snoc : ∀ {l : List Co} {n : Int} {T S : List En} {c : Co}, runJ n T l = (0, S) → coE c (n + l.length) = 0 → Pp.allE S c.ch c.nu = 0 → runJ n T (l ++ [c]) = (0, Pp.allR S c.ch c.nu)
 | [], n, T, S, c, h, h1, h2 => by
  rw [runJ] at h
  injection h with _ h
  subst h
  simp at h1
  rw [List.nil_append, runJ, if_neg (fun x => x h1), if_neg (fun x => x h2), runJ]
 | d :: r, n, T, S, c, h, h1, h2 => by
  obtain ⟨a, b, e⟩ := run_cons h
  rw [List.cons_append, runJ, if_neg (fun x => x a), if_neg (fun x => x b)]
  refine run_snoc e ?_ h2
  rw [← h1]; congr 1; simp; omega
theorem new_zero {J : Jo} {l : List Pp.Ch} (h : newE J l = 0) : ¬ l = [] ∧ last J + 1 ≤ 1000000 ∧ Pp.allE (tree J) l (last J + 1) = 0 := by
 rw [newE] at h
 by_cases h1 : l = []
 · rw [if_pos h1] at h; cases h
 · rw [if_neg h1] at h
   by_cases h2 : 1000000 < last J + 1
   · rw [if_pos h2] at h; cases h
   · rw [if_neg h2] at h
     exact ⟨h1, by omega, h⟩
theorem new_co {J : Jo} {key : ByteArray} {l : List Pp.Ch} (hk : Pp.keyB key.data.toList = true) (h : newE J l = 0) : coE (newC J key l) (J.first + J.cos.length) = 0 := by
 obtain ⟨h1, h2, _⟩ := new_zero h
 have e : last J + 1 = J.first + J.cos.length := by rw [last]; omega
 rw [coE, if_neg (fun x => x e), if_neg (by omega), if_neg (fun x => x hk)]
 exact if_neg h1
theorem has_none {l : List Co} {p : List UInt8} (h : hasB l p = false) : ∀ c ∈ l, c.ke.data.toList ≠ p := fun c hc he => by
 have := List.any_eq_false.1 h c hc
 simp [he] at this
theorem add_chk {J : Jo} {key : ByteArray} {l : List Pp.Ch} (h : chkE J = 0) (hk : Pp.keyB key.data.toList = true) (hh : hasB J.cos key.data.toList = false) (hn : newE J l = 0) : chkE (addJ J key l) = 0 := by
 obtain ⟨h1, h2, h3, h4, h5⟩ := chk_parts h
 obtain ⟨n1, n2, n3⟩ := new_zero hn
 obtain ⟨f1, f2⟩ := ver_iff.1 h2
 have hrun : runJ J.first J.base (J.cos ++ [newC J key l]) = (0, Pp.allR (tree J) l (last J + 1)) := run_snoc h4 (new_co hk hn) n3
 have hap : Apart (J.cos ++ [newC J key l]) := by
  rw [Apart, List.pairwise_append]
  refine ⟨h5, by simp, fun x hx y hy => ?_⟩
  rw [List.mem_singleton] at hy
  rw [hy]; exact has_none hh x hx
 have hl : last J = J.first - 1 + J.cos.length := rfl
 rw [addJ, cutJ]
 by_cases hm : 30 < (J.cos ++ [newC J key l]).length
 · rw [if_pos hm]
   cases hj : J.cos with
   | nil => rw [hj] at hm; simp at hm
   | cons c r =>
    rw [hj] at hrun hap hm h3 hl
    simp only [List.cons_append] at hrun hap ⊢
    obtain ⟨r1, r2, r3⟩ := run_cons hrun
    have hnu := (co_zero r1).1
    rw [hnu] at r2 r3
    simp at hm h3 hl
    refine chk_ok ((Pp.good_iff _).2 (all_good r2)) (ver_iff.2 ⟨?_, ?_⟩) ?_ r3 ?_
    · show 1 ≤ J.first + 1; omega
    · show J.first + 1 ≤ 1000000; omega
    · simp; omega
    · exact (List.pairwise_cons.1 hap).2
 · rw [if_neg hm]
   exact chk_ok h1 h2 hm hrun hap
theorem add_mem {J : Jo} {key : ByteArray} {l : List Pp.Ch} : (∃ r, (addJ J key l).cos = r ++ [newC J key l] ∧ ∀ c ∈ r, c ∈ J.cos) ∧ ((addJ J key l).base = J.base ∨ ∃ c r, J.cos = c :: r ∧ (addJ J key l).base = Pp.allR J.base c.ch J.first) := by
 rw [addJ, cutJ]
 by_cases hm : 30 < (J.cos ++ [newC J key l]).length
 · rw [if_pos hm]
   cases hj : J.cos with
   | nil => rw [hj] at hm; simp at hm
   | cons c r =>
    simp only [List.cons_append]
    exact ⟨⟨r, rfl, fun x hx => List.mem_cons_of_mem _ hx⟩, Or.inr ⟨c, r, rfl, rfl⟩⟩
 · rw [if_neg hm]
   exact ⟨⟨J.cos, rfl, fun x hx => hx⟩, Or.inl rfl⟩
/-- Who asks again by a key asks once. -/
theorem com_again {J : Jo} {key : ByteArray} {a : List Pp.Ch} (h : comE J key a = 0) (b : List Pp.Ch) : chkE (comR J key a) = 0 ∧ comE (comR J key a) key b = 0 ∧ comN (comR J key a) key b = comN J key a ∧ comR (comR J key a) key b = comR J key a := by
 have hc : chkE J = 0 := by
  by_cases hc : chkE J = 0
  · exact hc
  · rw [(com_chk hc).1] at h; exact absurd h hc
 have hk : Pp.keyB key.data.toList = true := by
  cases hk : Pp.keyB key.data.toList with
  | true => rfl
  | false => rw [(com_key hc hk).1] at h; cases h
 cases hh : hasB J.cos key.data.toList with
 | true =>
  obtain ⟨_, h2, h3⟩ := com_has (l := a) hc hk hh
  obtain ⟨k1, k2, k3⟩ := com_has (l := b) hc hk hh
  rw [h3, h2]
  exact ⟨hc, k1, k2, k3⟩
 | false =>
  have hn : newE J a = 0 := by rw [← com_new hc hk hh]; exact h
  obtain ⟨_, h2, h3⟩ := com_add hc hk hh hn
  rw [h3, h2]
  have hx := add_chk hc hk hh hn
  obtain ⟨⟨r, hr, hm⟩, _⟩ := add_mem (J := J) (key := key) (l := a)
  have hh2 : hasB (addJ J key a).cos key.data.toList = true := by rw [hr, hasB, List.any_append]; simp [newC]
  obtain ⟨k1, k2, k3⟩ := com_has (l := b) hx hk hh2
  refine ⟨hx, k1, ?_, k3⟩
  rw [k2, numOf, hr, List.find?_append]
  have : r.find? (fun c => c.ke.data.toList == key.data.toList) = none := by
   rw [List.find?_eq_none]
   intro x hx he
   exact has_none hh x (hm x hx) (by simpa using he)
  rw [this]
  simp [newC]
end Jn
namespace Jn
theorem com_sized {J : Jo} {key : ByteArray} {a : List Pp.Ch} {B : Nat} (h : comE J key a = 0) (hc : SizedO B J.cos) (hk : key.size ≤ B) (ha : SizedC B a) : SizedO B (comR J key a).cos := by
 rw [comR, if_neg (fun x => x h)]
 split
 · exact hc
 · obtain ⟨⟨r, hr, hm⟩, _⟩ := add_mem (J := J) (key := key) (l := a)
   rw [hr]
   intro c hcm
   rcases List.mem_append.1 hcm with hcm | hcm
   · exact hc c (hm c hcm)
   · rw [List.mem_singleton] at hcm
     rw [hcm]; exact ⟨hk, ha⟩
end Jn
end Go.Proofs.YtchlgpeiombmdaaGreat
