/- Each text that a side changed is there, at its path or aside: mathematics. -/
import Derived.Test.YthfdmdjmbbollaaGreatDoorPA
set_option linter.unusedSimpArgs false
set_option linter.unusedVariables false
namespace Go.Proofs.YthfdmdjmbbollaaGreatDoor
open Go.RowKit Go.Maps

namespace Mg
/-- A text of a path is there, or went aside to a path that no side has. -/
def Kp (M T N : List En) (C : CC) (p : List UInt8) (s : Spo) : Prop := lk (st N p) s = true ∨ ∃ c ∈ C, c.1.data.toList = p ∧ lk (st N c.2.data.toList) s = true ∧ ¬ sides M T c.2.data.toList
theorem free_out {M T N : List En} {q : List UInt8} (h : free M T N q = true) : ¬ sides M T q ∧ (st N q).w = 0 := by
  rw [free, Bool.and_eq_true, Bool.and_eq_true, beq_iff_eq, beq_iff_eq, beq_iff_eq] at h
  exact ⟨by rintro (k | k); exact k h.1.1; exact k h.1.2, h.2⟩
theorem Kp.aside {M T N : List En} {C : CC} {p r q : List UInt8} {s x : Spo} (hN : Sp.Rise N) (h : Kp M T N C p s) (hs : s.w = 2) (hq : asd M T N r = some q) (c : ByteArray × ByteArray) : Kp M T (Sp.put1 (file q x) N) (C ++ [c]) p s := by
  have hf := free_out (asd_some hq).2.2.2
  have keep : ∀ y, lk (st N y) s = true → lk (st (Sp.put1 (file q x) N) y) s = true := by
    intro y hy
    rw [st_put1 hN]
    split
    · rename_i e
      have e : q = y := e
      have h1 := (lk_iff.1 hy).1
      rw [e] at hf
      omega
    · exact hy
  rcases h with h | ⟨d, hd, h1, h2, h3⟩
  · exact Or.inl (keep p h)
  · exact Or.inr ⟨d, by simp [hd], h1, keep _ h2, h3⟩
theorem kp_asds {B M T N : List En} {C : CC} (gB : Pp.Good B) (gM : Pp.Good M) (gT : Pp.Good T) (h : asds M T (asi0 B M T) (now0 B M T, []) = some (N, C)) {p : List UInt8} {s : Spo} (hs : s.w = 2) (h0 : lk (fS B M T p) s = true ∨ fG B M T p = s) : Kp M T N C p s := by
  have hr : Sp.Rise (now0 B M T) := sets_rise (uni_rise gB.rise M T)
  have hM := Sp.apart_rise gM.rise
  have hT := Sp.apart_rise gT.rise
  rcases h0 with h0 | h0
  · refine (asds_ind (P := fun N C => Sp.Rise N ∧ Kp M T N C p s) (asi0 B M T) (now0 B M T) [] ⟨hr, Or.inl (by rw [st_now0 gB.rise hM hT]; exact h0)⟩ ?_ N C h).2
    intro a _ N C q ⟨k1, k2⟩ hq
    exact ⟨Sp.put1_rise k1, k2.aside k1 hs hq _⟩
  · have hra : Sp.Rise (asi0 B M T) := sets_rise (uni_rise gB.rise M T)
    obtain ⟨a, ha, hap, has⟩ := st_get hra (p := p) (by rw [st_asi0 gB.rise hM hT, h0]; omega)
    rw [st_asi0 gB.rise hM hT, h0] at has
    obtain ⟨x, y, hxy⟩ := List.append_of_mem ha
    rw [hxy, asds_app] at h
    cases hx : asds M T x (now0 B M T, []) with
    | none => rw [hx] at h; cases h
    | some t =>
      obtain ⟨N1, C1⟩ := t
      rw [hx] at h
      have h : asds M T (a :: y) (N1, C1) = some (N, C) := h
      have hr1 : Sp.Rise N1 := asds_ind (P := fun N _ => Sp.Rise N) x _ _ hr (fun a _ N C q k _ => Sp.put1_rise k) N1 C1 hx
      rw [asds] at h
      cases hq : asd M T N1 a.path.data.toList with
      | none => simp only [hq] at h; cases h
      | some q =>
        simp only [hq] at h
        have hf := free_out (asd_some hq).2.2.2
        refine (asds_ind (P := fun N C => Sp.Rise N ∧ Kp M T N C p s) y _ _ ⟨Sp.put1_rise hr1, Or.inr ⟨(a.path, ⟨q.toArray⟩), by simp, hap, ?_, hf.1⟩⟩ ?_ N C h).2
        · show lk (st (Sp.put1 (file q (spo a)) N1) q) s = true
          rw [st_put1 hr1, if_pos (show (file q (spo a)).path.data.toList = q from rfl), spo_file, ← has]
          exact lk_iff.2 ⟨hs.symm, rfl⟩
        · intro b _ N C q ⟨k1, k2⟩ hq
          exact ⟨Sp.put1_rise k1, k2.aside k1 hs hq _⟩
theorem Kp.mkf {M T N N' : List En} {C C' : CC} {p : List UInt8} {s : Spo} {r : ByteArray} (hN : Sp.Rise N) (h : Kp M T N C p s) (hs : s.w = 2) (hr : sides M T r.data.toList) (hm : mkf M T N C r = some (N', C')) : Kp M T N' C' p s := by
  by_cases h2 : (st N r.data.toList).w = 2
  · cases ha : asd M T N r.data.toList with
    | none => rw [mkf_no h2 ha] at hm; cases hm
    | some q =>
      rw [mkf_some h2 ha] at hm
      injection hm with hm
      injection hm with e1 e2
      rw [← e1, ← e2]
      have hf := free_out (asd_some ha).2.2.2
      have hr1 := Sp.put1_rise (e := file q (st N r.data.toList)) hN
      have k1 := h.aside (x := st N r.data.toList) hN hs ha (r, ⟨q.toArray⟩)
      have hqr : q ≠ r.data.toList := fun e => hf.1 (e ▸ hr)
      have keep : ∀ y, y ≠ r.data.toList → st (Sp.put1 (fold r) (Sp.put1 (file q (st N r.data.toList)) N)) y = st (Sp.put1 (file q (st N r.data.toList)) N) y := by
        intro y hy
        rw [st_put1 hr1, if_neg (fun e => hy (show y = r.data.toList from e.symm))]
      rcases k1 with k | ⟨d, hd, d1, d2, d3⟩
      · by_cases hp : p = r.data.toList
        · refine Or.inr ⟨(r, ⟨q.toArray⟩), by simp, hp.symm, ?_, hf.1⟩
          show lk (st (Sp.put1 (fold r) (Sp.put1 (file q (st N r.data.toList)) N)) q) s = true
          rw [keep q hqr, st_put1 hN, if_pos (show (file q (st N r.data.toList)).path.data.toList = q from rfl), spo_file]
          rw [hp, st_put1 hN, if_neg (show ¬ (file q (st N r.data.toList)).path.data.toList = r.data.toList from hqr)] at k
          exact lk_iff.2 ⟨hs.symm, (lk_iff.1 k).2⟩
        · exact Or.inl (by rw [keep p hp]; exact k)
      · refine Or.inr ⟨d, hd, d1, ?_, d3⟩
        rw [keep d.2.data.toList (fun e => d3 (by rw [e]; exact hr))]
        exact d2
  · rw [mkf_else h2] at hm
    injection hm with hm
    injection hm with e1 e2
    rw [← e1, ← e2]
    have keep : ∀ y, y ≠ r.data.toList → st (Sp.put1 (fold r) N) y = st N y := by
      intro y hy
      rw [st_put1 hN, if_neg (fun e => hy (show y = r.data.toList from e.symm))]
    rcases h with k | ⟨d, hd, d1, d2, d3⟩
    · refine Or.inl ?_
      rw [keep p (fun e => ?_)]
      · exact k
      · have := (lk_iff.1 k).1
        rw [e] at this
        omega
    · refine Or.inr ⟨d, hd, d1, ?_, d3⟩
      rw [keep d.2.data.toList (fun e => d3 (by rw [e]; exact hr))]
      exact d2
theorem kp_mrg {B M T X : List En} {C : CC} (gB : Pp.Good B) (gM : Pp.Good M) (gT : Pp.Good T) (h : mrg B M T = some (X, C)) : ∃ N, X = outs M T N ∧ Sp.Rise N ∧ ∀ p s, s.w = 2 → (lk (fS B M T p) s = true ∨ fG B M T p = s) → Kp M T N C p s := by
  obtain ⟨N1, C1, N, a1, a2, a3, a4⟩ := mrg_part h
  have hi := inv_asds gB gM gT a1
  refine ⟨N, a3, mks_rise hi.rise a2, fun p s hs h0 => ?_⟩
  have k1 := kp_asds gB gM gT a1 hs h0
  refine (mks_ind (P := fun N C => Sp.Rise N ∧ Kp M T N C p s) _ N1 C1 ⟨hi.rise, k1⟩ ?_ N C a2).2
  intro q hq N C N' C' ⟨x1, x2⟩ hm
  exact ⟨(mkf_rise hm x1).1, x2.mkf x1 hs (allP_sides hi hq).1 hm⟩
/-- What mine changed. -/
theorem mine_kept {b m t : Spo} (hm : m.w = 2) (hb : ¬ lk m b = true) : lk (stays b m t) m = true ∨ goes b m t = m := by
  by_cases h1 : lk m t = true
  · left
    rw [stays, if_pos (Or.inl h1)]
    exact lk_symm h1
  · rw [stays, goes]
    have hn : ¬ (lk m t = true ∨ lk m b = true) := by rintro (h | h); exact h1 h; exact hb h
    rw [if_neg hn, if_neg hn]
    by_cases h3 : lk t b = true
    · rw [if_pos h3]; exact Or.inl (lk_refl _)
    · rw [if_neg h3, if_neg h3]
      by_cases h4 : m.w = 1 ∨ t.w = 0
      · rw [if_pos h4]; exact Or.inl (lk_refl _)
      · rw [if_neg h4, if_neg h4]; exact Or.inr rfl
theorem theirs_kept {b m t : Spo} (ht : t.w = 2) (hb : ¬ lk t b = true) : lk (stays b m t) t = true ∨ goes b m t = t := by
  by_cases h1 : lk m t = true ∨ lk m b = true
  · left
    rw [stays, if_pos h1]
    exact lk_refl _
  · rw [stays, goes, if_neg h1, if_neg h1, if_neg hb, if_neg hb]
    by_cases h4 : m.w = 1 ∨ t.w = 0
    · rw [if_pos h4, if_pos h4]; exact Or.inr rfl
    · rw [if_neg h4]; exact Or.inl (lk_refl _)
end Mg
end Go.Proofs.YthfdmdjmbbollaaGreatDoor
