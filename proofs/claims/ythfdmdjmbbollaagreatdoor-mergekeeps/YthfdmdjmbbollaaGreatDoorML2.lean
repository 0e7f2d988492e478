/- The law MergeTurns: the other way round. -/
import Derived.Test.YthfdmdjmbbollaaGreatDoorML1
set_option linter.unusedSimpArgs false
set_option linter.unusedVariables false
namespace Go.Proofs.YthfdmdjmbbollaaGreatDoor
open Go.RowKit Go.Maps

namespace Mg
theorem goes_both {b m t : Spo} (h1 : ¬ lk m t = true) (h2 : ¬ lk m b = true) (h3 : ¬ lk t b = true) : goes b m t = if m.w = 1 ∨ t.w = 0 then t else m := by
  rw [goes, if_neg (by rintro (h | h); exact h1 h; exact h2 h), if_neg h3]
theorem stays_both {b m t : Spo} (h1 : ¬ lk m t = true) (h2 : ¬ lk m b = true) (h3 : ¬ lk t b = true) : stays b m t = if m.w = 1 ∨ t.w = 0 then m else t := by
  rw [stays, if_neg (by rintro (h | h); exact h1 h; exact h2 h), if_neg h3]
theorem goes_turn {b m t : Spo} (hm : Ok m) (ht : Ok t) : (goes b m t).w = 0 ↔ (goes b t m).w = 0 := by
  by_cases h1 : lk m t = true
  · rw [goes, if_pos (Or.inl h1), goes, if_pos (Or.inl (lk_symm h1))]
  · have h1' : ¬ lk t m = true := fun h => h1 (lk_symm h)
    by_cases h2 : lk m b = true
    · rw [goes, if_pos (Or.inr h2), goes]
      by_cases h3 : lk t b = true
      · rw [if_pos (Or.inr h3)]
      · rw [if_neg (by rintro (h | h); exact h1' h; exact h3 h), if_pos h2]
    · by_cases h3 : lk t b = true
      · rw [goes, if_neg (by rintro (h | h); exact h1 h; exact h2 h), if_pos h3, goes, if_pos (Or.inr h3)]
      · rw [goes_both h1 h2 h3, goes_both h1' h3 h2]
        have hne : ¬ (m.w = t.w ∧ m.w ≠ 2) := fun ⟨a, b⟩ => h1 (lk_fold hm ht a b)
        rcases hm.w with a | a | a <;> rcases ht.w with c | c | c <;> (first | (exfalso; exact hne ⟨by omega, by omega⟩) | simp [a, c])
theorem stays_turn {b m t : Spo} (hm : Ok m) (ht : Ok t) (hg : (goes b m t).w = 0) : lk (stays b m t) (stays b t m) = true := by
  by_cases h1 : lk m t = true
  · rw [stays, if_pos (Or.inl h1), stays, if_pos (Or.inl (lk_symm h1))]
    exact lk_symm h1
  · have h1' : ¬ lk t m = true := fun h => h1 (lk_symm h)
    by_cases h2 : lk m b = true
    · by_cases h3 : lk t b = true
      · exact absurd (lk_trans h2 (lk_symm h3)) h1
      · rw [stays, if_pos (Or.inr h2), stays, if_neg (by rintro (h | h); exact h1' h; exact h3 h), if_pos h2]
        exact lk_refl _
    · by_cases h3 : lk t b = true
      · rw [stays, if_neg (by rintro (h | h); exact h1 h; exact h2 h), if_pos h3, stays, if_pos (Or.inr h3)]
        exact lk_refl _
      · rw [goes_both h1 h2 h3] at hg
        rw [stays_both h1 h2 h3, stays_both h1' h3 h2]
        have hne : ¬ (m.w = t.w ∧ m.w ≠ 2) := fun ⟨a, b⟩ => h1 (lk_fold hm ht a b)
        rcases hm.w with a | a | a <;> rcases ht.w with c | c | c <;> (first | (exfalso; exact hne ⟨by omega, by omega⟩) | (exfalso; simp [a, c] at hg; done) | simp [a, c, lk_refl])
theorem asi0_nil {B M T : List En} (gB : Pp.Good B) (gM : Pp.Good M) (gT : Pp.Good T) : asi0 B M T = [] ↔ ∀ p, (fG B M T p).w = 0 := by
  constructor
  · intro h p
    rw [← st_asi0 gB.rise (Sp.apart_rise gM.rise) (Sp.apart_rise gT.rise), h]
    rfl
  · intro h
    rw [asi0, sets, List.filterMap_eq_nil_iff]
    intro e _
    rw [set1, if_pos (h _)]
theorem asds_grow {M T N' : List En} {C' : CC} : ∀ (A N : List En) (C : CC), asds M T A (N, C) = some (N', C') → (C' = [] ↔ C = [] ∧ A = [])
  | [], N, C, h => by
    injection h with h
    injection h with e1 e2
    rw [e2]
    simp
  | a :: r, N, C, h => by
    rw [asds] at h
    cases hq : asd M T N a.path.data.toList with
    | none => simp only [hq] at h; cases h
    | some q =>
      simp only [hq] at h
      have := asds_grow r _ _ h
      rw [this]
      simp
theorem mks_grow {M T N' : List En} {C' : CC} {Q : List ByteArray} {N : List En} {C : CC} (h : mks M T Q (N, C) = some (N', C')) (hC : C ≠ []) : C' ≠ [] := by
  refine mks_ind (P := fun _ C => C ≠ []) Q N C hC ?_ N' C' h
  intro q _ N C N' C' h1 hm
  by_cases h2 : (st N q.data.toList).w = 2
  · cases ha : asd M T N q.data.toList with
    | none => rw [mkf_no h2 ha] at hm; cases hm
    | some r =>
      rw [mkf_some h2 ha] at hm
      injection hm with hm
      injection hm with _ e2
      rw [← e2]
      simp
  · rw [mkf_else h2] at hm
    injection hm with hm
    injection hm with _ e2
    rw [← e2]
    exact h1
theorem mks_par {M T M' T' : List En} {X X' : List En} {Y Y' : CC} : ∀ (Q : List ByteArray) (N N' : List En), Sp.Rise N → Sp.Rise N' → (∀ p, lk (st N p) (st N' p) = true) → mks M T Q (N, []) = some (X, Y) → mks M' T' Q (N', []) = some (X', Y') → (Y = [] ↔ Y' = []) ∧ (Y = [] → ∀ p, lk (st X p) (st X' p) = true)
  | [], N, N', _, _, h, h1, h2 => by
    injection h1 with h1
    injection h1 with e1 e2
    injection h2 with h2
    injection h2 with e3 e4
    rw [← e1, ← e2, ← e3, ← e4]
    exact ⟨Iff.rfl, fun _ => h⟩
  | q :: r, N, N', hN, hN', h, h1, h2 => by
    rw [mks] at h1 h2
    have hw := (lk_iff.1 (h q.data.toList)).1
    by_cases hc : (st N q.data.toList).w = 2
    · have hc' : (st N' q.data.toList).w = 2 := by omega
      cases ha : asd M T N q.data.toList with
      | none => rw [mkf_no hc ha] at h1; cases h1
      | some x =>
        cases ha' : asd M' T' N' q.data.toList with
        | none => rw [mkf_no hc' ha'] at h2; cases h2
        | some x' =>
          rw [mkf_some hc ha] at h1
          rw [mkf_some hc' ha'] at h2
          have a1 := mks_grow (M := M) (T := T) h1 (by simp)
          have a2 := mks_grow (M := M') (T := T') h2 (by simp)
          exact ⟨⟨fun e => absurd e a1, fun e => absurd e a2⟩, fun e => absurd e a1⟩
    · have hc' : ¬ (st N' q.data.toList).w = 2 := by omega
      rw [mkf_else hc] at h1
      rw [mkf_else hc'] at h2
      exact mks_par r _ _ (Sp.put1_rise hN) (Sp.put1_rise hN') (fun p => by
        rw [st_put1 hN, st_put1 hN']
        split
        · exact lk_refl _
        · exact h p) h1 h2
theorem allP_like {N N' : List En} (h : N.map strip = N'.map strip) : allP N N.length = allP N' N'.length := by
  have e : ∀ N : List En, allP N N.length = (N.map strip).flatMap (fun e => pres e.path e.path.size) := by
    intro N
    rw [allP, List.take_length, List.flatMap_map]
    rfl
  rw [e, e, h]
theorem like_strips {X Y : List En} (h : X.map strip = Y.map strip) (M T M' T' : List En) : Sp.likeP (outs M T X) (outs M' T' Y) := by
  have hl : X.length = Y.length := by have := congrArg List.length h; simpa using this
  refine ⟨by rw [outs, outs, List.length_map, List.length_map]; exact hl, fun j h1 h2 => ?_⟩
  have hj : j < X.length := by rw [outs, List.length_map] at h1; exact h1
  have hj' : j < Y.length := by omega
  have h3 : (X.map strip)[j]'(by simpa using hj) = (Y.map strip)[j]'(by simpa using hj') := by simp only [h]
  rw [List.getElem_map, List.getElem_map] at h3
  have h4 : (outs M T X)[j] = out1 M T X X[j] := by simp only [outs, List.getElem_map]
  have h5 : (outs M' T' Y)[j] = out1 M' T' Y Y[j] := by simp only [outs, List.getElem_map]
  rw [h4, h5, Sp.likeE_iff]
  exact ⟨by rw [(congrArg En.path h3 : (strip X[j]).path = (strip Y[j]).path) |> fun (e : X[j].path = Y[j].path) => (show (out1 M T X X[j]).path = (out1 M' T' Y Y[j]).path from e)], (congrArg En.folder h3 : (strip X[j]).folder = (strip Y[j]).folder), by rw [show (out1 M T X X[j]).text = (out1 M' T' Y Y[j]).text from (congrArg En.text h3 : (strip X[j]).text = (strip Y[j]).text)]⟩
theorem turns {B M T X X' : List En} {C C' : CC} (gB : Pp.Good B) (gM : Pp.Good M) (gT : Pp.Good T) (h : mrg B M T = some (X, C)) (h' : mrg B T M = some (X', C')) : (C = [] ↔ C' = []) ∧ (C = [] → Sp.likeP X X') := by
  have part : ∀ {B M T X : List En} {C : CC}, mrg B M T = some (X, C) → ∃ N1 C1 N, asds M T (asi0 B M T) (now0 B M T, []) = some (N1, C1) ∧ mks M T (allP N1 N1.length) (N1, C1) = some (N, C) ∧ X = outs M T N := by
    intro B M T X C h
    rw [mrg] at h
    cases hr : run B M T with
    | none => rw [hr] at h; cases h
    | some s =>
      obtain ⟨N, C0⟩ := s
      rw [hr] at h
      have h : (if 60 < N.length then none else some (outs M T N, C0)) = some (X, C) := h
      split at h
      · cases h
      · injection h with h
        injection h with e1 e2
        rw [run] at hr
        cases ha : asds M T (asi0 B M T) (now0 B M T, []) with
        | none => rw [ha] at hr; cases hr
        | some s =>
          obtain ⟨N1, C1⟩ := s
          rw [ha] at hr
          exact ⟨N1, C1, N, rfl, e2 ▸ hr, e1.symm⟩
  obtain ⟨N1, C1, N, a1, a2, a3⟩ := part h
  obtain ⟨N1', C1', N', b1, b2, b3⟩ := part h'
  have hM := Sp.apart_rise gM.rise
  have hT := Sp.apart_rise gT.rise
  have hiff : asi0 B M T = [] ↔ asi0 B T M = [] := by
    rw [asi0_nil gB gM gT, asi0_nil gB gT gM]
    exact ⟨fun h p => (goes_turn (ok_st _ _) (ok_st _ _)).1 (h p), fun h p => (goes_turn (ok_st _ _) (ok_st _ _)).1 (h p)⟩
  by_cases hA : asi0 B M T = []
  · have hA' := hiff.1 hA
    rw [hA] at a1
    rw [hA'] at b1
    injection a1 with a1
    injection a1 with c1 c2
    injection b1 with b1
    injection b1 with d1 d2
    have hr : Sp.Rise (now0 B M T) := sets_rise (uni_rise gB.rise M T)
    have hr' : Sp.Rise (now0 B T M) := sets_rise (uni_rise gB.rise T M)
    have hg := (asi0_nil gB gM gT).1 hA
    have hlk : ∀ p, lk (st (now0 B M T) p) (st (now0 B T M) p) = true := fun p => by
      rw [st_now0 gB.rise hM hT, st_now0 gB.rise hT hM]
      exact stays_turn (ok_st _ _) (ok_st _ _) (hg p)
    rw [← c1, ← c2] at a2
    rw [← d1, ← d2, ← allP_like (strips_eq hr hr' hlk)] at b2
    obtain ⟨e1, e2⟩ := mks_par _ _ _ hr hr' hlk a2 b2
    refine ⟨e1, fun hC => ?_⟩
    rw [a3, b3]
    exact like_strips (strips_eq (mks_rise hr a2) (mks_rise hr' b2) (e2 hC)) _ _ _ _
  · have hA' : asi0 B T M ≠ [] := fun e => hA (hiff.2 e)
    have k1 : C1 ≠ [] := fun e => hA ((asds_grow _ _ _ a1).1 e).2
    have k2 : C1' ≠ [] := fun e => hA' ((asds_grow _ _ _ b1).1 e).2
    have l1 := mks_grow a2 k1
    have l2 := mks_grow b2 k2
    exact ⟨⟨fun e => absurd e l1, fun e => absurd e l2⟩, fun e => absurd e l1⟩
end Mg
end Go.Proofs.YthfdmdjmbbollaaGreatDoor
