/- What the reference's ChangeOf answers, where a change has an error of form or of place. -/
import Derived.Test.YtagdilnbbepccaaGreatMJ
set_option linter.unusedSimpArgs false
set_option linter.unusedVariables false
namespace Go.Proofs.YtagdilnbbepccaaGreat
open Go.RowKit

namespace Pp
theorem plc_err {L : List En} {k : Int} {p q t : ByteArray} {b : Int} (hk : 1 ≤ k ∧ k ≤ 4) (h : ¬ plcE L ⟨k, p, q, t, b⟩ = 0) :
    (¬ foldE L (par (goal ⟨k, p, q, t, b⟩)) = 0 ∧ plcE L ⟨k, p, q, t, b⟩ = foldE L (par (goal ⟨k, p, q, t, b⟩))) ∨
    (foldE L (par (goal ⟨k, p, q, t, b⟩)) = 0 ∧ (
      (k = 1 ∧ (∃ j, ∃ h : j < L.length, idx L p.data.toList = (j : Int)) ∧ 6 = plcE L ⟨k, p, q, t, b⟩) ∨
      (k = 2 ∧ (∃ j, ∃ h : j < L.length, idx L p.data.toList = (j : Int) ∧ (L[j]).folder = true) ∧ 4 = plcE L ⟨k, p, q, t, b⟩) ∨
      ((k = 3 ∨ k = 4) ∧ idx L p.data.toList = -1 ∧ 5 = plcE L ⟨k, p, q, t, b⟩) ∨
      (k = 3 ∧ (∃ j, ∃ h : j < L.length, idx L p.data.toList = (j : Int)) ∧ isInB q.data.toList p.data.toList = true ∧ 3 = plcE L ⟨k, p, q, t, b⟩) ∨
      (k = 3 ∧ (∃ j, ∃ h : j < L.length, idx L p.data.toList = (j : Int)) ∧ isInB q.data.toList p.data.toList = false ∧ (∃ j, ∃ h : j < L.length, idx L q.data.toList = (j : Int)) ∧ 6 = plcE L ⟨k, p, q, t, b⟩))) := by
  by_cases hf : foldE L (par (goal ⟨k, p, q, t, b⟩)) = 0
  · refine Or.inr ⟨hf, ?_⟩
    have hE : plcE L ⟨k, p, q, t, b⟩ = match L.find? (atB p.data.toList) with
      | none => if k = 3 ∨ k = 4 then 5 else 0
      | some x => if k = 1 then 6 else if k = 2 then (if x.folder = true then 4 else 0)
        else if k = 3 then (if isInB q.data.toList p.data.toList = true then 3 else if (L.find? (atB q.data.toList)).isSome = true then 6 else 0) else 0 := by
      rw [plcE, if_neg (fun x => x hf)]; rfl
    rcases idx_cases L p.data.toList with ⟨hi, hn⟩ | ⟨j, hj, hi, hn⟩
    · rw [hn] at hE
      have h34 : k = 3 ∨ k = 4 := by
        by_cases h34 : k = 3 ∨ k = 4
        · exact h34
        · rw [hE] at h; simp [h34] at h
      exact Or.inr (Or.inr (Or.inl ⟨h34, hi, by rw [hE]; simp only [if_pos h34]⟩))
    · rw [hn] at hE
      have h4 : k = 1 ∨ k = 2 ∨ k = 3 ∨ k = 4 := by omega
      rcases h4 with rfl | rfl | rfl | rfl
      · exact Or.inl ⟨rfl, ⟨j, hj, hi⟩, by rw [hE]; rfl⟩
      · cases hx : (L[j]).folder with
        | true => exact Or.inr (Or.inl ⟨rfl, ⟨j, hj, hi, hx⟩, by rw [hE]; simp [hx]⟩)
        | false => rw [hE] at h; simp [hx] at h
      · cases hx : isInB q.data.toList p.data.toList with
        | true => exact Or.inr (Or.inr (Or.inr (Or.inl ⟨rfl, ⟨j, hj, hi⟩, rfl, by rw [hE]; simp [hx]⟩)))
        | false =>
          rcases idx_cases L q.data.toList with ⟨hi2, hn2⟩ | ⟨j2, hj2, hi2, hn2⟩
          · rw [hE] at h; simp [hx, hn2] at h
          · exact Or.inr (Or.inr (Or.inr (Or.inr ⟨rfl, ⟨j, hj, hi⟩, rfl, ⟨j2, hj2, hi2⟩, by rw [hE]; simp [hx, hn2]⟩)))
      · rw [hE] at h; simp at h
  · exact Or.inl ⟨hf, by rw [plcE, if_pos hf]⟩
theorem plc_ok {L : List En} {k : Int} {p q t : ByteArray} {b : Int} (hk : 1 ≤ k ∧ k ≤ 4) (h : plcE L ⟨k, p, q, t, b⟩ = 0) :
    foldE L (par (goal ⟨k, p, q, t, b⟩)) = 0 ∧ (
      (k = 1 ∧ idx L p.data.toList = -1) ∨ (k = 2 ∧ idx L p.data.toList = -1) ∨
      (k = 2 ∧ ∃ j, ∃ h : j < L.length, idx L p.data.toList = (j : Int) ∧ (L[j]).folder = false) ∨
      (k = 3 ∧ (∃ j, ∃ h : j < L.length, idx L p.data.toList = (j : Int)) ∧ isInB q.data.toList p.data.toList = false ∧ idx L q.data.toList = -1 ∧ L.find? (atB q.data.toList) = none) ∨
      (k = 4 ∧ ∃ j, ∃ h : j < L.length, idx L p.data.toList = (j : Int))) := by
  have hf := plc_fold h
  refine ⟨hf, ?_⟩
  have hE : plcE L ⟨k, p, q, t, b⟩ = match L.find? (atB p.data.toList) with
    | none => if k = 3 ∨ k = 4 then 5 else 0
    | some x => if k = 1 then 6 else if k = 2 then (if x.folder = true then 4 else 0)
      else if k = 3 then (if isInB q.data.toList p.data.toList = true then 3 else if (L.find? (atB q.data.toList)).isSome = true then 6 else 0) else 0 := by
    rw [plcE, if_neg (fun x => x hf)]; rfl
  rw [hE] at h
  have h4 : k = 1 ∨ k = 2 ∨ k = 3 ∨ k = 4 := by omega
  rcases idx_cases L p.data.toList with ⟨hi, hn⟩ | ⟨j, hj, hi, hn⟩
  · rw [hn] at h
    rcases h4 with rfl | rfl | rfl | rfl
    · exact Or.inl ⟨rfl, hi⟩
    · exact Or.inr (Or.inl ⟨rfl, hi⟩)
    · simp at h
    · simp at h
  · rw [hn] at h
    rcases h4 with rfl | rfl | rfl | rfl
    · simp at h
    · cases hx : (L[j]).folder with
      | true => simp [hx] at h
      | false => exact Or.inr (Or.inr (Or.inl ⟨rfl, j, hj, hi, hx⟩))
    · cases hx : isInB q.data.toList p.data.toList with
      | true => simp [hx] at h
      | false =>
        rcases idx_cases L q.data.toList with ⟨hi2, hn2⟩ | ⟨j2, hj2, hi2, hn2⟩
        · exact Or.inr (Or.inr (Or.inr (Or.inl ⟨rfl, ⟨j, hj, hi⟩, rfl, hi2, hn2⟩)))
        · simp [hx, hn2] at h
    · exact Or.inr (Or.inr (Or.inr (Or.inr ⟨rfl, j, hj, hi⟩)))
end Pp

set_option maxRecDepth 100000 in
set_option maxHeartbeats 1000000 in
theorem changeOf_form (L : List En) (v : Value) (k : Int) (p q t : ByteArray) (b n : Int) (w : World) (hp : p.size ≤ 1000000000) (hq : q.size ≤ 1000000000) (ht : t.size ≤ 1000000000) (hc : ¬ Pp.chgE ⟨k, p, q, t, b⟩ = 0) :
    Calls Tryz.prog 53 #[v, .agg #[.int .i64 k, .string p, .string q, .string t, .int .i64 b], .int .i64 n] w fun e w' => e = .returned (.tuple #[.slice none 0 0, .int .i64 (Pp.chgE ⟨k, p, q, t, b⟩)]) ∧ Below w.heap.size w w' := by
  have hz : (Pp.chgE ⟨k, p, q, t, b⟩ == 0) = false := by simpa using hc
  go_enter Tryz.func53, Tryz.ntmps53
  go_wp2_with fail
  refine (changeForm_any k p q t b _ hp hq (by omega)).mono ?_
  rintro e w1 ⟨rfl, hb1⟩
  obtain ⟨c0, c1, c2, c3, c4, hbw, hlt⟩ := bx5 hb1
  clear hb1
  go_wp2_with fail
  go_ret2
  exact ⟨rfl, hbw⟩

set_option maxRecDepth 100000 in
set_option maxHeartbeats 2000000 in
theorem changeOf_place (L : List En) (v : Value) (k : Int) (p q t : ByteArray) (b n : Int) (w : World) (hv : Lies w v L) (hp : p.size ≤ 1000000000) (hq : q.size ≤ 1000000000) (ht : t.size ≤ 1000000000) (hc : Pp.chgE ⟨k, p, q, t, b⟩ = 0) (hpl : ¬ Pp.plcE L ⟨k, p, q, t, b⟩ = 0) :
    Calls Tryz.prog 53 #[v, .agg #[.int .i64 k, .string p, .string q, .string t, .int .i64 b], .int .i64 n] w fun e w' => e = .returned (.tuple #[.slice none 0 0, .int .i64 (Pp.plcE L ⟨k, p, q, t, b⟩)]) ∧ Below w.heap.size w w' := by
  have HV := hid hv
  have HC := hid hc
  have hk : 1 ≤ k ∧ k ≤ 4 := Pp.chg_kind hc
  rcases Pp.plc_err hk hpl with ⟨h0, hE⟩ | ⟨h0, hr⟩
  · rw [hE]
    have hz : (Pp.foldE L (Pp.par (Pp.goal ⟨k, p, q, t, b⟩)) == 0) = false := by simpa using h0
    clear hE h0 hpl hc hv
    by_cases h3 : k = 3
    · subst h3
      have hg : Pp.goal ⟨3, p, q, t, b⟩ = q.data.toList := rfl
      rw [hg] at hz ⊢
      clear hg hk
      go_enter Tryz.func53, Tryz.ntmps53
      go_wp2_with fail
      refine (changeForm_any 3 p q t b _ hp hq (by omega)).mono ?_
      rintro e w1 ⟨rfl, hb1⟩
      rw [HC.out]
      obtain ⟨c0, c1, c2, c3, c4, hbw, hlt⟩ := bx5 hb1
      go_wp2_with fail
      refine (parentOf_any q _ hq).mono ?_
      rintro e w2 ⟨rfl, hb2⟩
      have hb02 := hbw.trans (hb2.mono (Nat.le_of_lt hlt))
      clear c0 c1 c2 c3 c4 hbw hlt hb1 hb2
      go_wp2_with fail
      refine (isFolder_any L v ⟨(Pp.par q.data.toList).toArray⟩ _ (HV.out.below hb02)).mono ?_
      rintro e w3 ⟨rfl, hb3⟩
      rw [show Pp.foldE L _ = Pp.foldE L (Pp.par q.data.toList) from rfl]
      have hb03 := hb02.trans (hb3.mono hb02.size)
      clear hb02 hb3
      go_wp2
      go_ret2
      exact ⟨rfl, hb03⟩
    · have hg : Pp.goal ⟨k, p, q, t, b⟩ = p.data.toList := if_neg h3
      have h3' : (k == 3) = false := by simpa using h3
      rw [hg] at hz ⊢
      clear hg hk
      go_enter Tryz.func53, Tryz.ntmps53
      go_wp2_with fail
      refine (changeForm_any k p q t b _ hp hq (by omega)).mono ?_
      rintro e w1 ⟨rfl, hb1⟩
      rw [HC.out]
      obtain ⟨c0, c1, c2, c3, c4, hbw, hlt⟩ := bx5 hb1
      go_wp2_with fail
      refine (parentOf_any p _ hp).mono ?_
      rintro e w2 ⟨rfl, hb2⟩
      have hb02 := hbw.trans (hb2.mono (Nat.le_of_lt hlt))
      clear c0 c1 c2 c3 c4 hbw hlt hb1 hb2
      go_wp2_with fail
      refine (isFolder_any L v ⟨(Pp.par p.data.toList).toArray⟩ _ (HV.out.below hb02)).mono ?_
      rintro e w3 ⟨rfl, hb3⟩
      rw [show Pp.foldE L _ = Pp.foldE L (Pp.par p.data.toList) from rfl]
      have hb03 := hb02.trans (hb3.mono hb02.size)
      clear hb02 hb3
      go_wp2
      go_ret2
      exact ⟨rfl, hb03⟩
  · have H0 : Hid (Pp.foldE L (Pp.par (Pp.goal ⟨k, p, q, t, b⟩)) = 0) := h0
    clear hpl hc h0
    rcases hr with ⟨rfl, ⟨j, hj, hi⟩, hE⟩ | ⟨rfl, ⟨j, hj, hi, hx⟩, hE⟩ | ⟨rfl | rfl, hi, hE⟩ | ⟨rfl, ⟨j, hj, hi⟩, hx, hE⟩ | ⟨rfl, ⟨j, hj, hi⟩, hx, ⟨j2, hj2, hi2⟩, hE⟩
    · have H0' : Hid (Pp.foldE L (Pp.par p.data.toList) = 0) := H0.out
      have HI := hid hi
      rw [← hE]
      clear hE hi hv
      go_enter Tryz.func53, Tryz.ntmps53
      go_wp2_with fail
      refine (changeForm_any _ p q t b _ hp hq (by omega)).mono ?_
      rintro e w1 ⟨rfl, hb1⟩
      rw [HC.out]
      obtain ⟨c0, c1, c2, c3, c4, hbw, hlt⟩ := bx5 hb1
      go_wp2_with fail
      refine (parentOf_any p _ hp).mono ?_
      rintro e w2 ⟨rfl, hb2⟩
      have hb02 := hb1.trans (hb2.mono hb1.size)
      clear c0 c1 c2 c3 c4 hbw hlt hb1 hb2
      obtain ⟨c0, c1, c2, c3, c4, hbw, hlt⟩ := bx5 hb02
      go_wp2_with fail
      refine (isFolder_any L v ⟨(Pp.par p.data.toList).toArray⟩ _ (HV.out.below hbw)).mono ?_
      rintro e w3 ⟨rfl, hb3⟩
      rw [show Pp.foldE L _ = 0 from H0'.out]
      have hb03 := hb02.trans (hb3.mono hb02.size)
      clear c0 c1 c2 c3 c4 hbw hlt hb02 hb3
      obtain ⟨c0, c1, c2, c3, c4, hbw, hlt⟩ := bx5 hb03
      go_wp2_with fail
      refine (entryAt_any L v p _ (HV.out.below hbw)).mono ?_
      rintro e w4 ⟨rfl, hb4⟩
      rw [HI.out]
      have hb04 := hb03.trans (hb4.mono hb03.size)
      clear c0 c1 c2 c3 c4 hbw hlt hb03 hb4
      obtain ⟨c0, c1, c2, c3, c4, hbw, hlt⟩ := bx5 hb04
      clear hb04
      go_wp2
      go_ret2
      exact ⟨rfl, hbw⟩
    · have H0' : Hid (Pp.foldE L (Pp.par p.data.toList) = 0) := H0.out
      have HI := hid hi
      rw [← hE]
      clear hE hi
      obtain ⟨a, cap, rfl, hcap, hcap2, hL⟩ := hv
      obtain ⟨b', o', rfl, hb', he⟩ := hL j hj
      have hjj : (j : Int) < L.length := by omega
      clear hL
      go_enter Tryz.func53, Tryz.ntmps53
      go_wp2_with fail
      refine (changeForm_any _ p q t b _ hp hq (by omega)).mono ?_
      rintro e w1 ⟨rfl, hb1⟩
      rw [HC.out]
      obtain ⟨c0, c1, c2, c3, c4, hbw, hlt⟩ := bx5 hb1
      go_wp2_with fail
      refine (parentOf_any p _ hp).mono ?_
      rintro e w2 ⟨rfl, hb2⟩
      have hb02 := hb1.trans (hb2.mono hb1.size)
      clear c0 c1 c2 c3 c4 hbw hlt hb1 hb2
      obtain ⟨c0, c1, c2, c3, c4, hbw, hlt⟩ := bx5 hb02
      go_wp2_with fail
      refine (isFolder_any L _ ⟨(Pp.par p.data.toList).toArray⟩ _ (HV.out.below hbw)).mono ?_
      rintro e w3 ⟨rfl, hb3⟩
      rw [show Pp.foldE L _ = 0 from H0'.out]
      have hb03 := hb02.trans (hb3.mono hb02.size)
      clear c0 c1 c2 c3 c4 hbw hlt hb02 hb3
      obtain ⟨c0, c1, c2, c3, c4, hbw, hlt⟩ := bx5 hb03
      go_wp2_with fail
      refine (entryAt_any L _ p _ (HV.out.below hbw)).mono ?_
      rintro e w4 ⟨rfl, hb4⟩
      rw [HI.out]
      have hb04 := hb03.trans (hb4.mono hb03.size)
      clear c0 c1 c2 c3 c4 hbw hlt hb03 hb4
      obtain ⟨c0, c1, c2, c3, c4, hbw, hlt⟩ := bx5 hb04
      obtain ⟨d0, d1, d2, d3⟩ := he.below hb' hbw
      rw [hx] at d1
      clear hb04 hx d0 d2 d3
      go_wp2
      go_ret2
      exact ⟨rfl, hbw⟩
    · have H0' : Hid (Pp.foldE L (Pp.par q.data.toList) = 0) := H0.out
      have HI := hid hi
      rw [← hE]
      clear hE hi hv
      go_enter Tryz.func53, Tryz.ntmps53
      go_wp2_with fail
      refine (changeForm_any _ p q t b _ hp hq (by omega)).mono ?_
      rintro e w1 ⟨rfl, hb1⟩
      rw [HC.out]
      obtain ⟨c0, c1, c2, c3, c4, hbw, hlt⟩ := bx5 hb1
      go_wp2_with fail
      refine (parentOf_any q _ hq).mono ?_
      rintro e w2 ⟨rfl, hb2⟩
      have hb02 := hb1.trans (hb2.mono hb1.size)
      clear c0 c1 c2 c3 c4 hbw hlt hb1 hb2
      obtain ⟨c0, c1, c2, c3, c4, hbw, hlt⟩ := bx5 hb02
      go_wp2_with fail
      refine (isFolder_any L v ⟨(Pp.par q.data.toList).toArray⟩ _ (HV.out.below hbw)).mono ?_
      rintro e w3 ⟨rfl, hb3⟩
      rw [show Pp.foldE L _ = 0 from H0'.out]
      have hb03 := hb02.trans (hb3.mono hb02.size)
      clear c0 c1 c2 c3 c4 hbw hlt hb02 hb3
      obtain ⟨c0, c1, c2, c3, c4, hbw, hlt⟩ := bx5 hb03
      go_wp2_with fail
      refine (entryAt_any L v p _ (HV.out.below hbw)).mono ?_
      rintro e w4 ⟨rfl, hb4⟩
      rw [HI.out]
      have hb04 := hb03.trans (hb4.mono hb03.size)
      clear c0 c1 c2 c3 c4 hbw hlt hb03 hb4
      obtain ⟨c0, c1, c2, c3, c4, hbw, hlt⟩ := bx5 hb04
      clear hb04
      go_wp2
      go_ret2
      exact ⟨rfl, hbw⟩
    · have H0' : Hid (Pp.foldE L (Pp.par p.data.toList) = 0) := H0.out
      have HI := hid hi
      rw [← hE]
      clear hE hi hv
      go_enter Tryz.func53, Tryz.ntmps53
      go_wp2_with fail
      refine (changeForm_any _ p q t b _ hp hq (by omega)).mono ?_
      rintro e w1 ⟨rfl, hb1⟩
      rw [HC.out]
      obtain ⟨c0, c1, c2, c3, c4, hbw, hlt⟩ := bx5 hb1
      go_wp2_with fail
      refine (parentOf_any p _ hp).mono ?_
      rintro e w2 ⟨rfl, hb2⟩
      have hb02 := hb1.trans (hb2.mono hb1.size)
      clear c0 c1 c2 c3 c4 hbw hlt hb1 hb2
      obtain ⟨c0, c1, c2, c3, c4, hbw, hlt⟩ := bx5 hb02
      go_wp2_with fail
      refine (isFolder_any L v ⟨(Pp.par p.data.toList).toArray⟩ _ (HV.out.below hbw)).mono ?_
      rintro e w3 ⟨rfl, hb3⟩
      rw [show Pp.foldE L _ = 0 from H0'.out]
      have hb03 := hb02.trans (hb3.mono hb02.size)
      clear c0 c1 c2 c3 c4 hbw hlt hb02 hb3
      obtain ⟨c0, c1, c2, c3, c4, hbw, hlt⟩ := bx5 hb03
      go_wp2_with fail
      refine (entryAt_any L v p _ (HV.out.below hbw)).mono ?_
      rintro e w4 ⟨rfl, hb4⟩
      rw [HI.out]
      have hb04 := hb03.trans (hb4.mono hb03.size)
      clear c0 c1 c2 c3 c4 hbw hlt hb03 hb4
      obtain ⟨c0, c1, c2, c3, c4, hbw, hlt⟩ := bx5 hb04
      clear hb04
      go_wp2
      go_ret2
      exact ⟨rfl, hbw⟩
    · have H0' : Hid (Pp.foldE L (Pp.par q.data.toList) = 0) := H0.out
      have HI := hid hi
      have HX := hid hx
      rw [← hE]
      clear hE hi hv hx
      go_enter Tryz.func53, Tryz.ntmps53
      go_wp2_with fail
      refine (changeForm_any _ p q t b _ hp hq (by omega)).mono ?_
      rintro e w1 ⟨rfl, hb1⟩
      rw [HC.out]
      obtain ⟨c0, c1, c2, c3, c4, hbw, hlt⟩ := bx5 hb1
      go_wp2_with fail
      refine (parentOf_any q _ hq).mono ?_
      rintro e w2 ⟨rfl, hb2⟩
      have hb02 := hb1.trans (hb2.mono hb1.size)
      clear c0 c1 c2 c3 c4 hbw hlt hb1 hb2
      obtain ⟨c0, c1, c2, c3, c4, hbw, hlt⟩ := bx5 hb02
      go_wp2_with fail
      refine (isFolder_any L v ⟨(Pp.par q.data.toList).toArray⟩ _ (HV.out.below hbw)).mono ?_
      rintro e w3 ⟨rfl, hb3⟩
      rw [show Pp.foldE L _ = 0 from H0'.out]
      have hb03 := hb02.trans (hb3.mono hb02.size)
      clear c0 c1 c2 c3 c4 hbw hlt hb02 hb3
      obtain ⟨c0, c1, c2, c3, c4, hbw, hlt⟩ := bx5 hb03
      go_wp2_with fail
      refine (entryAt_any L v p _ (HV.out.below hbw)).mono ?_
      rintro e w4 ⟨rfl, hb4⟩
      rw [HI.out]
      have hb04 := hb03.trans (hb4.mono hb03.size)
      clear c0 c1 c2 c3 c4 hbw hlt hb03 hb4
      obtain ⟨c0, c1, c2, c3, c4, hbw, hlt⟩ := bx5 hb04
      go_wp2_with fail
      refine (isIn_any q p _ hq hp).mono ?_
      rintro e w5 ⟨rfl, hb5⟩
      rw [HX.out]
      have hb05 := hb04.trans (hb5.mono hb04.size)
      clear c0 c1 c2 c3 c4 hbw hlt hb04 hb5
      obtain ⟨c0, c1, c2, c3, c4, hbw, hlt⟩ := bx5 hb05
      clear hb05
      go_wp2
      go_ret2
      exact ⟨rfl, hbw⟩
    · have H0' : Hid (Pp.foldE L (Pp.par q.data.toList) = 0) := H0.out
      have HI := hid hi
      have HI2 := hid hi2
      have HX := hid hx
      rw [← hE]
      clear hE hi hv hx hi2
      go_enter Tryz.func53, Tryz.ntmps53
      go_wp2_with fail
      refine (changeForm_any _ p q t b _ hp hq (by omega)).mono ?_
      rintro e w1 ⟨rfl, hb1⟩
      rw [HC.out]
      obtain ⟨c0, c1, c2, c3, c4, hbw, hlt⟩ := bx5 hb1
      go_wp2_with fail
      refine (parentOf_any q _ hq).mono ?_
      rintro e w2 ⟨rfl, hb2⟩
      have hb02 := hb1.trans (hb2.mono hb1.size)
      clear c0 c1 c2 c3 c4 hbw hlt hb1 hb2
      obtain ⟨c0, c1, c2, c3, c4, hbw, hlt⟩ := bx5 hb02
      go_wp2_with fail
      refine (isFolder_any L v ⟨(Pp.par q.data.toList).toArray⟩ _ (HV.out.below hbw)).mono ?_
      rintro e w3 ⟨rfl, hb3⟩
      rw [show Pp.foldE L _ = 0 from H0'.out]
      have hb03 := hb02.trans (hb3.mono hb02.size)
      clear c0 c1 c2 c3 c4 hbw hlt hb02 hb3
      obtain ⟨c0, c1, c2, c3, c4, hbw, hlt⟩ := bx5 hb03
      go_wp2_with fail
      refine (entryAt_any L v p _ (HV.out.below hbw)).mono ?_
      rintro e w4 ⟨rfl, hb4⟩
      rw [HI.out]
      have hb04 := hb03.trans (hb4.mono hb03.size)
      clear c0 c1 c2 c3 c4 hbw hlt hb03 hb4
      obtain ⟨c0, c1, c2, c3, c4, hbw, hlt⟩ := bx5 hb04
      go_wp2_with fail
      refine (isIn_any q p _ hq hp).mono ?_
      rintro e w5 ⟨rfl, hb5⟩
      rw [HX.out]
      have hb05 := hb04.trans (hb5.mono hb04.size)
      clear c0 c1 c2 c3 c4 hbw hlt hb04 hb5
      obtain ⟨c0, c1, c2, c3, c4, hbw, hlt⟩ := bx5 hb05
      go_wp2_with fail
      refine (entryAt_any L v q _ (HV.out.below hbw)).mono ?_
      rintro e w6 ⟨rfl, hb6⟩
      rw [HI2.out]
      have hb06 := hb05.trans (hb6.mono hb05.size)
      clear c0 c1 c2 c3 c4 hbw hlt hb05 hb6
      obtain ⟨c0, c1, c2, c3, c4, hbw, hlt⟩ := bx5 hb06
      clear hb06
      go_wp2
      go_ret2
      exact ⟨rfl, hbw⟩
end Go.Proofs.YtagdilnbbepccaaGreat
