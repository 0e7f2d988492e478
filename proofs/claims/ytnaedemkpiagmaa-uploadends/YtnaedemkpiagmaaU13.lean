/- What slices.Delete answers of a row of sessions, one of them. -/
import Derived.Test.YtnaedemkpiagmaaU12
import Derived.Deep.RegionLaw
set_option linter.unusedSimpArgs false
set_option linter.unusedVariables false
namespace Go.Proofs.Ytnaedemkpiagmaa
open Go.RowKit

theorem RowS.setMany {w : World} {g : Nat} {A B C B' : List Se} (h : RowS w g (A ++ B ++ C)) (hl : B'.length = B.length) : RowS (w.setCells g (A.length * 5) (Pp.flatS B')) g (A ++ B' ++ C) := by
  have hfl := Pp.flatS_len B'
  refine ⟨Nat.lt_of_lt_of_le h.1 (Nb.setCells g _ _ w).size, fun j hj c hc => ⟨?_, ?_⟩⟩
  · have hj' : j < (A ++ B ++ C).length := by simp only [List.length_append] at hj ⊢; omega
    by_cases h1 : j < A.length
    · rw [World.cell?_setCells_out g _ _ _ _ (fun _ _ => by simp only; omega), (h.2 j hj' c hc).1]
      simp only [List.append_assoc]
      rw [List.getElem_append_left h1, List.getElem_append_left h1]
    · by_cases h2 : j < A.length + B'.length
      · have ht : (j - A.length) * 5 + c < (Pp.flatS B').length := by rw [hfl]; omega
        have hin := World.cell?_setCells_in g (Pp.flatS B') (A.length * 5) w (fun t ht' => by
          rw [hfl] at ht'
          exact (rowS_some h (by simp only [List.length_append]; omega)).1) _ ht
        rw [show A.length * 5 + ((j - A.length) * 5 + c) = j * 5 + c by omega] at hin
        rw [hin]
        have hg := Pp.flatS_get B' (j - A.length) c (by omega) hc
        rw [List.getElem?_eq_getElem ht] at hg
        rw [hg]
        have e : (A ++ B' ++ C)[j] = B'[j - A.length] := by
          simp only [List.append_assoc]
          rw [List.getElem_append_right (by omega), List.getElem_append_left (by omega)]
        rw [e]
      · rw [World.cell?_setCells_out g _ _ _ _ (fun _ _ => by simp only; rw [hfl]; omega), (h.2 j hj' c hc).1]
        have e : (A ++ B' ++ C)[j] = (A ++ B ++ C)[j] := by
          simp only [List.append_assoc]
          rw [List.getElem_append_right (by omega), List.getElem_append_right (by omega), List.getElem_append_right (by omega), List.getElem_append_right (by omega)]
          congr 1
          omega
        rw [e]
  · rw [World.frozen?_setCells]; exact (h.2 j (by simp only [List.length_append] at hj ⊢; omega) c hc).2

set_option maxRecDepth 100000 in
set_option maxHeartbeats 4000000 in
theorem sdelete_any (A C : List Se) (y : Se) (q cap : Nat) (w : World) (hR : RowS w q (A ++ y :: C)) (hcap : (A ++ y :: C).length ≤ cap) (hm : cap ≤ maxLen) :
    Calls Try.prog 26 #[.slice (some ⟨q, 0, none⟩) (A ++ y :: C).length cap, .int .i64 A.length, .int .i64 ((A.length : Int) + 1)] w fun e w' => e = .returned (.slice (some ⟨q, 0, none⟩) (A ++ C).length cap) ∧ RowS w' q (A ++ C) ∧ w.grownBy w' (some q) ∧ KeepB q w w' := by
  obtain ⟨i0, hi0, hz0, hz1, hz2⟩ := info_parts Try.infoS
  have hmx : cap ≤ 9223372036854775807 := by unfold maxLen at hm; omega
  have hlen : (A ++ y :: C).length = A.length + C.length + 1 := by simp; omega
  obtain ⟨B, z, hBz⟩ : ∃ B z, y :: C = B ++ [z] := ⟨(y :: C).dropLast, (y :: C).getLast (by simp), (List.dropLast_concat_getLast (by simp)).symm⟩
  have hBl : C.length = B.length := by have := congrArg List.length hBz; simp at this; omega
  have hR2 : RowS w q (A ++ B ++ [z]) := by rw [List.append_assoc, ← hBz]; exact hR
  have hm1 : A.length + C.length + 1 - (A.length + 1) = C.length := by omega
  obtain ⟨W1, hW1⟩ : ∃ W1, W1 = w.drew.setCells q (0 + A.length * 5) (Pp.flatS C) := ⟨_, rfl⟩
  have hRd : RowS w.drew q (A ++ B ++ [z]) := hR2.below (Below.refl _ _).drew
  have hR1 : RowS W1 q (A ++ C ++ [z]) := by rw [hW1, Nat.zero_add]; exact hRd.setMany hBl
  have hnb1 : w.grownBy W1 (some q) := by rw [hW1]; exact Nb.trans (Nb.below q (Below.refl _ _).drew) (Nb.setCells q _ _ _)
  have hkb1 : KeepB q w W1 := by rw [hW1]; exact (KeepB.below (Below.refl _ _).drew).trans (KeepB.setCells q _ _ _)
  obtain ⟨wc, hcl, hrc, hnc, hkc⟩ := clearS (A := A ++ C) (X := [z]) hR1 0 (by simp)
  have s1 : Hid ((Pp.flatS C).length = C.length * 5) := (Pp.flatS_len C : (Pp.flatS C).length = C.length * 5)
  have s3 : Hid (∀ t, t < (Pp.flatS C).length → (w.drew.cell? ⟨q, 0 + A.length * 5 + t, none⟩).isSome = true ∧ w.drew.frozen? ⟨q, 0 + A.length * 5 + t, none⟩ = false) := (fun t ht => by
    rw [Pp.flatS_len] at ht
    rw [Nat.zero_add]
    exact rowS_some hRd (by simp only [List.length_append, List.length_singleton]; omega) : ∀ t, t < (Pp.flatS C).length → (w.drew.cell? ⟨q, 0 + A.length * 5 + t, none⟩).isSome = true ∧ w.drew.frozen? ⟨q, 0 + A.length * 5 + t, none⟩ = false)
  have hsrc : C ≠ [] → ∀ t u, (Pp.flatS C)[t]? = some u → w.drew.cell? ((⟨q, (A.length + 1) * 5, none⟩ : Addr).add t) = some u := fun _ => liesS_cells fun i hi => by
    have hi2 : A.length + 1 + i < (A ++ y :: C).length := by omega
    have := (hR.below (Below.refl _ _).drew).at hi2
    rw [show (A.length + 1 + i) * 5 = (A.length + 1) * 5 + i * 5 by omega] at this
    have e : (A ++ y :: C)[A.length + 1 + i] = C[i] := by
      rw [List.getElem_append_right (by omega)]
      simp [show A.length + 1 + i - A.length = i + 1 by omega]
    rw [e] at this
    exact this
  have hACl : (A ++ C).length = A.length + C.length := List.length_append
  rw [hACl] at hcl ⊢
  simp only [List.length_singleton] at hcl
  have HRC := ghid hrc
  have HNC := ghid (Nb.trans hnb1 hnc)
  have HKC := ghid (hkb1.trans hkc)
  have HW := ghid hW1
  have HSRC := ghid hsrc
  clear hrc hnc hkc hnb1 hkb1 hW1 hR1 hRd hR2 hR hsrc hBz hBl
  have hA0 : A.length ≤ cap := by omega
  have hN1 : (0 : Int) ≤ (A.length : Int) + 1 := by omega
  have hN2 : (A.length : Int) ≤ (A.length : Int) + C.length := by omega
  have hA1 : A.length + 1 ≤ cap := by omega
  rw [hlen] at hcap ⊢
  by_cases hcj : cap = A.length + 1
  · have hC0 : C = [] := List.length_eq_zero_iff.1 (by omega)
    subst hC0
    subst hcj
    have hM1 : A.length ≤ A.length + 1 := by omega
    have hM2 : (A.length : Int) ≤ (A.length : Int) + 1 := by omega
    have hM3 : (0 : Int) ≤ (A.length : Int) + 1 := by omega
    simp only [List.length_nil, Nat.add_zero] at *
    go_enter Try.func26, Try.ntmps26
    go_wp2_with fail
    go_region_law (refine step_append_room rfl (.tmp 22) (.tmp 25) 22 rfl 38 i0 5 Try.underlying22 hi0 hz1 q 0 A.length (A.length + 1) (by simp [Act.eval, Act.put]) ⟨q, 0, none⟩ 0 0 (Pp.flatS []) (by simp [Act.eval, Act.put]) rfl (by intro t u hu; simp [Pp.flatS] at hu) (flatS_one []) (by omega) s3.out ?_; rw [← HW.out])
    go_wp2_with fail
    go_ret
    exact ⟨rfl, HRC.out, HNC.out, HKC.out⟩
  · have hsrc2 : Hid (∀ t u, (Pp.flatS C)[t]? = some u → w.drew.cell? ((⟨q, (A.length + 1) * 5, none⟩ : Addr).add t) = some u) := (by
      by_cases hC0 : C = []
      · subst hC0; intro t u hu; simp [Pp.flatS] at hu
      · exact HSRC.out hC0 : ∀ t u, (Pp.flatS C)[t]? = some u → w.drew.cell? ((⟨q, (A.length + 1) * 5, none⟩ : Addr).add t) = some u)
    go_enter Try.func26, Try.ntmps26
    go_wp2_with fail
    go_region_law (refine step_append_room rfl (.tmp 22) (.tmp 25) 22 rfl 38 i0 5 Try.underlying22 hi0 hz1 q 0 A.length cap (by simp [Act.eval, Act.put]) ⟨q, (A.length + 1) * 5, none⟩ C.length (cap - (A.length + 1)) (Pp.flatS C) (by simp [Act.eval, Act.put, hcj]) s1.out hsrc2.out (flatS_one C) (by omega) s3.out ?_; rw [← HW.out])
    go_wp2_with fail
    go_ret
    exact ⟨rfl, HRC.out, HNC.out, HKC.out⟩
end Go.Proofs.Ytnaedemkpiagmaa
