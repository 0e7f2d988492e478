/- What the law TreeGoes says, as plain mathematics. -/
import Derived.Test.YtgbokcmmknabcabT24
import Derived.Test.YtgbokcmmknabcabT14
set_option linter.unusedSimpArgs false
set_option linter.unusedVariables false
namespace Go.Proofs.Ytgbokcmmknabcab.Pp

theorem app_parts {L : List En} {c : Ch} {n : Int} (h : appE L c n = 0) : verE n = 0 ∧ chgE c = 0 ∧ plcE L c = 0 ∧ stl L c = false ∧ chdE L c n = 0 := by
  have hv : verE n = 0 := by
    by_cases h1 : verE n = 0
    · exact h1
    · rw [app_ver h1] at h; exact h
  have hc : chgE c = 0 := by
    by_cases h1 : chgE c = 0
    · exact h1
    · rw [app_chg hv h1] at h; exact h
  have hp : plcE L c = 0 := by
    by_cases h1 : plcE L c = 0
    · exact h1
    · rw [app_plc hv hc h1] at h; exact h
  cases hs : stl L c with
  | true => rw [app_stl hv hc hp hs] at h; cases h
  | false => exact ⟨hv, hc, hp, rfl, by rw [app_chd hv hc hp hs] at h; exact h⟩
/-- All else is there as it was, but what the change is about. -/
theorem else_kept {L : List En} {c : Ch} {n : Int} (hk : 1 ≤ c.k ∧ c.k ≤ 4) {x : En} (hx : x ∈ L) (h1 : isInB x.path.data.toList c.p.data.toList = false) : x ∈ chdR L c n := by
  rw [chdR]
  split
  · rw [(ins_perm _ _).mem_iff, List.mem_cons]
    refine Or.inr (mem_outE.2 ⟨hx, fun e => ?_⟩)
    have e' : x.path.data.toList = c.p.data.toList := e
    rw [e', isIn_refl] at h1; cases h1
  · split
    · rw [(insAll_perm _ _).mem_iff, List.mem_append]
      exact Or.inl (mem_keptL.2 ⟨hx, h1⟩)
    · exact mem_keptL.2 ⟨hx, h1⟩
theorem find_good {R : List En} (hR : Good R) {x : En} (hx : x ∈ R) : findX R x.path.data.toList = x ∧ findR R x.path.data.toList = 0 := by
  have ht := (good_iff R).2 hR
  have hc := entE_path (hR.ents x hx)
  have hf := sorted_find hR.rise hx
  exact ⟨by rw [findX, if_pos ht, if_pos hc, hf], by rw [findR, if_pos ht, if_pos hc, hf]⟩
theorem good_sized {R : List En} (hR : Good R) : Sized R := fun e he => by
  have h1 := chk_len (entE_path (hR.ents e he))
  have h2 := hR.ents e he
  refine ⟨by rw [Lib.size_eq]; omega, ?_⟩
  rw [entE, if_pos (entE_path h2)] at h2
  split at h2
  · cases h2
  · split at h2
    · cases h2
    · omega
theorem written {L : List En} {c : Ch} {n : Int} (h2 : c.k = 2) : newE c n ∈ chdR L c n := by
  rw [chdR, if_pos (Or.inr h2), (ins_perm _ _).mem_iff]; simp
end Go.Proofs.Ytgbokcmmknabcab.Pp
