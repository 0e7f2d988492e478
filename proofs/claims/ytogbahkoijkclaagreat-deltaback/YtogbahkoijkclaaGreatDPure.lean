/- What Patch answers, as plain mathematics. -/
import Derived.Test.YtogbahkoijkclaaGreatTAll
set_option linter.unusedSimpArgs false
set_option linter.unusedVariables false
namespace Go.Proofs.YtogbahkoijkclaaGreat
open Go.RowKit

namespace Pp
def patE (L : List En) (cs : List Ch) (n : Int) : Int := if ¬ treeE L = 0 then treeE L else if 120 < cs.length then 2 else (runF n L cs).2.1
def patR (L : List En) (cs : List Ch) (n : Int) : List En := if ¬ treeE L = 0 then [] else if 120 < cs.length then [] else (runF n L cs).2.2
theorem pat_no {L : List En} (h : ¬ treeE L = 0) (cs : List Ch) (n : Int) : patE L cs n = treeE L ∧ patR L cs n = [] := ⟨if_pos h, if_pos h⟩
theorem pat_many {L : List En} (h : treeE L = 0) {cs : List Ch} (hm : 120 < cs.length) (n : Int) : patE L cs n = 2 ∧ patR L cs n = [] :=
  ⟨by rw [patE, if_neg (fun x => x h), if_pos hm], by rw [patR, if_neg (fun x => x h), if_pos hm]⟩
theorem pat_run {L : List En} (h : treeE L = 0) {cs : List Ch} (hm : ¬ 120 < cs.length) {n : Int} {k : Nat} {e : Int} {R : List En} (hr : runF n L cs = (k, e, R)) : patE L cs n = e ∧ patR L cs n = R :=
  ⟨by rw [patE, if_neg (fun x => x h), if_neg hm, hr], by rw [patR, if_neg (fun x => x h), if_neg hm, hr]⟩
theorem patR_ifz (L : List En) (cs : List Ch) (n : Int) : patR L cs n = ifz (patE L cs n) (patR L cs n) := by
  by_cases h : patE L cs n = 0
  · rw [ifz_yes h]
  · rw [ifz_no h]
    by_cases ht : treeE L = 0
    · by_cases hm : 120 < cs.length
      · exact (pat_many ht hm n).2
      · rw [patE, if_neg (fun x => x ht), if_neg hm] at h
        rw [patR, if_neg (fun x => x ht), if_neg hm]
        have : ∀ (cs : List Ch) (T : List En), ¬ (runF n T cs).2.1 = 0 → (runF n T cs).2.2 = [] := by
          intro cs
          induction cs with
          | nil => intro T h; exact absurd rfl h
          | cons c r ih =>
            intro T h
            rw [runF] at h ⊢
            by_cases h0 : appE T c n = 0
            · rw [if_pos h0] at h ⊢
              exact ih _ h
            · rw [if_neg h0]
        exact this cs L h
    · exact (pat_no ht cs n).2
theorem good_sizedD {R : List En} (hR : Good R) : Sized R := fun e he => by
  have h1 := chk_len (entE_path (hR.ents e he))
  have h2 := hR.ents e he
  refine ⟨by rw [Lib.size_eq]; omega, ?_⟩
  rw [entE, if_pos (entE_path h2)] at h2
  split at h2
  · cases h2
  · split at h2
    · cases h2
    · omega
end Pp
end Go.Proofs.YtogbahkoijkclaaGreat
