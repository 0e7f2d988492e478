/- What All of changes answers, as plain mathematics: where it stops, its error, what came. -/
import Derived.Test.YtogbahkoijkclaaGreatT24
import Derived.Test.YtogbahkoijkclaaGreatTLiesC
import Derived.Test.YtogbahkoijkclaaGreatTRun
set_option linter.unusedSimpArgs false
set_option linter.unusedVariables false
namespace Go.Proofs.YtogbahkoijkclaaGreat
open Go.RowKit

namespace Pp
/-- All: what is wrong with the tree, then how many there are, then change by change. -/
def allE (L : List En) (cs : List Ch) (n : Int) : Int := if ¬ treeE L = 0 then treeE L else if 20 < cs.length then 2 else (runF n L cs).2.1
def allN (L : List En) (cs : List Ch) (n : Int) : Nat := if ¬ treeE L = 0 then 0 else if 20 < cs.length then 0 else (runF n L cs).1
def allR (L : List En) (cs : List Ch) (n : Int) : List En := if ¬ treeE L = 0 then [] else if 20 < cs.length then [] else (runF n L cs).2.2
theorem all_no {L : List En} (h : ¬ treeE L = 0) (cs : List Ch) (n : Int) : allE L cs n = treeE L ∧ allN L cs n = 0 ∧ allR L cs n = [] := ⟨if_pos h, if_pos h, if_pos h⟩
theorem all_many {L : List En} (h : treeE L = 0) {cs : List Ch} (hm : 20 < cs.length) (n : Int) : allE L cs n = 2 ∧ allN L cs n = 0 ∧ allR L cs n = [] :=
  ⟨by rw [allE, if_neg (fun x => x h), if_pos hm], by rw [allN, if_neg (fun x => x h), if_pos hm], by rw [allR, if_neg (fun x => x h), if_pos hm]⟩
theorem all_run {L : List En} (h : treeE L = 0) {cs : List Ch} (hm : ¬ 20 < cs.length) {n : Int} {k : Nat} {e : Int} {R : List En} (hr : runF n L cs = (k, e, R)) : allE L cs n = e ∧ allN L cs n = k ∧ allR L cs n = R :=
  ⟨by rw [allE, if_neg (fun x => x h), if_neg hm, hr], by rw [allN, if_neg (fun x => x h), if_neg hm, hr], by rw [allR, if_neg (fun x => x h), if_neg hm, hr]⟩
end Pp

theorem runF_nil (n : Int) (L : List En) : Pp.runF n L [] = (0, 0, L) := rfl
end Go.Proofs.YtogbahkoijkclaaGreat
