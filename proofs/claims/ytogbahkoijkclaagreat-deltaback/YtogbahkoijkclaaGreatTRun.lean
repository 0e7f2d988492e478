/- Changes made one after the other, as plain mathematics. -/
import Derived.Test.YtogbahkoijkclaaGreatTPure3
set_option linter.unusedSimpArgs false
set_option linter.unusedVariables false
namespace Go.Proofs.YtogbahkoijkclaaGreat
open Go.RowKit

namespace Pp
/-- Change by change: how many were made, the error, and what came. -/
def runF (n : Int) : List En → List Ch → Nat × Int × List En
  | T, [] => (0, 0, T)
  | T, c :: r => if appE T c n = 0 then ((runF n (chdR T c n) r).1 + 1, (runF n (chdR T c n) r).2) else (0, appE T c n, [])
/-- What is left to do behind the first changes. -/
def Left (n : Int) (L : List En) (cs : List Ch) (S : List En) (k : Nat) : Prop := runF n L cs = ((runF n S (cs.drop k)).1 + k, (runF n S (cs.drop k)).2)
theorem left_zero (n : Int) (L : List En) (cs : List Ch) : Left n L cs L 0 := rfl
theorem left_next {n : Int} {L : List En} {cs : List Ch} {S : List En} {k : Nat} (h : Left n L cs S k) (hk : k < cs.length) (h0 : appE S cs[k] n = 0) : Left n L cs (chdR S cs[k] n) (k + 1) := by
  rw [Left] at h ⊢
  rw [List.drop_eq_getElem_cons hk, runF, if_pos h0] at h
  rw [h]
  simp only [Prod.mk.injEq, and_true]
  omega
theorem left_stop {n : Int} {L : List En} {cs : List Ch} {S : List En} {k : Nat} (h : Left n L cs S k) (hk : k < cs.length) (h0 : ¬ appE S cs[k] n = 0) : runF n L cs = (k, appE S cs[k] n, []) := by
  rw [Left, List.drop_eq_getElem_cons hk, runF, if_neg h0] at h
  rw [h]; simp
theorem left_end {n : Int} {L : List En} {cs : List Ch} {S : List En} (h : Left n L cs S cs.length) : runF n L cs = (cs.length, 0, S) := by
  rw [Left, List.drop_length, runF] at h
  rw [h]; simp
def Runs (n : Int) (L : List En) (cs : List Ch) (S : List En) : Prop := (runF n L cs).2 = (0, S)
theorem runs_nil (n : Int) (L : List En) : Runs n L [] L := rfl
theorem runs_snoc {n : Int} {c : Ch} {S : List En} (h : appE S c n = 0) : ∀ {cs : List Ch} {L : List En}, Runs n L cs S → Runs n L (cs ++ [c]) (chdR S c n)
  | [], L, hr => by
    have e : L = S := congrArg Prod.snd (show (0, L) = ((0 : Int), S) from hr)
    subst e
    show (runF n L [c]).2 = _
    rw [runF, if_pos h]
    rfl
  | d :: r, L, hr => by
    rw [Runs, runF] at hr
    by_cases hd : appE L d n = 0
    · rw [if_pos hd] at hr
      have := runs_snoc h (cs := r) (L := chdR L d n) hr
      show (runF n L (d :: (r ++ [c]))).2 = _
      rw [runF, if_pos hd]
      exact this
    · rw [if_neg hd] at hr
      exact absurd (congrArg Prod.fst hr) hd
end Pp
end Go.Proofs.YtogbahkoijkclaaGreat
