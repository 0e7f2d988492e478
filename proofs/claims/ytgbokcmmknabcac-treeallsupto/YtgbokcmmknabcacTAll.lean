/- What All of changes answers, as plain mathematics: where it stops, its error, what came. -/
import Derived.Test.YtgbokcmmknabcacT24
set_option linter.unusedSimpArgs false
set_option linter.unusedVariables false
namespace Go.Proofs.Ytgbokcmmknabcac
open Go.RowKit

namespace Pp
/-- Change by change: how many were made, the error, and what came. -/
def runF (n : Int) : List En → List Ch → Nat × Int × List En
  | T, [] => (0, 0, T)
  | T, c :: r => if appE T c n = 0 then ((runF n (chdR T c n) r).1 + 1, (runF n (chdR T c n) r).2) else (0, appE T c n, [])
/-- What is left to do behind the first changes. -/
def Left (n : Int) (L : List En) (cs : List Ch) (S : List En) (k : Nat) : Prop := runF n L cs = ((runF n S (cs.drop k)).1 + k, (runF n S (cs.drop k)).2)
theorem left_zero (n : Int) (L : List En) (cs : List Ch) : Left n L cs L 0 := rfl
theorem left_next {n : Int} {L : List En} {cs : List Ch} {S : List En} {k : Nat} (h : Left n L cs S k) (hk : k < cs.length) (h0 : appE S cs[k] n = 0) : Left n L cs (chdR S cs[k] n) (k + 1) := by
  rw [Left] at h ⊢
  rw [List.drop_eq_getElem_cons hk, runF, if_pos h0] at h
  rw [h]
  simp only [Prod.mk.injEq, and_true]
  omega
theorem left_stop {n : Int} {L : List En} {cs : List Ch} {S : List En} {k : Nat} (h : Left n L cs S k) (hk : k < cs.length) (h0 : ¬ appE S cs[k] n = 0) : runF n L cs = (k, appE S cs[k] n, []) := by
  rw [Left, List.drop_eq_getElem_cons hk, runF, if_neg h0] at h
  rw [h]; simp
theorem left_end {n : Int} {L : List En} {cs : List Ch} {S : List En} (h : Left n L cs S cs.length) : runF n L cs = (cs.length, 0, S) := by
  rw [Left, List.drop_length, runF] at h
  rw [h]; simp
/-- All: what is wrong with the tree, then how many there are, then change by change. -/
def allE (L : List En) (cs : List Ch) (n : Int) : Int := if ¬ treeE L = 0 then treeE L else if 20 < cs.length then 2 else (runF n L cs).2.1
def allN (L : List En) (cs : List Ch) (n : Int) : Nat := if ¬ treeE L = 0 then 0 else if 20 < cs.length then 0 else (runF n L cs).1
def allR (L : List En) (cs : List Ch) (n : Int) : List En := if ¬ treeE L = 0 then [] else if 20 < cs.length then [] else (runF n L cs).2.2
theorem all_no {L : List En} (h : ¬ treeE L = 0) (cs : List Ch) (n : Int) : allE L cs n = treeE L ∧ allN L cs n = 0 ∧ allR L cs n = [] := ⟨if_pos h, if_pos h, if_pos h⟩
theorem all_many {L : List En} (h : treeE L = 0) {cs : List Ch} (hm : 20 < cs.length) (n : Int) : allE L cs n = 2 ∧ allN L cs n = 0 ∧ allR L cs n = [] :=
  ⟨by rw [allE, if_neg (fun x => x h), if_pos hm], by rw [allN, if_neg (fun x => x h), if_pos hm], by rw [allR, if_neg (fun x => x h), if_pos hm]⟩
theorem all_run {L : List En} (h : treeE L = 0) {cs : List Ch} (hm : ¬ 20 < cs.length) {n : Int} {k : Nat} {e : Int} {R : List En} (hr : runF n L cs = (k, e, R)) : allE L cs n = e ∧ allN L cs n = k ∧ allR L cs n = R :=
  ⟨by rw [allE, if_neg (fun x => x h), if_neg hm, hr], by rw [allN, if_neg (fun x => x h), if_neg hm, hr], by rw [allR, if_neg (fun x => x h), if_neg hm, hr]⟩
end Pp

/-- A change lies at a place: its five cells. -/
def ChAt (w : World) (b o : Nat) (c : Pp.Ch) : Prop := w.cell? ⟨b, o, none⟩ = some (.int .i64 c.k) ∧ w.cell? ⟨b, o + 1, none⟩ = some (.string c.p) ∧ w.cell? ⟨b, o + 2, none⟩ = some (.string c.q) ∧ w.cell? ⟨b, o + 3, none⟩ = some (.string c.t) ∧ w.cell? ⟨b, o + 4, none⟩ = some (.int .i64 c.b)
def LiesC (w : World) (v : Value) (cs : List Pp.Ch) : Prop := ∃ a cap, v = .slice a cs.length cap ∧ cs.length ≤ cap ∧ cs.length ≤ 1000000000000000 ∧ ∀ i (h : i < cs.length), ∃ b o, a = some ⟨b, o, none⟩ ∧ b < w.heap.size ∧ ChAt w b (o + i * 5) cs[i]
theorem ChAt.below {w w' : World} {b o : Nat} {c : Pp.Ch} (h : ChAt w b o c) (hb : b < w.heap.size) (hw : Below w.heap.size w w') : ChAt w' b o c :=
  ⟨(hw.cell (p := ⟨b, o, none⟩) hb).trans h.1, (hw.cell (p := ⟨b, o + 1, none⟩) hb).trans h.2.1, (hw.cell (p := ⟨b, o + 2, none⟩) hb).trans h.2.2.1, (hw.cell (p := ⟨b, o + 3, none⟩) hb).trans h.2.2.2.1, (hw.cell (p := ⟨b, o + 4, none⟩) hb).trans h.2.2.2.2⟩
theorem LiesC.below {w w' : World} {v : Value} {cs : List Pp.Ch} (h : LiesC w v cs) (hw : Below w.heap.size w w') : LiesC w' v cs := by
  obtain ⟨a, cap, hv, h1, h2, h3⟩ := h
  refine ⟨a, cap, hv, h1, h2, fun i hi => ?_⟩
  obtain ⟨b, o, ha, hb, he⟩ := h3 i hi
  exact ⟨b, o, ha, Nat.lt_of_lt_of_le hb hw.size, he.below hb hw⟩
def SizedC (B : Nat) (cs : List Pp.Ch) : Prop := ∀ c ∈ cs, c.p.size ≤ B ∧ c.q.size ≤ B ∧ c.t.size ≤ B
theorem runF_nil (n : Int) (L : List En) : Pp.runF n L [] = (0, 0, L) := rfl
end Go.Proofs.Ytgbokcmmknabcac
