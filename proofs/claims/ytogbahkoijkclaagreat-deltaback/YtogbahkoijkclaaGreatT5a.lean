/- Rows of entries of one's own, and what they hold. -/
import Derived.Test.YtogbahkoijkclaaGreatT4
set_option linter.unusedSimpArgs false
set_option linter.unusedVariables false
namespace Go.Proofs.YtogbahkoijkclaaGreat
open Go.RowKit

namespace Pp
def cells (e : En) : List Value := [.string e.path, .bool e.folder, .string e.text, .int .i64 e.ver]
def flat (L : List En) : List Value := L.flatMap cells
theorem flat_len (L : List En) : (flat L).length = L.length * 4 := by
  induction L with
  | nil => rfl
  | cons a r ih => simp [flat, cells] at ih ⊢; omega
theorem flat_snoc (L : List En) (e : En) : flat L ++ cells e = flat (L ++ [e]) := by simp [flat]
theorem cells_one (e : En) : ∀ u ∈ cells e, u.oneCell' = true := by
  intro u hu
  simp only [cells, List.mem_cons, List.not_mem_nil, or_false] at hu
  rcases hu with rfl | rfl | rfl | rfl <;> rfl
theorem new_cells (w : World) (e : En) (T : TypeId) : ∀ j u, (cells e)[j]? = some u → (w.alloc (.cells #[.string e.path, .bool e.folder, .string e.text, .int .i64 e.ver] T)).cell? ((⟨w.heap.size, 0, none⟩ : Addr).add j) = some u := by
  intro j u hj
  match j, hj with
  | 0, hj => simp [cells] at hj; subst hj; simp [Addr.add]
  | 1, hj => simp [cells] at hj; subst hj; simp [Addr.add]
  | 2, hj => simp [cells] at hj; subst hj; simp [Addr.add]
  | 3, hj => simp [cells] at hj; subst hj; simp [Addr.add]
  | j + 4, hj => simp [cells] at hj
theorem filter_hit {L : List En} {k : Nat} (h : k < L.length) {pr : En → Bool} (hp : pr L[k] = true) : (L.take (k + 1)).filter pr = (L.take k).filter pr ++ [L[k]] := by
  rw [List.take_succ_eq_append_getElem h, List.filter_append]; simp [hp]
theorem filter_miss {L : List En} {k : Nat} (h : k < L.length) {pr : En → Bool} (hp : pr L[k] = false) : (L.take (k + 1)).filter pr = (L.take k).filter pr := by
  rw [List.take_succ_eq_append_getElem h, List.filter_append]; simp [hp]
end Pp

theorem Tryz.infoE : (Tryz.prog.info? 35).map (fun i => (i.zero, i.size, i.bytes)) = some (some (.agg #[.string ⟨#[]⟩, .bool false, .string ⟨#[]⟩, .int .i64 0]), 4, 48) := by kernel_rfl

namespace Pp
theorem flat_at : ∀ (L : List En) (i : Nat) (h : i < L.length) (c : Nat), c < 4 → (flat L)[i * 4 + c]? = (cells L[i])[c]?
  | [], i, h, _, _ => absurd h (by simp)
  | a :: r, 0, _, c, hc => by
    show (cells a ++ flat r)[0 * 4 + c]? = _
    rw [List.getElem?_append_left (by simp [cells]; omega)]
    simp
  | a :: r, i + 1, h, c, hc => by
    show (cells a ++ flat r)[(i + 1) * 4 + c]? = _
    rw [List.getElem?_append_right (by simp [cells]; omega)]
    have e : (i + 1) * 4 + c - (cells a).length = i * 4 + c := by simp [cells]; omega
    rw [e, flat_at r i (by simpa using h) c hc]
    simp
end Pp
theorem lies_row {w : World} {base : Nat} {T : TypeId} {v : Value} {L : List En} (h : w.ownsRow base T 4 v L.length (Pp.flat L)) (hn : L.length ≤ 1000000000000000) : Lies w v L := by
  have h' := h
  obtain ⟨_, h2⟩ := h
  rcases h2 with ⟨rfl, hz⟩ | ⟨g, cap, cur, rfl, hg, hh, hc, hm, hz, htake⟩
  · have : L = [] := List.length_eq_zero_iff.1 hz
    subst this
    exact ⟨none, 0, rfl, Nat.le_refl _, by simp, fun i hi => absurd hi (by simp)⟩
  · have hlt : g < w.heap.size := by
      rcases Nat.lt_or_ge g w.heap.size with h | h
      · exact h
      · rw [Array.getElem?_eq_none h] at hh; cases hh
    refine ⟨some ⟨g, 0, none⟩, cap, rfl, hc, hn, fun i hi => ⟨g, 0, rfl, hlt, ?_⟩⟩
    have k : ∀ c, c < 4 → w.cell? ⟨g, 0 + i * 4 + c, none⟩ = (Pp.cells L[i])[c]? := fun c hc => by
      rw [Nat.zero_add, h'.cellAt (i * 4 + c) (by omega), Pp.flat_at L i hi c hc]
    exact ⟨k 0 (by decide), k 1 (by decide), k 2 (by decide), k 3 (by decide)⟩
end Go.Proofs.YtogbahkoijkclaaGreat
