/- Rows of cells in memory, whatever they hold; and rows of one's own. -/
import Derived.Test.YtagdilnbbepccaaGreatJRow
set_option linter.unusedSimpArgs false
set_option linter.unusedVariables false
namespace Go.Proofs.YtagdilnbbepccaaGreat
open Go.RowKit

/-- A slice whose elements have these cells, n each. -/
def LiesR (n : Nat) (w : World) (v : Value) (R : List (List Value)) : Prop := ∃ a cap, v = .slice a R.length cap ∧ R.length ≤ cap ∧ R.length ≤ 1000000000000000 ∧ (∀ r ∈ R, r.length = n ∧ ∀ u ∈ r, u.oneCell' = true) ∧
  ∀ i (h : i < R.length), ∃ b o, a = some ⟨b, o, none⟩ ∧ b < w.heap.size ∧ ∀ c u, R[i][c]? = some u → w.cell? ⟨b, o + i * n + c, none⟩ = some u
/-- The caller's own: in a block from B on, that may be written. -/
def Own (B : Nat) (w : World) (v : Value) : Prop := ∀ g, v.ownBlock = some g → B ≤ g ∧ ∃ cur T, w.heap[g]? = some (.cells cur T (0, 0))
theorem own_nil (B : Nat) (w : World) : Own B w (.slice none 0 0) := fun g h => by simp [Value.ownBlock] at h
theorem Own.lt {B : Nat} {w : World} {v : Value} (h : Own B w v) : ∀ g, v.ownBlock = some g → g < w.heap.size := fun g hg => by
  obtain ⟨_, cur, T, hh⟩ := h g hg
  exact heap_lt hh
theorem Own.below {B : Nat} {w w' : World} {v : Value} (h : Own B w v) (hw : Below w.heap.size w w') : Own B w' v := fun g hg => by
  obtain ⟨h1, cur, T, hh⟩ := h g hg
  exact ⟨h1, cur, T, (hw.block g (heap_lt hh)).trans hh⟩
theorem Own.mono {B B' : Nat} {w : World} {v : Value} (h : Own B w v) (hB : B' ≤ B) : Own B' w v := fun g hg => ⟨Nat.le_trans hB (h g hg).1, (h g hg).2⟩
theorem own_row {w : World} {base : Nat} {e : TypeId} {size : Nat} {v : Value} {n : Nat} {xs : List Value} (h : w.ownsRow base e size v n xs) : Own base w v := by
  obtain ⟨_, h2⟩ := h
  rcases h2 with ⟨rfl, _⟩ | ⟨g, cap, cur, rfl, hg, hh, _⟩
  · exact own_nil _ _
  · intro g' hg'
    simp only [Value.ownBlock, Option.some.injEq] at hg'
    subst hg'
    exact ⟨hg, cur, e, hh⟩
theorem LiesR.below {n : Nat} {w w' : World} {v : Value} {R : List (List Value)} (h : LiesR n w v R) (hw : Below w.heap.size w w') : LiesR n w' v R := by
  obtain ⟨a, cap, hv, h1, h2, h4, h3⟩ := h
  refine ⟨a, cap, hv, h1, h2, h4, fun i hi => ?_⟩
  obtain ⟨b, o, ha, hb, he⟩ := h3 i hi
  exact ⟨b, o, ha, Nat.lt_of_lt_of_le hb hw.size, fun c u hu => (hw.cell (p := ⟨b, o + i * n + c, none⟩) hb).trans (he c u hu)⟩
theorem flatten_len {n : Nat} : ∀ {R : List (List Value)}, (∀ r ∈ R, r.length = n) → R.flatten.length = R.length * n
  | [], _ => by simp
  | r :: R, h => by
    rw [List.flatten_cons, List.length_append, h r (by simp), flatten_len (fun x hx => h x (by simp [hx])), List.length_cons, Nat.add_mul]
    omega
theorem flatten_at {n : Nat} : ∀ {R : List (List Value)} (i c : Nat) (h : i < R.length), (∀ r ∈ R, r.length = n) → c < n → R.flatten[i * n + c]? = R[i][c]?
  | [], i, c, h, _, _ => absurd h (Nat.not_lt_zero _)
  | r :: R, 0, c, _, hr, hc => by
    rw [List.flatten_cons, Nat.zero_mul, Nat.zero_add, List.getElem?_append_left (by rw [hr r (by simp)]; exact hc)]
    rfl
  | r :: R, i + 1, c, h, hr, hc => by
    have hl := hr r (by simp)
    rw [List.flatten_cons, List.getElem?_append_right (by rw [hl, Nat.add_mul]; omega), hl]
    have e : (i + 1) * n + c - n = i * n + c := by rw [Nat.add_mul]; omega
    rw [e, flatten_at i c (by simpa using h) (fun x hx => hr x (by simp [hx])) hc]
    rfl
theorem liesR_cells {n : Nat} (hn : 0 < n) {w : World} {b o : Nat} {R : List (List Value)} (hr : ∀ r ∈ R, r.length = n) (h : ∀ i (h : i < R.length), ∀ c u, R[i][c]? = some u → w.cell? ⟨b, o + i * n + c, none⟩ = some u) : ∀ j u, R.flatten[j]? = some u → w.cell? ((⟨b, o, none⟩ : Addr).add j) = some u := by
  intro j u hj
  have hjl : j < R.length * n := by
    have := (List.getElem?_eq_some_iff.1 hj).1
    rw [flatten_len hr] at this; exact this
  have h1 : j / n < R.length := (Nat.div_lt_iff_lt_mul hn).2 hjl
  have h2 : j / n * n + j % n = j := Nat.div_add_mod' j n
  have h3 := flatten_at (j / n) (j % n) h1 hr (Nat.mod_lt _ hn)
  rw [h2, hj] at h3
  have h4 := h _ h1 _ u h3.symm
  rw [Addr.add_lit]
  rw [Nat.add_assoc, h2] at h4
  exact h4
theorem liesR_own {n : Nat} {w : World} {base : Nat} {T : TypeId} {v : Value} {R : List (List Value)} (h : w.ownsRow base T n v R.length R.flatten) (hn : R.length ≤ 1000000000000000) (hr : ∀ r ∈ R, r.length = n ∧ ∀ u ∈ r, u.oneCell' = true) : LiesR n w v R := by
  have h' := h
  obtain ⟨_, h2⟩ := h
  rcases h2 with ⟨rfl, hz⟩ | ⟨g, cap, cur, rfl, hg, hh, hc, hm, hz, htake⟩
  · have : R = [] := List.length_eq_zero_iff.1 hz
    subst this
    exact ⟨none, 0, rfl, Nat.le_refl _, by simp, by simp, fun i hi => absurd hi (by simp)⟩
  · refine ⟨some ⟨g, 0, none⟩, cap, rfl, hc, hn, hr, fun i hi => ⟨g, 0, rfl, heap_lt hh, fun c u hu => ?_⟩⟩
    have hc' : c < n := by
      have := (List.getElem?_eq_some_iff.1 hu).1
      rw [(hr _ (List.getElem_mem hi)).1] at this
      exact this
    have hlt : i * n + c < R.length * n := by
      have h5 : (i + 1) * n ≤ R.length * n := Nat.mul_le_mul_right n hi
      rw [Nat.add_mul] at h5
      omega
    rw [Nat.zero_add, h'.cellAt (i * n + c) hlt, flatten_at i c hi (fun r hr' => (hr r hr').1) hc']
    exact hu
theorem flatten_one {n : Nat} {R : List (List Value)} (hr : ∀ r ∈ R, r.length = n ∧ ∀ u ∈ r, u.oneCell' = true) : ∀ u ∈ R.flatten, u.oneCell' = true := by
  intro u hu
  obtain ⟨r, h1, h2⟩ := List.mem_flatten.1 hu
  exact (hr r h1).2 u h2
end Go.Proofs.YtagdilnbbepccaaGreat
