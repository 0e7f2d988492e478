/- The order of grants, as a sort asks for it; slices.SortFunc of grants. -/
import Derived.Test.YtgjiicnhedekjaaG6
import Derived.Test.YtgjiicnhedekjaaShelfG
import Derived.Shelf.SlSortCmp.WholeK
import Derived.Lib.OwnBridge
set_option linter.unusedSimpArgs false
set_option linter.unusedVariables false
namespace Go.Proofs.Ytgjiicnhedekjaa
open Go.RowKit

namespace Pp
def ls (x y : ByteArray) : Bool := Op.bytesLess x.toList y.toList
theorem ls_irr (x : ByteArray) : ls x x = false := lt_irrefl ⟨x, false, x, 0⟩
theorem ls_trans (x y z : ByteArray) (h1 : ls x y = true) (h2 : ls y z = true) : ls x z = true := lt_trans ⟨x, false, x, 0⟩ ⟨y, false, y, 0⟩ ⟨z, false, z, 0⟩ h1 h2
theorem ls_ntrans (x y z : ByteArray) (h1 : ls x y = false) (h2 : ls y z = false) : ls x z = false := lt_ntrans ⟨x, false, x, 0⟩ ⟨y, false, y, 0⟩ ⟨z, false, z, 0⟩ h1 h2
def ltG (a b : Gr) : Bool := ls a.fo b.fo || (!(ls b.fo a.fo) && ls a.wh b.wh)
theorem ltG_c (a b : Gr) : decide (cG a b < 0) = ltG a b := by
  rcases tri a.fo b.fo with ⟨t1, t2, t3, t4⟩ | ⟨t1, t2, t3, t4⟩ | ⟨t1, t2, t3, t4⟩
  · have h1 : ls a.fo b.fo = true := t1
    have h2 := cG_neg (a := a) (b := b) (Or.inl t1)
    rw [ltG, h1]; simp [h2]
  · have h1 : ls a.fo b.fo = false := t1
    have h1' : ls b.fo a.fo = false := t2
    rcases tri a.wh b.wh with ⟨r1, r2, r3, r4⟩ | ⟨r1, r2, r3, r4⟩ | ⟨r1, r2, r3, r4⟩
    · have h2 := cG_neg (a := a) (b := b) (Or.inr ⟨t3, t1, r1⟩)
      have h3 : ls a.wh b.wh = true := r1
      rw [ltG, h1, h1', h3]; simp [h2]
    · have h2 := cG_pos (a := a) (b := b) (Or.inr ⟨t3, t1, r1⟩)
      have h3 : ls a.wh b.wh = false := r1
      rw [ltG, h1, h1', h3]; simp; omega
    · have h2 := cG_pos (a := a) (b := b) (Or.inr ⟨t3, t1, r1⟩)
      have h3 : ls a.wh b.wh = false := r1
      rw [ltG, h1, h1', h3]; simp; omega
  · have h1 : ls a.fo b.fo = false := t1
    have h1' : ls b.fo a.fo = true := t2
    have h2 := cG_pos (a := a) (b := b) (Or.inl ⟨t1, t3⟩)
    rw [ltG, h1, h1']; simp; omega
theorem ltOfG (a b : Gr) : ltOf cG a b = ltG a b := ltG_c a b
theorem ltG_irr (a : Gr) : ltG a a = false := by rw [ltG, ls_irr, ls_irr]; rfl
theorem ltG_trans (a b c : Gr) (h1 : ltG a b = true) (h2 : ltG b c = true) : ltG a c = true := by
  simp only [ltG, Bool.or_eq_true, Bool.and_eq_true, Bool.not_eq_true'] at *
  rcases h1 with h1 | ⟨h1, h1'⟩
  · rcases h2 with h2 | ⟨h2, h2'⟩
    · exact Or.inl (ls_trans _ _ _ h1 h2)
    · left
      cases h : ls a.fo c.fo with
      | true => rfl
      | false => have := ls_ntrans _ _ _ h h2; rw [this] at h1; cases h1
  · rcases h2 with h2 | ⟨h2, h2'⟩
    · left
      cases h : ls a.fo c.fo with
      | true => rfl
      | false => have := ls_ntrans _ _ _ h1 h; rw [this] at h2; cases h2
    · exact Or.inr ⟨ls_ntrans _ _ _ h2 h1, ls_trans _ _ _ h1' h2'⟩
theorem ltG_ntrans (a b c : Gr) (h1 : ltG a b = false) (h2 : ltG b c = false) : ltG a c = false := by
  simp only [ltG, Bool.or_eq_false_iff, Bool.and_eq_false_iff, Bool.not_eq_false'] at *
  obtain ⟨h1, h1'⟩ := h1
  obtain ⟨h2, h2'⟩ := h2
  refine ⟨ls_ntrans _ _ _ h1 h2, ?_⟩
  rcases h1' with h | h
  · left
    cases hc : ls c.fo a.fo with
    | true => rfl
    | false => have := ls_ntrans _ _ _ h2 hc; rw [this] at h; cases h
  · rcases h2' with h' | h'
    · left
      cases hc : ls c.fo a.fo with
      | true => rfl
      | false => have := ls_ntrans _ _ _ hc h1; rw [this] at h'; cases h'
    · exact Or.inr (ls_ntrans _ _ _ h h')
theorem swoG : Sort.SWO (ltOf cG) where
  irrefl x := by rw [ltOfG]; exact ltG_irr x
  trans x y z h1 h2 := by rw [ltOfG] at *; exact ltG_trans x y z h1 h2
  ntrans x y z h1 h2 := by rw [ltOfG] at *; exact ltG_ntrans x y z h1 h2
def cellsG (e : Gr) : List Value := [.string e.fo, .string e.wh, .int .i64 e.ri]
def flatG (G : List Gr) : List Value := G.flatMap cellsG
theorem cellsG_one (e : Gr) : ∀ u ∈ cellsG e, u.oneCell' = true := by
  intro u hu
  simp only [cellsG, List.mem_cons, List.not_mem_nil, or_false] at hu
  rcases hu with rfl | rfl | rfl <;> rfl
theorem flatG_get : ∀ (L : List Gr) (i c : Nat) (h : i < L.length), c < 3 → (flatG L)[i * 3 + c]? = (cellsG L[i])[c]?
  | [], i, c, h, _ => absurd h (Nat.not_lt_zero _)
  | a :: r, 0, c, _, hc => by
    rw [flatG, List.flatMap_cons, Nat.zero_mul, Nat.zero_add, List.getElem?_append_left (by simpa [cellsG] using hc)]
    rfl
  | a :: r, i + 1, c, h, hc => by
    have ih := flatG_get r i c (by simpa using h) hc
    rw [flatG, List.flatMap_cons, List.getElem?_append_right (by simp [cellsG]; omega)]
    rw [show (i + 1) * 3 + c - (cellsG a).length = i * 3 + c by simp [cellsG]; omega]
    exact ih
theorem cellsG_get (e : Gr) (c : Nat) (hc : c < 3) : (cellsG e)[c]? = some ((cellsG e)[c]!) := by
  have : c < (cellsG e).length := by simpa [cellsG] using hc
  rw [List.getElem?_eq_getElem this, getElem!_pos _ c this]
theorem flatG_len (L : List Gr) : (flatG L).length = L.length * 3 := by
  induction L with
  | nil => rfl
  | cons a r ih => rw [flatG, List.flatMap_cons, List.length_append]; rw [show (List.flatMap cellsG r) = flatG r from rfl, ih]; simp [cellsG]; omega
theorem flatG_snoc (L : List Gr) (e : Gr) : flatG L ++ cellsG e = flatG (L ++ [e]) := by simp [flatG]
theorem holdsG_own [Inhabited Gr] {w : World} {base g n cap : Nat} {T : TypeId} {L : List Gr} (h : w.ownsRow base T 3 (.slice (some ⟨g, 0, none⟩) n cap) n (flatG L)) (hn : n = L.length) : Sort.HoldsK cellsG 3 w g 0 L.toArray := by
  subst hn
  intro j hj
  rw [Sort.size_flatK, List.size_toArray] at hj
  refine ⟨?_, by rw [Nat.zero_add]; exact h.frozenAt j⟩
  rw [Nat.zero_add, h.cellAt j hj, id, Sort.get_flatK _ _ _ _ (by simpa using hj)]
  have h1 : j / 3 < L.length := by omega
  have h2 := flatG_get L (j / 3) (j % 3) h1 (by omega)
  rw [show j / 3 * 3 + j % 3 = j by omega] at h2
  rw [h2, cellsG_get _ _ (by omega)]
  have e : L.toArray[j / 3]! = L[j / 3] := by rw [getElem!_pos _ _ (by simpa using h1)]; simp
  rw [e]
theorem liesG_holds [Inhabited Gr] {w : World} {g cap : Nat} {d : Array Gr} (hg : g < w.heap.size) (h : Sort.HoldsK cellsG 3 w g 0 d) (hc : d.size ≤ cap) (hc2 : d.size ≤ 1000000000000000) : LiesG w (.slice (some ⟨g, 0, none⟩) d.size cap) d.toList := by
  refine ⟨some ⟨g, 0, none⟩, cap, by simp, by simpa using hc, by simpa using hc2, fun i hi => ⟨g, 0, rfl, hg, ?_⟩⟩
  have hi' : i < d.size := by simpa using hi
  have e : d[i]! = d.toList[i] := by rw [getElem!_pos d i hi']; simp
  have key : ∀ c, c < 3 → w.cell? ⟨g, 0 + i * 3 + c, none⟩ = (cellsG d.toList[i])[c]? := by
    intro c hc4
    have hj : i * 3 + c < d.size * 3 := by omega
    have := (h (i * 3 + c) (by rw [Sort.size_flatK]; exact hj)).1
    rw [id, Sort.get_flatK _ _ _ _ hj, show (i * 3 + c) / 3 = i by omega, show (i * 3 + c) % 3 = c by omega, e, ← cellsG_get _ c hc4] at this
    rw [Nat.add_assoc]; exact this
  exact ⟨key 0 (by omega), key 1 (by omega), key 2 (by omega)⟩
end Pp
end Go.Proofs.Ytgjiicnhedekjaa
