/- A tree that lies beside a row of changes that grows; the same changes twice. -/
import Derived.Test.YtogbahkoijkclaaT5a
import Derived.Test.YtogbahkoijkclaaD8
import Derived.Test.YtogbahkoijkclaaTLiesC
set_option linter.unusedSimpArgs false
set_option linter.unusedVariables false
namespace Go.Proofs.Ytogbahkoijkclaa
open Go.RowKit

/-- A tree that lies where it was handed in, or in a block of entries. -/
def LiesX (B : Nat) (w : World) (y : Value) (S : List En) : Prop := ∃ a cap, y = .slice a S.length cap ∧ S.length ≤ cap ∧ S.length ≤ 1000000000000000 ∧ ∀ i (h : i < S.length), ∃ b o, a = some ⟨b, o, none⟩ ∧ b < w.heap.size ∧ (b < B ∨ ∃ cur fz, w.heap[b]? = some (.cells cur 36 fz)) ∧ EnAt w b (o + i * 4) S[i]
theorem LiesX.lies {B : Nat} {w : World} {y : Value} {S : List En} (h : LiesX B w y S) : Lies w y S := by
  obtain ⟨a, cap, h1, h2, h3, h4⟩ := h
  exact ⟨a, cap, h1, h2, h3, fun i hi => by obtain ⟨b, o, k1, k2, _, k3⟩ := h4 i hi; exact ⟨b, o, k1, k2, k3⟩⟩
theorem LiesX.at {B : Nat} {w : World} {a : Option Addr} {n cap : Nat} {S : List En} (h : LiesX B w (.slice a n cap) S) : ∀ i (h : i < S.length), ∃ b o, a = some ⟨b, o, none⟩ ∧ EnAt w b (o + i * 4) S[i] := by
  obtain ⟨a', cap', h1, h2, h3, h4⟩ := h
  intro i hi
  obtain ⟨b, o, k1, _, _, k3⟩ := h4 i hi
  injection h1 with e1
  exact ⟨b, o, e1.trans k1, k3⟩
theorem liesX_old {w : World} {y : Value} {S : List En} (h : Lies w y S) : LiesX w.heap.size w y S := by
  obtain ⟨a, cap, h1, h2, h3, h4⟩ := h
  exact ⟨a, cap, h1, h2, h3, fun i hi => by obtain ⟨b, o, k1, k2, k3⟩ := h4 i hi; exact ⟨b, o, k1, k2, Or.inl k2, k3⟩⟩
theorem LiesX.below {B : Nat} {w w' : World} {y : Value} {S : List En} (h : LiesX B w y S) (hw : Below w.heap.size w w') : LiesX B w' y S := by
  obtain ⟨a, cap, h1, h2, h3, h4⟩ := h
  refine ⟨a, cap, h1, h2, h3, fun i hi => ?_⟩
  obtain ⟨b, o, k1, k2, k4, k3⟩ := h4 i hi
  exact ⟨b, o, k1, Nat.lt_of_lt_of_le k2 hw.size, k4.imp id (fun ⟨cur, fz, hc⟩ => ⟨cur, fz, (hw.block b k2).trans hc⟩), k3.below k2 hw⟩
theorem liesX_row {B B' : Nat} {w : World} {y : Value} {S : List En} (h : w.ownsRow B' 36 4 y S.length (Pp.flat S)) (hn : S.length ≤ 1000000000000000) : LiesX B w y S := by
  obtain ⟨a, cap, h1, h2, h3, h4⟩ := lies_row h hn
  refine ⟨a, cap, h1, h2, h3, fun i hi => ?_⟩
  obtain ⟨b, o, k1, k2, k3⟩ := h4 i hi
  refine ⟨b, o, k1, k2, Or.inr ?_, k3⟩
  subst k1
  obtain ⟨_, h5⟩ := h
  rcases h5 with ⟨h6, _⟩ | ⟨g, cap', cur, h6, _, hh, _⟩
  · rw [h1] at h6; cases h6
  · rw [h1] at h6
    injection h6 with e1
    injection e1 with e1
    injection e1 with e1
    subst e1
    exact ⟨cur, _, hh⟩
theorem LiesX.grown {B : Nat} {w w' : World} {y x : Value} {S : List En} {n : Nat} {xs : List Value} (h : LiesX B w y S) (ho : w.ownsRow B 38 5 x n xs) (hg : w.grownBy w' x.ownBlock) : LiesX B w' y S := by
  obtain ⟨a, cap, h1, h2, h3, h4⟩ := h
  refine ⟨a, cap, h1, h2, h3, fun i hi => ?_⟩
  obtain ⟨b, o, k1, k2, k4, k3⟩ := h4 i hi
  have hne : some b ≠ x.ownBlock := by
    intro e
    obtain ⟨_, h5⟩ := ho
    rcases h5 with ⟨h6, _⟩ | ⟨g, cap', cur, h6, hB, hh, _⟩
    · rw [h6] at e; simp [Value.ownBlock] at e
    · rw [h6] at e
      have e2 : b = g := by simpa [Value.ownBlock] using e
      subst e2
      rcases k4 with h | ⟨cur2, fz, h⟩
      · omega
      · rw [hh] at h
        injection h with h
        injection h with _ h7 _
        exact absurd h7 (by decide)
  exact ⟨b, o, k1, Nat.lt_of_lt_of_le k2 hg.size, k4.imp id (fun ⟨cur, fz, hc⟩ => ⟨cur, fz, (hg.block b k2 hne).trans hc⟩),
    (hg.cell_far ⟨b, _, none⟩ k2 hne).trans k3.1, (hg.cell_far ⟨b, _, none⟩ k2 hne).trans k3.2.1, (hg.cell_far ⟨b, _, none⟩ k2 hne).trans k3.2.2.1, (hg.cell_far ⟨b, _, none⟩ k2 hne).trans k3.2.2.2⟩

namespace Pp
theorem flatC_at : ∀ (L : List Ch) (i : Nat) (h : i < L.length) (c : Nat), c < 5 → (flatC L)[i * 5 + c]? = (cellsC L[i])[c]?
  | [], i, h, _, _ => absurd h (by simp)
  | a :: r, 0, _, c, hc => by
    show (cellsC a ++ flatC r)[0 * 5 + c]? = _
    rw [List.getElem?_append_left (by simp [cellsC]; omega)]
    simp
  | a :: r, i + 1, h, c, hc => by
    show (cellsC a ++ flatC r)[(i + 1) * 5 + c]? = _
    rw [List.getElem?_append_right (by simp [cellsC]; omega)]
    have e : (i + 1) * 5 + c - (cellsC a).length = i * 5 + c := by simp [cellsC]; omega
    rw [e, flatC_at r i (by simpa using h) c hc]
    simp
end Pp
theorem liesC_row {w : World} {base : Nat} {T : TypeId} {v : Value} {L : List Pp.Ch} (h : w.ownsRow base T 5 v L.length (Pp.flatC L)) (hn : L.length ≤ 1000000000000000) : LiesC w v L := by
  have h' := h
  obtain ⟨_, h2⟩ := h
  rcases h2 with ⟨rfl, hz⟩ | ⟨g, cap, cur, rfl, hg, hh, hc, hm, hz, htake⟩
  · have : L = [] := List.length_eq_zero_iff.1 hz
    subst this
    exact ⟨none, 0, rfl, Nat.le_refl _, by simp, fun i hi => absurd hi (by simp)⟩
  · have hlt : g < w.heap.size := by
      rcases Nat.lt_or_ge g w.heap.size with h | h
      · exact h
      · rw [Array.getElem?_eq_none h] at hh; cases hh
    refine ⟨some ⟨g, 0, none⟩, cap, rfl, hc, hn, fun i hi => ⟨g, 0, rfl, hlt, ?_⟩⟩
    have k : ∀ c, c < 5 → w.cell? ⟨g, 0 + i * 5 + c, none⟩ = (Pp.cellsC L[i])[c]? := fun c hc => by
      rw [Nat.zero_add, h'.cellAt (i * 5 + c) (by omega), Pp.flatC_at L i hi c hc]
    exact ⟨k 0 (by decide), k 1 (by decide), k 2 (by decide), k 3 (by decide), k 4 (by decide)⟩

set_option maxHeartbeats 1000000 in
theorem sameChg_yes (L : List Pp.Ch) (v u : Value) (w : World) (hv : LiesC w v L) (hu : LiesC w u L) :
    Calls Try.prog 11 #[v, u] w fun e w' => e = .returned (.bool true) ∧ Below w.heap.size w w' := by
  obtain ⟨a, cap, rfl, hcap, hcap2, hL⟩ := hv
  have HL : Hid (∀ i (h : i < L.length), ∃ b o, a = some ⟨b, o, none⟩ ∧ b < w.heap.size ∧ ChAt w b (o + i * 5) L[i]) := hL
  obtain ⟨a', cap', rfl, hcap', _, hL'⟩ := hu
  have HL' : Hid (∀ i (h : i < L.length), ∃ b o, a' = some ⟨b, o, none⟩ ∧ b < w.heap.size ∧ ChAt w b (o + i * 5) L[i]) := hL'
  clear hL hL'
  go_enter Try.func11, Try.ntmps11
  go_wp2_with fail
  go_loopw [5] (fun i wr => ∃ k : Nat, k ≤ L.length ∧ i = .int .i64 k ∧ Below w.heap.size w wr) (fun i _ => L.length - (intOf i).toNat)
  case atStart => exact ⟨0, Nat.zero_le _, rfl, Below.refl _ _⟩
  case round =>
    obtain ⟨k, hk, rfl, hbel⟩ := hrel
    by_cases hlt : k < L.length
    · obtain ⟨b, o, rfl, hb, he⟩ := HL.out k hlt
      obtain ⟨b', o', rfl, hb', he'⟩ := HL'.out k hlt
      obtain ⟨c0, c1, c2, c3, c4⟩ := he.below hb hbel
      obtain ⟨d0, d1, d2, d3, d4⟩ := he'.below hb' hbel
      go_wp2_with fail
      go_region
      go_wp2_with fail
      go_roundw
      case rel => exact ⟨k + 1, by omega, by simp, hbel.drew⟩
      case measure => simp [intOf]; omega
    · go_wp2_with fail
      go_ret
      exact ⟨rfl, hbel⟩
end Go.Proofs.Ytogbahkoijkclaa
