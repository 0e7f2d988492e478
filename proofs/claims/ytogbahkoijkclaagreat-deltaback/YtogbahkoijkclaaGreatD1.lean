/- What slices.Clone answers at entries: the same, in memory of its own. -/
import Derived.Test.YtogbahkoijkclaaGreatT24
set_option linter.unusedSimpArgs false
set_option linter.unusedVariables false
namespace Go.Proofs.YtogbahkoijkclaaGreat
open Go.RowKit

namespace Pp
theorem flat_one (L : List En) : ∀ u ∈ flat L, u.oneCell' = true := by
  intro u hu
  obtain ⟨s, _, hs⟩ := List.mem_flatMap.1 hu
  exact cells_one s u hs
end Pp
theorem lies_cells {w : World} {b o : Nat} {L : List En} (h : ∀ i (h : i < L.length), EnAt w b (o + i * 4) L[i]) : ∀ j u, (Pp.flat L)[j]? = some u → w.cell? ((⟨b, o, none⟩ : Addr).add j) = some u := by
  intro j u hj
  have hjl : j < L.length * 4 := by
    have := (List.getElem?_eq_some_iff.1 hj).1
    rw [Pp.flat_len] at this; exact this
  have h1 : j / 4 < L.length := by omega
  have h2 : j / 4 * 4 + j % 4 = j := by omega
  have h3 := Pp.flat_get L (j / 4) (j % 4) h1 (by omega)
  rw [h2] at h3
  rw [h3] at hj
  obtain ⟨e0, e1, e2, e3⟩ := h _ h1
  have ha : (⟨b, o, none⟩ : Addr).add j = ⟨b, o + j / 4 * 4 + j % 4, none⟩ := by
    rw [Addr.add_lit, Nat.add_assoc, h2]
  rw [ha]
  have h4 : j % 4 < 4 := by omega
  generalize j % 4 = c at *
  match c, h4, hj with
  | 0, _, hj => simp [Pp.cells] at hj; subst hj; exact e0
  | 1, _, hj => simp [Pp.cells] at hj; subst hj; exact e1
  | 2, _, hj => simp [Pp.cells] at hj; subst hj; exact e2
  | 3, _, hj => simp [Pp.cells] at hj; subst hj; exact e3

set_option maxHeartbeats 1000000 in
theorem eclone_any (L : List En) (v : Value) (w : World) (hv : Lies w v L) (hn : L.length ≤ 1000) :
    Calls Tryz.prog 13 #[v] w fun e w' => ∃ u, e = .returned u ∧ Lies w' u L ∧ Below w.heap.size w w' := by
  obtain ⟨i0, hi0, hz0, hz1, hz2⟩ := info_parts Tryz.infoE
  obtain ⟨a, cap, rfl, hcap, hcap2, hLL⟩ := hv
  have q22 : ∀ (w : World) (a : Option Addr) (n c n' c' : Nat), (binOp .eql 22 (.slice a n c) (.slice none n' c')).run Tryz.prog w = .ok (.bool a.isNone) w := fun w a n c n' c' => Lib.run_eql_slice_nil w _ _ a n c n' c' Tryz.underlying22
  cases a with
  | none =>
    have hL : L = [] := by
      cases L with
      | nil => rfl
      | cons s r => obtain ⟨b, o, hb, _⟩ := hLL 0 (by simp); cases hb
    subst hL
    go_enter Tryz.func13, Tryz.ntmps13
    go_wp2
    go_ret
    exact ⟨_, rfl, lies_nil _, Below.refl _ _⟩
  | some ad =>
    have hcells : ∀ j u, (Pp.flat L)[j]? = some u → w.cell? (ad.add j) = some u := by
      cases L with
      | nil => intro j u hj; simp [Pp.flat] at hj
      | cons s r =>
        obtain ⟨b, o, hb, _⟩ := hLL 0 (by simp)
        injection hb with hb
        subst hb
        exact lies_cells fun i hi => by
          obtain ⟨b', o', hb', _, he⟩ := hLL i hi
          injection hb' with hb'
          injection hb' with h1 h2
          subst h1; subst h2
          exact he
    have HC := hid hcells
    have HFL := hid (Pp.flat_len L)
    clear hcells hLL
    go_enter Tryz.func13, Tryz.ntmps13
    go_wp2_with (at_builtin; refine wpList_append_own _ rfl _ _ 22 rfl w.heap.size 35 i0 (.agg #[.string ⟨#[]⟩, .bool false, .string ⟨#[]⟩, .int .i64 0]) 4 48 Tryz.underlying22 hi0 hz0 hz1 hz2 rfl (by decide) _ _ _ rfl (World.ownsRow_made w #[] 0 (Nat.le_refl _) (Nat.zero_le _) (by simp)) ad L.length cap (Pp.flat L) rfl ?qc1 ?qc2 ?qc3 ?qc4 ?qc5 ?qc6 ?_)
    case qc1 => exact HFL.out
    case qc2 => intro j u hj; exact Lib.cell?_alloc_some _ (HC.out j u hj)
    case qc3 => exact Pp.flat_one L
    case qc4 => unfold maxLen; omega
    case qc5 => omega
    case qc6 => simp
    intro v2 w2 ho2 hgr2 hnn2
    have hbel2 : Below w.heap.size w w2 := ((Below.refl _ _).alloc (Nat.le_refl _) _).grown hgr2 (by simp) (fun k hk => by simp [Value.ownBlock] at hk; omega)
    have ho3 : w2.ownsRow w.heap.size 35 4 v2 L.length (Pp.flat L) := by simpa using ho2
    have HCL : Hid (Lies w2 v2 L) := (lies_own ho3 (by omega) : Lies w2 v2 L)
    obtain ⟨a2, cap2, hv2, _, _, _⟩ := HCL.out
    clear ho2 ho3 hgr2 hnn2
    go_wp2_with fail
    go_ret
    exact ⟨_, rfl, HCL.out, hbel2⟩
end Go.Proofs.YtogbahkoijkclaaGreat
