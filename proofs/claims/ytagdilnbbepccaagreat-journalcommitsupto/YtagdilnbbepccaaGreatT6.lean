/- What tree.sortPaths does: it puts entries in the order of their paths. -/
import Derived.Test.YtagdilnbbepccaaGreatME
import Derived.Test.YtagdilnbbepccaaGreatShelfS
import Derived.Lib.OwnBridge
set_option linter.unusedSimpArgs false
set_option linter.unusedVariables false
namespace Go.Proofs.YtagdilnbbepccaaGreat
open Go.RowKit

set_option maxHeartbeats 400000 in
theorem cmp1_any (x y : En) (W : World) : Calls Tryz.prog 102 #[.agg #[.string x.path, .bool x.folder, .string x.text, .int .i64 x.ver], .agg #[.string y.path, .bool y.folder, .string y.text, .int .i64 y.ver]] W fun e w' => e = .returned (.int .i64 (Pp.cfE x y)) ∧ ∃ q os', w' = Sort.grow (W.drewN q) os' := by
  have HC : Hid (Lib.compareBytes x.path.data.toList y.path.data.toList = Pp.cfE x y) := rfl
  go_enter Tryz.func102, Tryz.ntmps102
  go_wp2_with fail
  refine (Tryz.strings_Compare _ _ _).mono ?_
  rintro e w1 ⟨rfl, rfl⟩
  rw [HC.out]
  go_wp2
  go_ret
  exact ⟨rfl, 0, _, by rw [Sort.alloc_eq_grow, Sort.alloc_eq_grow, Sort.grow_grow]; rfl⟩

namespace Pp
theorem below_grow {B : Nat} {w0 w : World} (h : Below B w0 w) (hB : B ≤ w.heap.size) (os : Array Obj) : Below B w0 (Sort.grow w os) :=
  h.trans ⟨rfl, rfl, rfl, by simp [Sort.grow], fun k hk => by simp [Sort.grow, Array.getElem?_append_left (show k < w.heap.size by omega)]⟩
theorem flat_get : ∀ (L : List En) (i c : Nat) (h : i < L.length), c < 4 → (flat L)[i * 4 + c]? = (cells L[i])[c]?
  | [], i, c, h, _ => absurd h (Nat.not_lt_zero _)
  | a :: r, 0, c, _, hc => by
    rw [flat, List.flatMap_cons, Nat.zero_mul, Nat.zero_add, List.getElem?_append_left (by simpa [cells] using hc)]
    rfl
  | a :: r, i + 1, c, h, hc => by
    have ih := flat_get r i c (by simpa using h) hc
    rw [flat, List.flatMap_cons, List.getElem?_append_right (by simp [cells]; omega)]
    rw [show (i + 1) * 4 + c - (cells a).length = i * 4 + c by simp [cells]; omega]
    exact ih
theorem cells_get (e : En) (c : Nat) (hc : c < 4) : (cells e)[c]? = some ((cells e)[c]!) := by
  have : c < (cells e).length := by simpa [cells] using hc
  rw [List.getElem?_eq_getElem this, getElem!_pos _ c this]
/-- An own row holds its entries, as the sort asks. -/
theorem holds_own [Inhabited En] {w : World} {base g n cap : Nat} {T : TypeId} {L : List En} (h : w.ownsRow base T 4 (.slice (some ⟨g, 0, none⟩) n cap) n (flat L)) (hn : n = L.length) : Sort.HoldsK cells 4 w g 0 L.toArray := by
  subst hn
  intro j hj
  rw [Sort.size_flatK, List.size_toArray] at hj
  refine ⟨?_, by rw [Nat.zero_add]; exact h.frozenAt j⟩
  rw [Nat.zero_add, h.cellAt j hj, id, Sort.get_flatK _ _ _ _ (by simpa using hj)]
  have h1 : j / 4 < L.length := by omega
  have h2 := flat_get L (j / 4) (j % 4) h1 (by omega)
  rw [show j / 4 * 4 + j % 4 = j by omega] at h2
  rw [h2, cells_get _ _ (by omega)]
  have e : L.toArray[j / 4]! = L[j / 4] := by rw [getElem!_pos _ _ (by simpa using h1)]; simp
  rw [e]
theorem lies_holds [Inhabited En] {w : World} {g cap : Nat} {d : Array En} (hg : g < w.heap.size) (h : Sort.HoldsK cells 4 w g 0 d) (hc : d.size ≤ cap) (hc2 : d.size ≤ 1000000000000000) : Lies w (.slice (some ⟨g, 0, none⟩) d.size cap) d.toList := by
  refine ⟨some ⟨g, 0, none⟩, cap, by simp, by simpa using hc, by simpa using hc2, fun i hi => ⟨g, 0, rfl, hg, ?_⟩⟩
  have hi' : i < d.size := by simpa using hi
  have e : d[i]! = d.toList[i] := by rw [getElem!_pos d i hi']; simp
  have key : ∀ c, c < 4 → w.cell? ⟨g, 0 + i * 4 + c, none⟩ = (cells d.toList[i])[c]? := by
    intro c hc4
    have hj : i * 4 + c < d.size * 4 := by omega
    have := (h (i * 4 + c) (by rw [Sort.size_flatK]; exact hj)).1
    rw [id, Sort.get_flatK _ _ _ _ hj, show (i * 4 + c) / 4 = i by omega, show (i * 4 + c) % 4 = c by omega, e, ← cells_get _ c hc4] at this
    rw [Nat.add_assoc]; exact this
  exact ⟨key 0 (by omega), key 1 (by omega), key 2 (by omega), key 3 (by omega)⟩
end Pp

set_option maxHeartbeats 800000 in
theorem sortPaths_any (L : List En) (base g cap : Nat) (w : World) (ho : w.ownsRow base 60 4 (.slice (some ⟨g, 0, none⟩) L.length cap) L.length (Pp.flat L)) (hn : L.length ≤ 1000000000) (hc1 : L.length ≤ cap) (hb : base ≤ g) (hg : g < w.heap.size) :
    Calls Tryz.prog 94 #[.slice (some ⟨g, 0, none⟩) L.length cap] w fun e w' => e = .returned (.tuple #[]) ∧ ∃ M : List En, M.Perm L ∧ M.Pairwise (fun a b => Pp.lt b a = false) ∧ Lies w' (.slice (some ⟨g, 0, none⟩) L.length cap) M ∧ Below base w w' := by
  have inst : Inhabited En := ⟨⟨⟨#[]⟩, false, ⟨#[]⟩, 0⟩⟩
  have hH := Pp.holds_own ho rfl
  have eg : ∀ args w, (callFunc 102 args).run Tryz.prog w = .ok (.enter 102 args) w := enters_of Tryz.func102 (by kernel_rfl) rfl
  have hcon := AnyQ.slices_SortFunc Tryz.sortE 4 Tryz.isAgg60 Tryz.sizeOf60 Pp.cells (fun _ => rfl) (fun x => Pp.cells_one x) Pp.cfE Pp.swo 102 #[] g 0 cap L.toArray w eg (fun _ _ _ _ x y => cmp1_any x y _) hH hg (by simp; omega)
  change Calls Tryz.prog 101 _ _ _ at hcon
  rw [List.size_toArray] at hcon
  have HH : Hid (Sort.HoldsK Pp.cells 4 w g 0 L.toArray) := hH
  clear hH ho eg
  go_enter Tryz.func94, Tryz.ntmps94
  go_wp2_with fail
  refine hcon.mono ?_
  rintro e w' ⟨rfl, d', n, os, hp, hsrt, rfl⟩
  have HPP : Hid (Sort.PermIn 0 L.length L.toArray d') := hp
  have HSS : Hid (Sort.SortedIn (ltOf Pp.cfE) 0 L.length d') := hsrt
  clear hp hsrt hcon
  go_wp2
  go_end0
  have hsz : d'.size = L.length := by have := HPP.out.1; simpa using this
  refine ⟨rfl, d'.toList, ?_, ?_, ?_, ?_⟩
  · have := HPP.out.2.2
    rw [← hsz] at this
    simp only [Array.extract_size] at this
    rw [hsz, ← List.size_toArray, Array.extract_size] at this
    exact this
  · rw [List.pairwise_iff_getElem]
    intro i j hi hj hij
    have hj' : j < d'.size := by simpa using hj
    have hi' : i < d'.size := by simpa using hi
    have := HSS.out i j (Nat.zero_le _) hij (by omega)
    rw [Pp.ltOf_eq, getElem!_pos d' i hi', getElem!_pos d' j hj'] at this
    simpa using this
  · rw [← hsz]
    exact Pp.lies_holds (by rw [sortWorldK]; simp [Sort.grow, Sort.size_putRowK, Sort.ahead]; omega) (holdsK_sortWorldK_c Pp.cells 4 w g 0 L.toArray d' n os HH.out hg (by rw [hsz]; simp)) (by omega) (by omega)
  · exact Pp.below_grow (Lib.below_putRow (Below.refl base w) hb) (by simp [Sort.putRow, Sort.mapBlock, Sort.ahead]; omega) os
end Go.Proofs.YtagdilnbbepccaaGreat
