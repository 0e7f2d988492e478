/- A tree that is handed in: its entries, and how great they are. -/
import Derived.Test.YtogbahkoijkclaaT4
import Derived.Test.YtogbahkoijkclaaRows
import Derived.Deep.Slices
import Derived.Lib.SmallJoins
import Derived.Carry
set_option linter.unusedSimpArgs false
set_option linter.unusedVariables false
namespace Go.Proofs.Ytogbahkoijkclaa
open Go.ChangeShapes Go.WideShapes Go.ChangeAt Go.RowKit

namespace Bk
theorem mem {H : Type} {d : DataW H} : ∀ {l : List (DataW H)}, d ∈ l → Rows.uptoBulk d ≤ Rows.uptoBulkAll l
  | [], h => by cases h
  | x :: r, h => by
    rw [Rows.uptoBulkAll]
    rcases List.mem_cons.1 h with rfl | h
    · omega
    · have := mem h; omega
theorem len {H : Type} : ∀ {l : List (DataW H)}, (∀ d ∈ l, 1 ≤ Rows.uptoBulk d) → l.length ≤ Rows.uptoBulkAll l
  | [], _ => Nat.zero_le _
  | x :: r, h => by
    rw [Rows.uptoBulkAll, List.length_cons]
    have h1 := h x (by simp)
    have h2 := len (l := r) fun d hd => h d (by simp [hd])
    omega
end Bk

theorem Try.cellsE : Try.prog.cellsOf 36 = 4 := by kernel_rfl
theorem Try.cells9 : Try.prog.cellsOf 9 = 1 := by kernel_rfl
theorem Try.cells4 : Try.prog.cellsOf 4 = 1 := by kernel_rfl
theorem Try.cells3 : Try.prog.cellsOf 3 = 1 := by kernel_rfl

def datE {H : Type} (e : En) : DataW H := .agg [.lit (.string e.path.data.toList), .lit (.bool e.folder), .lit (.string e.text.data.toList), .lit (.int .i64 e.ver)]
theorem bulkE {H : Type} (e : En) : Rows.uptoBulk (datE (H := H) e) = e.path.size + e.text.size + 5 := by
  rw [datE, Rows.uptoBulk, Rows.uptoBulkAll, Rows.uptoBulkAll, Rows.uptoBulkAll, Rows.uptoBulkAll, Rows.uptoBulkAll, Rows.uptoBulk, Rows.uptoBulk, Rows.uptoBulk, Rows.uptoBulk, Lib.size_eq, Lib.size_eq]
  · omega
  · intro b h; cases h
  · intro b h; cases h

theorem list4 {α : Type} {l : List α} (h : l.length = 4) : ∃ a b c d, l = [a, b, c, d] := by
  rcases l with _ | ⟨a, _ | ⟨b, _ | ⟨c, _ | ⟨d, _ | ⟨e, r⟩⟩⟩⟩⟩
  all_goals first | exact ⟨a, b, c, d, rfl⟩ | (simp at h)

theorem spot_none {W : World} {a : Addr} {v : Value} (k : W.cell? a = some v) : a.spot = none := by
  unfold World.cell? at k
  cases hq : a.spot with
  | none => rfl
  | some z => rw [hq] at k; simp at k; split at k <;> cases k

/-- One entry of a tree that is handed in. -/
theorem open_entry {H : Type} {enc : TypeId × Value → H} {W : World} {n i : Nat} {a : Addr} {x : DataW H} {pl : List MemPlace} {cs' : List Value} (ha : a.spot = none)
    (h1 : W.cells? 0 (a.add (i * Try.prog.cellsOf 36)) (Try.prog.cellsOf 36) = some cs') (h2 : DataW.trod enc Try.prog W 0 (fun _ => true) true n 36 cs' = some (x, pl)) :
    ∃ e : En, x = datE e ∧ a.spot = none ∧ EnAt W a.block (a.off + i * 4) e := by
  rw [Try.cellsE] at h1
  obtain ⟨_, hlen, hc⟩ := World.cells?_some h1
  obtain ⟨y0, y1, y2, y3, n', hx', _, t0, t1, t2, t3⟩ := Go.Joins.trod_struct4 Try.underlying36 h2
  obtain ⟨c0, c1, c2, c3, rfl⟩ := list4 hlen
  have t0' : DataW.trod enc Try.prog W 0 (fun _ => true) true n' 9 [c0] = some y0 := by simpa [Try.cells9] using t0
  have t1' : DataW.trod enc Try.prog W 0 (fun _ => true) true n' 4 [c1] = some y1 := by simpa [Try.cells4] using t1
  have t2' : DataW.trod enc Try.prog W 0 (fun _ => true) true n' 9 [c2] = some y2 := by simpa [Try.cells9] using t2
  have t3' : DataW.trod enc Try.prog W 0 (fun _ => true) true n' 3 [c3] = some y3 := by simpa [Try.cells3] using t3
  obtain ⟨s0, e0, g0, _⟩ := DataW.trod_string Try.underlying9 t0'
  obtain ⟨s1, e1, g1⟩ := DataW.trod_bool Try.underlying4 t1'
  obtain ⟨s2, e2, g2, _⟩ := DataW.trod_string Try.underlying9 t2'
  obtain ⟨s3, e3, g3, _⟩ := DataW.trod_int Try.underlying3 t3'
  obtain rfl : c0 = .string s0 := by simpa using e0
  obtain rfl : c1 = .bool s1 := by simpa using e1
  obtain rfl : c2 = .string s2 := by simpa using e2
  obtain rfl : c3 = .int .i64 s3 := by simpa using e3
  subst g0; subst g1; subst g2; subst g3
  simp only [Prod.mk.injEq] at hx'
  have k0 := hc 0 (by omega)
  have k1 := hc 1 (by omega)
  have k2 := hc 2 (by omega)
  have k3 := hc 3 (by omega)
  obtain ⟨ab, ao, asp⟩ := a
  obtain rfl : asp = none := ha
  refine ⟨⟨s0, s1, s2, s3⟩, hx'.1, rfl, ?_, ?_, ?_, ?_⟩
  · by_cases hi0 : i = 0
    · subst hi0; simpa [Addr.add] using k0
    · have hi4 : i * 4 ≠ 0 := by omega
      simpa [Addr.add, hi4] using k0
  · by_cases hi0 : i = 0
    · subst hi0; simpa [Addr.add] using k1
    · have hi4 : i * 4 ≠ 0 := by omega
      simpa [Addr.add, hi4, Nat.add_assoc] using k1
  · by_cases hi0 : i = 0
    · subst hi0; simpa [Addr.add] using k2
    · have hi4 : i * 4 ≠ 0 := by omega
      simpa [Addr.add, hi4, Nat.add_assoc] using k2
  · by_cases hi0 : i = 0
    · subst hi0; simpa [Addr.add] using k3
    · have hi4 : i * 4 ≠ 0 := by omega
      simpa [Addr.add, hi4, Nat.add_assoc] using k3

set_option maxRecDepth 100000 in
theorem open_tree {B : Nat} (hB : B ≤ 1000000000) {H : Type} {enc : TypeId × Value → H} {W : World} {v : Value} {d : DataW H} {p : List MemPlace} {fuel : Nat} (hf : DataW.trod enc Try.prog W 0 (fun _ => true) true fuel 22 [v] = some (d, p)) (hk : Rows.uptoBulk d ≤ B) :
    ∃ L : List En, Lies W v L ∧ L.length ≤ B ∧ ∀ e ∈ L, e.path.size ≤ B ∧ e.text.size ≤ B := by
  haveI : Inhabited En := ⟨⟨⟨#[]⟩, false, ⟨#[]⟩, 0⟩⟩
  rcases Go.Deep.open_slice Try.underlying22 hf with ⟨hcs, hx⟩ | ⟨a, len, cap, m, n, D, Pl, hcs, hb, hl, hm, hmm, hx, hel⟩
  · obtain rfl : v = .slice none 0 0 := by simpa using hcs
    exact ⟨[], ⟨none, 0, rfl, Nat.le_refl _, by simp, fun i hi => absurd hi (by simp)⟩, by simp, fun e he => by cases he⟩
  obtain rfl : v = .slice (some a) len cap := by simpa using hcs
  have hm2 : m = cap := hmm.trans (if_pos rfl)
  clear hmm
  have hd := (Prod.mk.inj hx).1
  clear hx
  subst hm2
  have hsp : 0 < len → a.spot = none := fun h => by
    obtain ⟨cs', h1, _⟩ := hel 0 (by omega)
    rw [Try.cellsE] at h1
    obtain ⟨_, hlen, hc⟩ := World.cells?_some h1
    obtain ⟨c0, c1, c2, c3, rfl⟩ := list4 hlen
    have k0 := hc 0 (by omega)
    exact spot_none (v := c0) (by simpa [Addr.add] using k0)
  have each : ∀ i, i < len → ∃ e : En, D i = datE e ∧ a.spot = none ∧ EnAt W a.block (a.off + i * 4) e := fun i hi => by
    obtain ⟨cs', h1, h2⟩ := hel i (by omega)
    exact open_entry (hsp (by omega)) h1 h2
  obtain ⟨E, hE⟩ := Go.Deep.choose_lt each
  have hbk : Rows.uptoBulkAll ((List.range len).map D) ≤ B := by
    rw [hd, Rows.uptoBulk] at hk
    omega
  refine ⟨(List.range len).map E, ⟨some a, _, by simp; rfl, by simpa using hl, ?_, fun i hi => ?_⟩, ?_, fun e he => ?_⟩
  · have := Bk.len (l := (List.range len).map D) (fun d hd => by
      obtain ⟨i, hi, rfl⟩ := List.mem_map.1 hd
      rw [(hE i (List.mem_range.1 hi)).1, bulkE]; omega)
    simp at this ⊢
    omega
  · have hi' : i < len := by simpa using hi
    obtain ⟨h1, h2, h3⟩ := hE i hi'
    have hlt : a.block < W.heap.size := by
      have k := h3.1
      rcases Nat.lt_or_ge a.block W.heap.size with h | h
      · exact h
      · unfold World.cell? at k; rw [Array.getElem?_eq_none h] at k; cases k
    refine ⟨a.block, a.off, ?_, hlt, by simpa using h3⟩
    rw [← h2]
  · have := Bk.len (l := (List.range len).map D) (fun d hd => by
      obtain ⟨i, hi, rfl⟩ := List.mem_map.1 hd
      rw [(hE i (List.mem_range.1 hi)).1, bulkE]; omega)
    simp at this ⊢
    omega
  · obtain ⟨i, hi, rfl⟩ := List.mem_map.1 he
    have h1 := Bk.mem (List.mem_map.2 ⟨i, hi, rfl⟩ : D i ∈ (List.range len).map D)
    rw [(hE i (List.mem_range.1 hi)).1, bulkE] at h1
    omega
end Go.Proofs.Ytogbahkoijkclaa
