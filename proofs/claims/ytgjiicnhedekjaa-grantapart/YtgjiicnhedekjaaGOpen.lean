/- A list of grants that is handed in: its grants, and how great they are. -/
import Derived.Test.YtgjiicnhedekjaaG1
import Derived.Test.YtgjiicnhedekjaaRows
import Derived.Deep.Slices
import Derived.Lib.SmallJoins
import Derived.Carry
set_option linter.unusedSimpArgs false
set_option linter.unusedVariables false
namespace Go.Proofs.Ytgjiicnhedekjaa
open Go.ChangeShapes Go.WideShapes Go.ChangeAt Go.RowKit

namespace BkG
theorem mem {H : Type} {d : DataW H} : ∀ {l : List (DataW H)}, d ∈ l → Rows.uptoBulk d ≤ Rows.uptoBulkAll l
  | [], h => by cases h
  | x :: r, h => by
    rw [Rows.uptoBulkAll]
    rcases List.mem_cons.1 h with rfl | h
    · omega
    · have := mem h; omega
theorem len {H : Type} : ∀ {l : List (DataW H)}, (∀ d ∈ l, 1 ≤ Rows.uptoBulk d) → l.length ≤ Rows.uptoBulkAll l
  | [], _ => Nat.zero_le _
  | x :: r, h => by
    rw [Rows.uptoBulkAll, List.length_cons]
    have h1 := h x (by simp)
    have h2 := len (l := r) fun d hd => h d (by simp [hd])
    omega
end BkG

theorem Try.cellsG : Try.prog.cellsOf 33 = 3 := by kernel_rfl
theorem Try.cellsG9 : Try.prog.cellsOf 9 = 1 := by kernel_rfl
theorem Try.cellsG3 : Try.prog.cellsOf 3 = 1 := by kernel_rfl
def datG {H : Type} (e : Gr) : DataW H := .agg [.lit (.string e.fo.data.toList), .lit (.string e.wh.data.toList), .lit (.int .i64 e.ri)]
theorem bulkG {H : Type} (e : Gr) : Rows.uptoBulk (datG (H := H) e) = e.fo.size + e.wh.size + 4 := by
  rw [datG, Rows.uptoBulk, Rows.uptoBulkAll, Rows.uptoBulkAll, Rows.uptoBulkAll, Rows.uptoBulkAll, Rows.uptoBulk, Rows.uptoBulk, Rows.uptoBulk, Lib.size_eq, Lib.size_eq]
  · omega
  · intro b h; cases h
theorem list3 {α : Type} {l : List α} (h : l.length = 3) : ∃ a b c, l = [a, b, c] := by
  rcases l with _ | ⟨a, _ | ⟨b, _ | ⟨c, _ | ⟨d, r⟩⟩⟩⟩
  all_goals first | exact ⟨a, b, c, rfl⟩ | (simp at h)
theorem spotG {W : World} {a : Addr} {v : Value} (k : W.cell? a = some v) : a.spot = none := by
  unfold World.cell? at k
  cases hq : a.spot with
  | none => rfl
  | some z => rw [hq] at k; simp at k; split at k <;> cases k
theorem fields3 {H : Type} {enc : TypeId × Value → H} {P : Program} {w : World} {base : Nat} {spare : Nat → Bool} {held : Bool} {t : TypeId} {f0 f1 f2 : Field} {fuel : Nat} {cs : List Value} {x : DataW H × List MemPlace} (ht : P.underlying t = some (.struct #[f0, f1, f2])) (h : DataW.trod enc P w base spare held fuel t cs = some x) :
    ∃ y0 y1 y2 n, x = (.agg [y0.1, y1.1, y2.1], y0.2 ++ (y1.2 ++ y2.2)) ∧ cs.length = P.cellsOf t ∧ DataW.trod enc P w base spare held n f0.type ((cs.drop f0.offset).take (P.cellsOf f0.type)) = some y0 ∧
      DataW.trod enc P w base spare held n f1.type ((cs.drop f1.offset).take (P.cellsOf f1.type)) = some y1 ∧ DataW.trod enc P w base spare held n f2.type ((cs.drop f2.offset).take (P.cellsOf f2.type)) = some y2 := by
  obtain ⟨xs, n, _, rfl, hl, hlen, hf⟩ := DataW.trod_struct ht h
  match xs, hlen with
  | [y0, y1, y2], _ => exact ⟨y0, y1, y2, n, by simp, hl, by simpa using hf 0 f0 rfl, by simpa using hf 1 f1 rfl, by simpa using hf 2 f2 rfl⟩

theorem open_grant {H : Type} {enc : TypeId × Value → H} {W : World} {n i : Nat} {a : Addr} {x : DataW H} {pl : List MemPlace} {cs' : List Value} (ha : a.spot = none)
    (h1 : W.cells? 0 (a.add (i * Try.prog.cellsOf 33)) (Try.prog.cellsOf 33) = some cs') (h2 : DataW.trod enc Try.prog W 0 (fun _ => true) true n 33 cs' = some (x, pl)) :
    ∃ e : Gr, x = datG e ∧ a.spot = none ∧ GrAt W a.block (a.off + i * 3) e := by
  rw [Try.cellsG] at h1
  obtain ⟨_, hlen, hc⟩ := World.cells?_some h1
  obtain ⟨y0, y1, y2, n', hx', _, t0, t1, t2⟩ := fields3 Try.underlying33 h2
  obtain ⟨c0, c1, c2, rfl⟩ := list3 hlen
  have t0' : DataW.trod enc Try.prog W 0 (fun _ => true) true n' 9 [c0] = some y0 := by simpa [Try.cellsG9] using t0
  have t1' : DataW.trod enc Try.prog W 0 (fun _ => true) true n' 9 [c1] = some y1 := by simpa [Try.cellsG9] using t1
  have t2' : DataW.trod enc Try.prog W 0 (fun _ => true) true n' 3 [c2] = some y2 := by simpa [Try.cellsG3] using t2
  obtain ⟨s0, e0, g0, _⟩ := DataW.trod_string Try.underlying9 t0'
  obtain ⟨s1, e1, g1, _⟩ := DataW.trod_string Try.underlying9 t1'
  obtain ⟨s2, e2, g2, _⟩ := DataW.trod_int Try.underlying3 t2'
  obtain rfl : c0 = .string s0 := by simpa using e0
  obtain rfl : c1 = .string s1 := by simpa using e1
  obtain rfl : c2 = .int .i64 s2 := by simpa using e2
  subst g0; subst g1; subst g2
  simp only [Prod.mk.injEq] at hx'
  have k0 := hc 0 (by omega)
  have k1 := hc 1 (by omega)
  have k2 := hc 2 (by omega)
  obtain ⟨ab, ao, asp⟩ := a
  obtain rfl : asp = none := ha
  refine ⟨⟨s0, s1, s2⟩, hx'.1, rfl, ?_, ?_, ?_⟩
  · by_cases hi0 : i = 0
    · subst hi0; simpa [Addr.add] using k0
    · have hi4 : i * 3 ≠ 0 := by omega
      simpa [Addr.add, hi4] using k0
  · by_cases hi0 : i = 0
    · subst hi0; simpa [Addr.add] using k1
    · have hi4 : i * 3 ≠ 0 := by omega
      simpa [Addr.add, hi4, Nat.add_assoc] using k1
  · by_cases hi0 : i = 0
    · subst hi0; simpa [Addr.add] using k2
    · have hi4 : i * 3 ≠ 0 := by omega
      simpa [Addr.add, hi4, Nat.add_assoc] using k2

set_option maxRecDepth 100000 in
theorem open_grants {B : Nat} (hB : B ≤ 1000000000) {H : Type} {enc : TypeId × Value → H} {W : World} {v : Value} {d : DataW H} {p : List MemPlace} {fuel : Nat} (hf : DataW.trod enc Try.prog W 0 (fun _ => true) true fuel 22 [v] = some (d, p)) (hk : Rows.uptoBulk d ≤ B) :
    ∃ G : List Gr, LiesG W v G ∧ G.length ≤ B ∧ SizedG G := by
  haveI : Inhabited Gr := ⟨⟨⟨#[]⟩, ⟨#[]⟩, 0⟩⟩
  rcases Go.Deep.open_slice Try.underlying22 hf with ⟨hcs, hx⟩ | ⟨a, len, cap, m, n, D, Pl, hcs, hb, hl, hm, hmm, hx, hel⟩
  · obtain rfl : v = .slice none 0 0 := by simpa using hcs
    exact ⟨[], liesG_nil _, by simp, fun e he => by cases he⟩
  obtain rfl : v = .slice (some a) len cap := by simpa using hcs
  have hm2 : m = cap := hmm.trans (if_pos rfl)
  clear hmm
  have hd := (Prod.mk.inj hx).1
  clear hx
  subst hm2
  have hsp : 0 < len → a.spot = none := fun h => by
    obtain ⟨cs', h1, _⟩ := hel 0 (by omega)
    rw [Try.cellsG] at h1
    obtain ⟨_, hlen, hc⟩ := World.cells?_some h1
    obtain ⟨c0, c1, c2, rfl⟩ := list3 hlen
    have k0 := hc 0 (by omega)
    exact spotG (v := c0) (by simpa [Addr.add] using k0)
  have each : ∀ i, i < len → ∃ e : Gr, D i = datG e ∧ a.spot = none ∧ GrAt W a.block (a.off + i * 3) e := fun i hi => by
    obtain ⟨cs', h1, h2⟩ := hel i (by omega)
    exact open_grant (hsp (by omega)) h1 h2
  obtain ⟨E, hE⟩ := Go.Deep.choose_lt each
  have hbk : Rows.uptoBulkAll ((List.range len).map D) ≤ B := by
    rw [hd, Rows.uptoBulk] at hk
    omega
  refine ⟨(List.range len).map E, ⟨some a, _, by simp; rfl, by simpa using hl, ?_, fun i hi => ?_⟩, ?_, fun e he => ?_⟩
  · have := BkG.len (l := (List.range len).map D) (fun d hd => by
      obtain ⟨i, hi, rfl⟩ := List.mem_map.1 hd
      rw [(hE i (List.mem_range.1 hi)).1, bulkG]; omega)
    simp at this ⊢
    omega
  · have hi' : i < len := by simpa using hi
    obtain ⟨h1, h2, h3⟩ := hE i hi'
    have hlt : a.block < W.heap.size := by
      have k := h3.1
      rcases Nat.lt_or_ge a.block W.heap.size with h | h
      · exact h
      · unfold World.cell? at k; rw [Array.getElem?_eq_none h] at k; cases k
    refine ⟨a.block, a.off, ?_, hlt, by simpa using h3⟩
    rw [← h2]
  · have := BkG.len (l := (List.range len).map D) (fun d hd => by
      obtain ⟨i, hi, rfl⟩ := List.mem_map.1 hd
      rw [(hE i (List.mem_range.1 hi)).1, bulkG]; omega)
    simp at this ⊢
    omega
  · obtain ⟨i, hi, rfl⟩ := List.mem_map.1 he
    have h1 := BkG.mem (List.mem_map.2 ⟨i, hi, rfl⟩ : D i ∈ (List.range len).map D)
    rw [(hE i (List.mem_range.1 hi)).1, bulkG] at h1
    exact ⟨by omega, by omega⟩
end Go.Proofs.Ytgjiicnhedekjaa
