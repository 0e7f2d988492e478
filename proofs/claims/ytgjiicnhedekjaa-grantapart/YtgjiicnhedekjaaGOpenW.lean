/- A list of grants that is handed in: how great they are, by the reach of every argument. -/
import Derived.Test.YtgjiicnhedekjaaGOpen
import Derived.SizedLaws
set_option linter.unusedSimpArgs false
set_option linter.unusedVariables false
namespace Go.Proofs.Ytgjiicnhedekjaa
open Go.ChangeShapes Go.WideShapes Go.ChangeAt Go.RowKit

theorem Try.bytesG : Try.prog.bytesOf 33 = 40 := by kernel_rfl
theorem all_memG {H : Type} {P : Program} {e : TypeId} : ∀ {l : List (DataW H)} {d : DataW H}, d ∈ l → ∀ n ∈ d.weights P e, n ∈ DataW.weightsAll P e l
  | [], _, h => by cases h
  | x :: r, d, h => by
    intro n hn
    rw [DataW.weightsAll]
    rcases List.mem_cons.1 h with rfl | h
    · exact List.mem_append_left _ hn
    · exact List.mem_append_right _ (all_memG h n hn)

set_option maxRecDepth 100000 in
theorem open_grants_w {H : Type} {enc : TypeId × Value → H} {W : World} {v : Value} {d : DataW H} {p : List MemPlace} {fuel : Nat} (hf : DataW.trod enc Try.prog W 0 (fun _ => true) true fuel 22 [v] = some (d, p)) (hk : ∀ n ∈ d.weights Try.prog 22, n ≤ reachBytes) :
    ∃ L : List Gr, LiesG W v L ∧ SizedG L := by
  haveI : Inhabited Gr := ⟨⟨⟨#[]⟩, ⟨#[]⟩, 0⟩⟩
  rcases Go.Deep.open_slice Try.underlying22 hf with ⟨hcs, hx⟩ | ⟨a, len, cap, m, n, D, Pl, hcs, hb, hl, hm, hmm, hx, hel⟩
  · obtain rfl : v = .slice none 0 0 := by simpa using hcs
    exact ⟨[], liesG_nil _, fun e he => by cases he⟩
  obtain rfl : v = .slice (some a) len cap := by simpa using hcs
  have hm2 : m = cap := hmm.trans (if_pos rfl)
  clear hmm
  have hd := (Prod.mk.inj hx).1
  clear hx
  subst hm2
  have hsp : 0 < len → a.spot = none := fun h => by
    obtain ⟨cs', h1, _⟩ := hel 0 (by omega)
    rw [Try.cellsG] at h1
    obtain ⟨_, hlen, hc⟩ := World.cells?_some h1
    obtain ⟨c0, c1, c2, rfl⟩ := list3 hlen
    have k0 := hc 0 (by omega)
    exact spotG (v := c0) (by simpa [Addr.add] using k0)
  have each : ∀ i, i < len → ∃ e : Gr, D i = datG e ∧ a.spot = none ∧ GrAt W a.block (a.off + i * 3) e := fun i hi => by
    obtain ⟨cs', h1, h2⟩ := hel i (by omega)
    exact open_grant (hsp (by omega)) h1 h2
  obtain ⟨E, hE⟩ := Go.Deep.choose_lt each
  obtain ⟨sp, hd'⟩ : ∃ sp, d = .slice ((List.range len).map D) sp := ⟨_, hd⟩
  have hlen40 : (len + sp.length) * 40 ≤ reachBytes := by
    have := hk ((len + sp.length) * 40) (by
      rw [hd', DataW.weights]
      simp only [Try.underlying22, Try.bytesG, List.length_map, List.length_range]
      exact List.mem_cons_self ..)
    exact this
  have hel2 : ∀ i, i < len → ∀ n ∈ (D i).weights Try.prog 33, n ≤ reachBytes := fun i hi n hn => hk n (by
    rw [hd', DataW.weights]
    simp only [Try.underlying22]
    refine List.mem_cons_of_mem _ (List.mem_append_left _ (all_memG (List.mem_map.2 ⟨i, List.mem_range.2 hi, rfl⟩) n hn)))
  have hrb : reachBytes = 140737488351232 := by decide
  refine ⟨(List.range len).map E, ⟨some a, _, by simp; rfl, by simpa using hl, ?_, fun i hi => ?_⟩, fun e he => ?_⟩
  · rw [hrb] at hlen40
    simp only [List.length_map, List.length_range]
    omega
  · have hi' : i < len := by simpa using hi
    obtain ⟨h1, h2, h3⟩ := hE i hi'
    have hlt : a.block < W.heap.size := by
      have k := h3.1
      rcases Nat.lt_or_ge a.block W.heap.size with h | h
      · exact h
      · unfold World.cell? at k; rw [Array.getElem?_eq_none h] at k; cases k
    refine ⟨a.block, a.off, ?_, hlt, by simpa using h3⟩
    rw [← h2]
  · obtain ⟨i, hi, rfl⟩ := List.mem_map.1 he
    have h1 := hel2 i (List.mem_range.1 hi)
    rw [(hE i (List.mem_range.1 hi)).1] at h1
    have hw : DataW.weights Try.prog 33 (datG (H := H) (E i)) = [(E i).fo.data.toList.length, (E i).wh.data.toList.length] := by
      rw [datG, DataW.weights]
      simp only [Try.underlying33]
      simp [DataW.weightsEach, DataW.weights]
    rw [hw, hrb] at h1
    rw [Lib.size_eq, Lib.size_eq]
    have a1 := h1 _ (List.mem_cons_self ..)
    have a2 := h1 _ (List.mem_cons_of_mem _ (List.mem_cons_self ..))
    exact ⟨by omega, by omega⟩
end Go.Proofs.Ytgjiicnhedekjaa
