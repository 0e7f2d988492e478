/- A tree that is handed in, and a change: how great they are, by the reach of every argument. -/
import Derived.Test.YtfimahemchacfacTOpenC
import Derived.SizedLaws
set_option linter.unusedSimpArgs false
set_option linter.unusedVariables false
namespace Go.Proofs.Ytfimahemchacfac
open Go.ChangeShapes Go.WideShapes Go.ChangeAt Go.RowKit

theorem Try.bytesE : Try.prog.bytesOf 36 = 48 := by kernel_rfl
theorem all_mem {H : Type} {P : Program} {e : TypeId} : ∀ {l : List (DataW H)} {d : DataW H}, d ∈ l → ∀ n ∈ d.weights P e, n ∈ DataW.weightsAll P e l
  | [], _, h => by cases h
  | x :: r, d, h => by
    intro n hn
    rw [DataW.weightsAll]
    rcases List.mem_cons.1 h with rfl | h
    · exact List.mem_append_left _ hn
    · exact List.mem_append_right _ (all_mem h n hn)

set_option maxRecDepth 100000 in
theorem open_tree_w {H : Type} {enc : TypeId × Value → H} {W : World} {v : Value} {d : DataW H} {p : List MemPlace} {fuel : Nat} (hf : DataW.trod enc Try.prog W 0 (fun _ => true) true fuel 22 [v] = some (d, p)) (hk : ∀ n ∈ d.weights Try.prog 22, n ≤ reachBytes) :
    ∃ L : List En, Lies W v L ∧ ∀ e ∈ L, e.path.size ≤ reachBytes ∧ e.text.size ≤ reachBytes := by
  haveI : Inhabited En := ⟨⟨⟨#[]⟩, false, ⟨#[]⟩, 0⟩⟩
  rcases Go.Deep.open_slice Try.underlying22 hf with ⟨hcs, hx⟩ | ⟨a, len, cap, m, n, D, Pl, hcs, hb, hl, hm, hmm, hx, hel⟩
  · obtain rfl : v = .slice none 0 0 := by simpa using hcs
    exact ⟨[], ⟨none, 0, rfl, Nat.le_refl _, by simp, fun i hi => absurd hi (by simp)⟩, fun e he => by cases he⟩
  obtain rfl : v = .slice (some a) len cap := by simpa using hcs
  have hm2 : m = cap := hmm.trans (if_pos rfl)
  clear hmm
  have hd := (Prod.mk.inj hx).1
  clear hx
  subst hm2
  have hsp : 0 < len → a.spot = none := fun h => by
    obtain ⟨cs', h1, _⟩ := hel 0 (by omega)
    rw [Try.cellsE] at h1
    obtain ⟨_, hlen, hc⟩ := World.cells?_some h1
    obtain ⟨c0, c1, c2, c3, rfl⟩ := list4 hlen
    have k0 := hc 0 (by omega)
    exact spot_none (v := c0) (by simpa [Addr.add] using k0)
  have each : ∀ i, i < len → ∃ e : En, D i = datE e ∧ a.spot = none ∧ EnAt W a.block (a.off + i * 4) e := fun i hi => by
    obtain ⟨cs', h1, h2⟩ := hel i (by omega)
    exact open_entry (hsp (by omega)) h1 h2
  obtain ⟨E, hE⟩ := Go.Deep.choose_lt each
  obtain ⟨sp, hd'⟩ : ∃ sp, d = .slice ((List.range len).map D) sp := ⟨_, hd⟩
  have hlen48 : (len + sp.length) * 48 ≤ reachBytes := by
    have := hk ((len + sp.length) * 48) (by
      rw [hd', DataW.weights]
      simp only [Try.underlying22, Try.bytesE, List.length_map, List.length_range]
      exact List.mem_cons_self ..)
    exact this
  have hel2 : ∀ i, i < len → ∀ n ∈ (D i).weights Try.prog 36, n ≤ reachBytes := fun i hi n hn => hk n (by
    rw [hd', DataW.weights]
    simp only [Try.underlying22]
    refine List.mem_cons_of_mem _ (List.mem_append_left _ (all_mem (List.mem_map.2 ⟨i, List.mem_range.2 hi, rfl⟩) n hn)))
  have hrb : reachBytes = 140737488351232 := by decide
  refine ⟨(List.range len).map E, ⟨some a, _, by simp; rfl, by simpa using hl, ?_, fun i hi => ?_⟩, fun e he => ?_⟩
  · rw [hrb] at hlen48
    simp only [List.length_map, List.length_range]
    omega
  · have hi' : i < len := by simpa using hi
    obtain ⟨h1, h2, h3⟩ := hE i hi'
    have hlt : a.block < W.heap.size := by
      have k := h3.1
      rcases Nat.lt_or_ge a.block W.heap.size with h | h
      · exact h
      · unfold World.cell? at k; rw [Array.getElem?_eq_none h] at k; cases k
    refine ⟨a.block, a.off, ?_, hlt, by simpa using h3⟩
    rw [← h2]
  · obtain ⟨i, hi, rfl⟩ := List.mem_map.1 he
    have h1 := hel2 i (List.mem_range.1 hi)
    rw [(hE i (List.mem_range.1 hi)).1] at h1
    have hw : DataW.weights Try.prog 36 (datE (H := H) (E i)) = [(E i).path.data.toList.length, (E i).text.data.toList.length] := by
      rw [datE, DataW.weights]
      simp only [Try.underlying36]
      simp [DataW.weightsEach, DataW.weights]
    rw [hw] at h1
    rw [Lib.size_eq, Lib.size_eq]
    exact ⟨h1 _ (by simp), h1 _ (by simp)⟩

set_option maxRecDepth 100000 in
theorem open_change_w {H : Type} {enc : TypeId × Value → H} {W : World} {r : Reach} {b0 : Nat} {v : Value} {d : DataW H} {pl : List MemPlace} (hv : Value.okWide Try.prog W r b0 32 v) (h : DataW.Trod enc Try.prog W 0 (fun _ => true) true 32 v d pl) (hk : ∀ n ∈ d.weights Try.prog 32, n ≤ reachBytes) :
    ∃ (k : Int) (p q t : ByteArray) (b : Int), v = .agg #[.int .i64 k, .string p, .string q, .string t, .int .i64 b] ∧ p.size ≤ reachBytes ∧ q.size ≤ reachBytes ∧ t.size ≤ reachBytes := by
  obtain ⟨cs, rfl, hsz⟩ := okWide_struct Try.underlying32 hv
  obtain ⟨fuel, hf⟩ := h
  have hf' : DataW.trod enc Try.prog W 0 (fun _ => true) true fuel 32 cs.toList = some (d, pl) := by simpa [Value.cells] using hf
  obtain ⟨y0, y1, y2, y3, y4, n', hx, hlen, t0, t1, t2, t3, t4⟩ := fields5 Try.underlying32 hf'
  rw [Try.cellsC] at hlen
  obtain ⟨c0, c1, c2, c3, c4, hcs⟩ := list5 hlen
  rw [hcs] at t0 t1 t2 t3 t4
  have t0' : DataW.trod enc Try.prog W 0 (fun _ => true) true n' 3 [c0] = some y0 := by simpa [Try.cells3] using t0
  have t1' : DataW.trod enc Try.prog W 0 (fun _ => true) true n' 9 [c1] = some y1 := by simpa [Try.cells9] using t1
  have t2' : DataW.trod enc Try.prog W 0 (fun _ => true) true n' 9 [c2] = some y2 := by simpa [Try.cells9] using t2
  have t3' : DataW.trod enc Try.prog W 0 (fun _ => true) true n' 9 [c3] = some y3 := by simpa [Try.cells9] using t3
  have t4' : DataW.trod enc Try.prog W 0 (fun _ => true) true n' 3 [c4] = some y4 := by simpa [Try.cells3] using t4
  obtain ⟨s0, e0, g0, _⟩ := DataW.trod_int Try.underlying3 t0'
  obtain ⟨s1, e1, g1, _⟩ := DataW.trod_string Try.underlying9 t1'
  obtain ⟨s2, e2, g2, _⟩ := DataW.trod_string Try.underlying9 t2'
  obtain ⟨s3, e3, g3, _⟩ := DataW.trod_string Try.underlying9 t3'
  obtain ⟨s4, e4, g4, _⟩ := DataW.trod_int Try.underlying3 t4'
  obtain rfl : c0 = .int .i64 s0 := by simpa using e0
  obtain rfl : c1 = .string s1 := by simpa using e1
  obtain rfl : c2 = .string s2 := by simpa using e2
  obtain rfl : c3 = .string s3 := by simpa using e3
  obtain rfl : c4 = .int .i64 s4 := by simpa using e4
  subst g0; subst g1; subst g2; subst g3; subst g4
  simp only [Prod.mk.injEq] at hx
  have hb := hx.1
  have hw : d.weights Try.prog 32 = [s1.data.toList.length, s2.data.toList.length, s3.data.toList.length] := by
    rw [hb, DataW.weights]
    simp only [Try.underlying32]
    simp [DataW.weightsEach, DataW.weights]
  rw [hw] at hk
  refine ⟨s0, s1, s2, s3, s4, ?_, ?_, ?_, ?_⟩
  · congr 1
    exact Array.ext' (by simpa using hcs)
  · rw [Lib.size_eq]; exact hk _ (by simp)
  · rw [Lib.size_eq]; exact hk _ (by simp)
  · rw [Lib.size_eq]; exact hk _ (by simp)
end Go.Proofs.Ytfimahemchacfac
