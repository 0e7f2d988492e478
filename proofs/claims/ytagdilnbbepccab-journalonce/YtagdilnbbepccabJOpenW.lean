/- Changes, commits and journals that are handed in: how great they are, by the reach of every argument. -/
import Derived.Test.YtagdilnbbepccabMK
set_option linter.unusedSimpArgs false
set_option linter.unusedVariables false
namespace Go.Proofs.Ytagdilnbbepccab
open Go.ChangeShapes Go.WideShapes Go.ChangeAt Go.RowKit

theorem Try.bytesCh : Try.prog.bytesOf 35 = 64 := by kernel_rfl
theorem Try.bytesCo : Try.prog.bytesOf 59 = 48 := by kernel_rfl

set_option maxRecDepth 100000 in
theorem open_changes_w {H : Type} {enc : TypeId × Value → H} {W : World} {v : Value} {d : DataW H} {p : List MemPlace} {fuel : Nat} (hf : DataW.trod enc Try.prog W 0 (fun _ => true) true fuel 26 [v] = some (d, p)) (hk : ∀ n ∈ d.weights Try.prog 26, n ≤ reachBytes) :
    ∃ cs : List Pp.Ch, LiesC W v cs ∧ SizedC reachBytes cs := by
  haveI : Inhabited Pp.Ch := ⟨⟨0, ⟨#[]⟩, ⟨#[]⟩, ⟨#[]⟩, 0⟩⟩
  rcases Go.Deep.open_slice Try.underlying26 hf with ⟨hcs, hx⟩ | ⟨a, len, cap, m, n, D, Pl, hcs, hb, hl, hm, hmm, hx, hel⟩
  · obtain rfl : v = .slice none 0 0 := by simpa using hcs
    exact ⟨[], ⟨none, 0, rfl, Nat.le_refl _, by simp, fun i hi => absurd hi (by simp)⟩, fun e he => by cases he⟩
  obtain rfl : v = .slice (some a) len cap := by simpa using hcs
  have hm2 : m = cap := hmm.trans (if_pos rfl)
  clear hmm
  have hd := (Prod.mk.inj hx).1
  clear hx
  subst hm2
  have hsp : 0 < len → a.spot = none := fun h => by
    obtain ⟨cs', h1, _⟩ := hel 0 (by omega)
    rw [Try.cellsC] at h1
    obtain ⟨_, hlen, hc⟩ := World.cells?_some h1
    obtain ⟨c0, c1, c2, c3, c4, rfl⟩ := list5 hlen
    have k0 := hc 0 (by omega)
    exact spot_none (v := c0) (by simpa [Addr.add] using k0)
  have each : ∀ i, i < len → ∃ e : Pp.Ch, D i = datC e ∧ a.spot = none ∧ ChAt W a.block (a.off + i * 5) e := fun i hi => by
    obtain ⟨cs', h1, h2⟩ := hel i (by omega)
    exact open_ch (hsp (by omega)) h1 h2
  obtain ⟨E, hE⟩ := Go.Deep.choose_lt each
  obtain ⟨sp, hd'⟩ : ∃ sp, d = .slice ((List.range len).map D) sp := ⟨_, hd⟩
  have hlen64 : (len + sp.length) * 64 ≤ reachBytes := by
    have := hk ((len + sp.length) * 64) (by
      rw [hd', DataW.weights]
      simp only [Try.underlying26, Try.bytesCh, List.length_map, List.length_range]
      exact List.mem_cons_self ..)
    exact this
  have hel2 : ∀ i, i < len → ∀ n ∈ (D i).weights Try.prog 35, n ≤ reachBytes := fun i hi n hn => hk n (by
    rw [hd', DataW.weights]
    simp only [Try.underlying26]
    refine List.mem_cons_of_mem _ (List.mem_append_left _ (all_mem (List.mem_map.2 ⟨i, List.mem_range.2 hi, rfl⟩) n hn)))
  have hrb : reachBytes = 140737488351232 := by decide
  refine ⟨(List.range len).map E, ⟨some a, _, by simp; rfl, by simpa using hl, ?_, fun i hi => ?_⟩, fun e he => ?_⟩
  · rw [hrb] at hlen64
    simp only [List.length_map, List.length_range]
    omega
  · have hi' : i < len := by simpa using hi
    obtain ⟨h1, h2, h3⟩ := hE i hi'
    have hlt : a.block < W.heap.size := by
      have k := h3.1
      rcases Nat.lt_or_ge a.block W.heap.size with h | h
      · exact h
      · unfold World.cell? at k; rw [Array.getElem?_eq_none h] at k; cases k
    refine ⟨a.block, a.off, ?_, hlt, by simpa using h3⟩
    rw [← h2]
  · obtain ⟨i, hi, rfl⟩ := List.mem_map.1 he
    have h1 := hel2 i (List.mem_range.1 hi)
    rw [(hE i (List.mem_range.1 hi)).1] at h1
    have hw : DataW.weights Try.prog 35 (datC (H := H) (E i)) = [(E i).p.data.toList.length, (E i).q.data.toList.length, (E i).t.data.toList.length] := by
      rw [datC, DataW.weights]
      simp only [Try.underlying35]
      simp [DataW.weightsEach, DataW.weights]
    rw [hw] at h1
    rw [Lib.size_eq, Lib.size_eq, Lib.size_eq]
    exact ⟨h1 _ (by simp), h1 _ (by simp), h1 _ (by simp)⟩

set_option maxRecDepth 100000 in
theorem open_co_w {H : Type} {enc : TypeId × Value → H} {W : World} {n i : Nat} {a : Addr} {x : DataW H} {pl : List MemPlace} {cs' : List Value} (ha : a.spot = none)
    (h1 : W.cells? 0 (a.add (i * Try.prog.cellsOf 59)) (Try.prog.cellsOf 59) = some cs') (h2 : DataW.trod enc Try.prog W 0 (fun _ => true) true n 59 cs' = some (x, pl)) (hk : ∀ n ∈ x.weights Try.prog 59, n ≤ reachBytes) :
    ∃ c : Co, (c.ke.size ≤ reachBytes ∧ SizedC reachBytes c.ch) ∧ a.spot = none ∧ CoAt W a.block (a.off + i * 3) c := by
  rw [Try.cellsCo] at h1
  obtain ⟨_, hlen, hc⟩ := World.cells?_some h1
  obtain ⟨y0, y1, y2, n', hx', _, t0, t1, t2⟩ := fields3 Try.underlying59 h2
  obtain ⟨c0, c1, c2, rfl⟩ := list3 hlen
  have t0' : DataW.trod enc Try.prog W 0 (fun _ => true) true n' 3 [c0] = some y0 := by simpa [Try.cells3] using t0
  have t1' : DataW.trod enc Try.prog W 0 (fun _ => true) true n' 9 [c1] = some y1 := by simpa [Try.cells9] using t1
  have t2' : DataW.trod enc Try.prog W 0 (fun _ => true) true n' 26 [c2] = some y2 := by simpa [Try.cellsSC] using t2
  obtain ⟨s0, e0, g0, _⟩ := DataW.trod_int Try.underlying3 t0'
  obtain ⟨s1, e1, g1, _⟩ := DataW.trod_string Try.underlying9 t1'
  obtain rfl : c0 = .int .i64 s0 := by simpa using e0
  obtain rfl : c1 = .string s1 := by simpa using e1
  subst g0; subst g1
  obtain ⟨d2, p2⟩ := y2
  simp only [Prod.mk.injEq] at hx'
  have hw : x.weights Try.prog 59 = s1.data.toList.length :: d2.weights Try.prog 26 := by
    rw [hx'.1, DataW.weights]
    simp only [Try.underlying59]
    simp [DataW.weightsEach, DataW.weights]
  rw [hw] at hk
  obtain ⟨l, hl, hls⟩ := open_changes_w t2' (fun n hn => hk n (List.mem_cons_of_mem _ hn))
  have hs1 : s1.size ≤ reachBytes := by rw [Lib.size_eq]; exact hk _ (List.mem_cons_self ..)
  have k0 := hc 0 (by omega)
  have k1 := hc 1 (by omega)
  have k2 := hc 2 (by omega)
  obtain ⟨ab, ao, asp⟩ := a
  obtain rfl : asp = none := ha
  refine ⟨⟨s0, s1, l⟩, ⟨hs1, hls⟩, rfl, ?_, ?_, c2, ?_, hl⟩
  · by_cases hi0 : i = 0
    · subst hi0; simpa [Addr.add] using k0
    · have hi4 : i * 3 ≠ 0 := by omega
      simpa [Addr.add, hi4] using k0
  · by_cases hi0 : i = 0
    · subst hi0; simpa [Addr.add] using k1
    · have hi4 : i * 3 ≠ 0 := by omega
      simpa [Addr.add, hi4, Nat.add_assoc] using k1
  · by_cases hi0 : i = 0
    · subst hi0; simpa [Addr.add] using k2
    · have hi4 : i * 3 ≠ 0 := by omega
      simpa [Addr.add, hi4, Nat.add_assoc] using k2

set_option maxRecDepth 100000 in
theorem open_commits_w {H : Type} {enc : TypeId × Value → H} {W : World} {v : Value} {d : DataW H} {p : List MemPlace} {fuel : Nat} (hf : DataW.trod enc Try.prog W 0 (fun _ => true) true fuel 23 [v] = some (d, p)) (hk : ∀ n ∈ d.weights Try.prog 23, n ≤ reachBytes) :
    ∃ l : List Co, LiesO W v l ∧ SizedO reachBytes l := by
  haveI : Inhabited Co := ⟨⟨0, ⟨#[]⟩, []⟩⟩
  rcases Go.Deep.open_slice Try.underlying23 hf with ⟨hcs, hx⟩ | ⟨a, len, cap, m, n, D, Pl, hcs, hb, hl, hm, hmm, hx, hel⟩
  · obtain rfl : v = .slice none 0 0 := by simpa using hcs
    exact ⟨[], liesO_nil _, fun e he => by cases he⟩
  obtain rfl : v = .slice (some a) len cap := by simpa using hcs
  have hm2 : m = cap := hmm.trans (if_pos rfl)
  clear hmm
  have hd := (Prod.mk.inj hx).1
  clear hx
  subst hm2
  have hsp : 0 < len → a.spot = none := fun h => by
    obtain ⟨cs', h1, _⟩ := hel 0 (by omega)
    rw [Try.cellsCo] at h1
    obtain ⟨_, hlen, hc⟩ := World.cells?_some h1
    obtain ⟨c0, c1, c2, rfl⟩ := list3 hlen
    have k0 := hc 0 (by omega)
    exact spot_none (v := c0) (by simpa [Addr.add] using k0)
  obtain ⟨sp, hd'⟩ : ∃ sp, d = .slice ((List.range len).map D) sp := ⟨_, hd⟩
  have hlen48 : (len + sp.length) * 48 ≤ reachBytes := by
    have := hk ((len + sp.length) * 48) (by
      rw [hd', DataW.weights]
      simp only [Try.underlying23, Try.bytesCo, List.length_map, List.length_range]
      exact List.mem_cons_self ..)
    exact this
  have hel2 : ∀ i, i < len → ∀ n ∈ (D i).weights Try.prog 59, n ≤ reachBytes := fun i hi n hn => hk n (by
    rw [hd', DataW.weights]
    simp only [Try.underlying23]
    refine List.mem_cons_of_mem _ (List.mem_append_left _ (all_mem (List.mem_map.2 ⟨i, List.mem_range.2 hi, rfl⟩) n hn)))
  have hrb : reachBytes = 140737488351232 := by decide
  have each : ∀ i, i < len → ∃ e : Co, (e.ke.size ≤ reachBytes ∧ SizedC reachBytes e.ch) ∧ a.spot = none ∧ CoAt W a.block (a.off + i * 3) e := fun i hi => by
    obtain ⟨cs', h1, h2⟩ := hel i (by omega)
    exact open_co_w (hsp (by omega)) h1 h2 (hel2 i hi)
  obtain ⟨E, hE⟩ := Go.Deep.choose_lt each
  refine ⟨(List.range len).map E, ⟨some a, _, by simp; rfl, by simpa using hl, ?_, fun i hi => ?_⟩, fun e he => ?_⟩
  · rw [hrb] at hlen48
    simp only [List.length_map, List.length_range]
    omega
  · have hi' : i < len := by simpa using hi
    obtain ⟨h1, h2, h3⟩ := hE i hi'
    have hlt : a.block < W.heap.size := by
      have k := h3.1
      rcases Nat.lt_or_ge a.block W.heap.size with h | h
      · exact h
      · unfold World.cell? at k; rw [Array.getElem?_eq_none h] at k; cases k
    refine ⟨a.block, a.off, ?_, hlt, by simpa using h3⟩
    rw [← h2]
  · obtain ⟨i, hi, rfl⟩ := List.mem_map.1 he
    exact (hE i (List.mem_range.1 hi)).1

set_option maxRecDepth 100000 in
theorem open_journal_w {H : Type} {enc : TypeId × Value → H} {W : World} {r : Reach} {b0 : Nat} {v : Value} {d : DataW H} {pl : List MemPlace} (hv : Value.okWide Try.prog W r b0 25 v) (h : DataW.Trod enc Try.prog W 0 (fun _ => true) true 25 v d pl) (hk : ∀ n ∈ d.weights Try.prog 25, n ≤ reachBytes) :
    ∃ J : Jo, LiesJ W v J ∧ SizedO reachBytes J.cos ∧ ∀ e ∈ J.base, e.path.size ≤ reachBytes ∧ e.text.size ≤ reachBytes := by
  obtain ⟨cs, rfl, hsz⟩ := okWide_struct Try.underlying25 hv
  obtain ⟨fuel, hf⟩ := h
  have hf' : DataW.trod enc Try.prog W 0 (fun _ => true) true fuel 25 cs.toList = some (d, pl) := by simpa [Value.cells] using hf
  obtain ⟨y0, y1, y2, n', hx, hlen, t0, t1, t2⟩ := fields3 Try.underlying25 hf'
  rw [Try.cellsJo] at hlen
  obtain ⟨c0, c1, c2, hcs⟩ := list3 hlen
  rw [hcs] at t0 t1 t2
  have t0' : DataW.trod enc Try.prog W 0 (fun _ => true) true n' 22 [c0] = some y0 := by simpa [Try.cellsSE] using t0
  have t1' : DataW.trod enc Try.prog W 0 (fun _ => true) true n' 3 [c1] = some y1 := by simpa [Try.cells3] using t1
  have t2' : DataW.trod enc Try.prog W 0 (fun _ => true) true n' 23 [c2] = some y2 := by simpa [Try.cellsSO] using t2
  obtain ⟨s1, e1, g1, _⟩ := DataW.trod_int Try.underlying3 t1'
  obtain rfl : c1 = .int .i64 s1 := by simpa using e1
  subst g1
  obtain ⟨d0, p0⟩ := y0
  obtain ⟨d2, p2⟩ := y2
  simp only [Prod.mk.injEq] at hx
  have hw : d.weights Try.prog 25 = d0.weights Try.prog 22 ++ d2.weights Try.prog 23 := by
    rw [hx.1, DataW.weights]
    simp only [Try.underlying25]
    simp [DataW.weightsEach, DataW.weights]
  rw [hw] at hk
  obtain ⟨L, hL, hLs⟩ := open_tree_w (fuel := n') t0' (fun n hn => hk n (List.mem_append_left _ hn))
  obtain ⟨l, hl, hls⟩ := open_commits_w t2' (fun n hn => hk n (List.mem_append_right _ hn))
  have hag : cs = #[c0, .int .i64 s1, c2] := Array.ext' (by simpa using hcs)
  exact ⟨⟨L, s1, l⟩, ⟨c0, c2, by rw [hag], hL, hl⟩, hls, hLs⟩
end Go.Proofs.Ytagdilnbbepccab
