/- A tree that is handed in, and a change: how great they are, by the reach of every argument. Changes that are handed in: how great they are, by the reach of every argument. Changes, commits and journals that are handed in: how great they are, by the reach of every argument. Hubs and requests that are handed in: what lies there, and how great it is, by the reach of every argument. -/
import Derived.Test.YtchlgpeiombmdaaGreatKO
import Derived.SizedLaws
set_option linter.unusedSimpArgs false
set_option linter.unusedVariables false
namespace Go.Proofs.YtchlgpeiombmdaaGreat
open Go.ChangeShapes Go.WideShapes Go.ChangeAt Go.RowKit

theorem Tryz.bytesE : Tryz.prog.bytesOf 60 = 48 := by kernel_rfl
theorem all_mem {H : Type} {P : Program} {e : TypeId} : ∀ {l : List (DataW H)} {d : DataW H}, d ∈ l → ∀ n ∈ d.weights P e, n ∈ DataW.weightsAll P e l
 | [], _, h => by cases h
 | x :: r, d, h => by
  intro n hn
  rw [DataW.weightsAll]
  rcases List.mem_cons.1 h with rfl | h
  · exact List.mem_append_left _ hn
  · exact List.mem_append_right _ (all_mem h n hn)
set_option maxRecDepth 100000 in
theorem open_tree_w {H : Type} {enc : TypeId × Value → H} {W : World} {v : Value} {d : DataW H} {p : List MemPlace} {fuel : Nat} (hf : DataW.trod enc Tryz.prog W 0 (fun _ => true) true fuel 34 [v] = some (d, p)) (hk : ∀ n ∈ d.weights Tryz.prog 34, n ≤ reachBytes) :
    ∃ L : List En, Lies W v L ∧ ∀ e ∈ L, e.path.size ≤ reachBytes ∧ e.text.size ≤ reachBytes := by
 haveI : Inhabited En := ⟨⟨⟨#[]⟩, false, ⟨#[]⟩, 0⟩⟩
 rcases Go.Deep.open_slice Tryz.underlying34 hf with ⟨hcs, hx⟩ | ⟨a, len, cap, m, n, D, Pl, hcs, hb, hl, hm, hmm, hx, hel⟩
 · obtain rfl : v = .slice none 0 0 := by simpa using hcs
   exact ⟨[], ⟨none, 0, rfl, Nat.le_refl _, by simp, fun i hi => absurd hi (by simp)⟩, fun e he => by cases he⟩
 obtain rfl : v = .slice (some a) len cap := by simpa using hcs
 have hm2 : m = cap := hmm.trans (if_pos rfl)
 clear hmm
 have hd := (Prod.mk.inj hx).1
 clear hx
 subst hm2
 have hsp : 0 < len → a.spot = none := fun h => by
  obtain ⟨cs', h1, _⟩ := hel 0 (by omega)
  rw [Tryz.cellsE] at h1
  obtain ⟨_, hlen, hc⟩ := World.cells?_some h1
  obtain ⟨c0, c1, c2, c3, rfl⟩ := list4 hlen
  have k0 := hc 0 (by omega)
  exact spot_none (v := c0) (by simpa [Addr.add] using k0)
 have each : ∀ i, i < len → ∃ e : En, D i = datE e ∧ a.spot = none ∧ EnAt W a.block (a.off + i * 4) e := fun i hi => by
  obtain ⟨cs', h1, h2⟩ := hel i (by omega)
  exact open_entry (hsp (by omega)) h1 h2
 obtain ⟨E, hE⟩ := Go.Deep.choose_lt each
 obtain ⟨sp, hd'⟩ : ∃ sp, d = .slice ((List.range len).map D) sp := ⟨_, hd⟩
 have hlen48 : (len + sp.length) * 48 ≤ reachBytes := by
  have := hk ((len + sp.length) * 48) (by
   rw [hd', DataW.weights]
   simp only [Tryz.underlying34, Tryz.bytesE, List.length_map, List.length_range]
   exact List.mem_cons_self ..)
  exact this
 have hel2 : ∀ i, i < len → ∀ n ∈ (D i).weights Tryz.prog 60, n ≤ reachBytes := fun i hi n hn => hk n (by
  rw [hd', DataW.weights]
  simp only [Tryz.underlying34]
  refine List.mem_cons_of_mem _ (List.mem_append_left _ (all_mem (List.mem_map.2 ⟨i, List.mem_range.2 hi, rfl⟩) n hn)))
 have hrb : reachBytes = 140737488351232 := by decide
 refine ⟨(List.range len).map E, ⟨some a, _, by simp; rfl, by simpa using hl, ?_, fun i hi => ?_⟩, fun e he => ?_⟩
 · rw [hrb] at hlen48
   simp only [List.length_map, List.length_range]
   omega
 · have hi' : i < len := by simpa using hi
   obtain ⟨h1, h2, h3⟩ := hE i hi'
   have hlt : a.block < W.heap.size := by
    have k := h3.1
    rcases Nat.lt_or_ge a.block W.heap.size with h | h
    · exact h
    · unfold World.cell? at k; rw [Array.getElem?_eq_none h] at k; cases k
   refine ⟨a.block, a.off, ?_, hlt, by simpa using h3⟩
   rw [← h2]
 · obtain ⟨i, hi, rfl⟩ := List.mem_map.1 he
   have h1 := hel2 i (List.mem_range.1 hi)
   rw [(hE i (List.mem_range.1 hi)).1] at h1
   have hw : DataW.weights Tryz.prog 60 (datE (H := H) (E i)) = [(E i).path.data.toList.length, (E i).text.data.toList.length] := by
    rw [datE, DataW.weights]
    simp only [Tryz.underlying60]
    simp [DataW.weightsEach, DataW.weights]
   rw [hw] at h1
   rw [Lib.size_eq, Lib.size_eq]
   exact ⟨h1 _ (by simp), h1 _ (by simp)⟩
set_option maxRecDepth 100000 in
theorem open_change_w {H : Type} {enc : TypeId × Value → H} {W : World} {r : Reach} {b0 : Nat} {v : Value} {d : DataW H} {pl : List MemPlace} (hv : Value.okWide Tryz.prog W r b0 67 v) (h : DataW.Trod enc Tryz.prog W 0 (fun _ => true) true 67 v d pl) (hk : ∀ n ∈ d.weights Tryz.prog 67, n ≤ reachBytes) :
    ∃ (k : Int) (p q t : ByteArray) (b : Int), v = .agg #[.int .i64 k, .string p, .string q, .string t, .int .i64 b] ∧ p.size ≤ reachBytes ∧ q.size ≤ reachBytes ∧ t.size ≤ reachBytes := by
 obtain ⟨cs, rfl, hsz⟩ := okWide_struct Tryz.underlying67 hv
 obtain ⟨fuel, hf⟩ := h
 have hf' : DataW.trod enc Tryz.prog W 0 (fun _ => true) true fuel 67 cs.toList = some (d, pl) := by simpa [Value.cells] using hf
 obtain ⟨y0, y1, y2, y3, y4, n', hx, hlen, t0, t1, t2, t3, t4⟩ := fields5 Tryz.underlying67 hf'
 rw [Tryz.cellsC] at hlen
 obtain ⟨c0, c1, c2, c3, c4, hcs⟩ := list5 hlen
 rw [hcs] at t0 t1 t2 t3 t4
 have t0' : DataW.trod enc Tryz.prog W 0 (fun _ => true) true n' 3 [c0] = some y0 := by simpa [Tryz.cells3] using t0
 have t1' : DataW.trod enc Tryz.prog W 0 (fun _ => true) true n' 9 [c1] = some y1 := by simpa [Tryz.cells9] using t1
 have t2' : DataW.trod enc Tryz.prog W 0 (fun _ => true) true n' 9 [c2] = some y2 := by simpa [Tryz.cells9] using t2
 have t3' : DataW.trod enc Tryz.prog W 0 (fun _ => true) true n' 9 [c3] = some y3 := by simpa [Tryz.cells9] using t3
 have t4' : DataW.trod enc Tryz.prog W 0 (fun _ => true) true n' 3 [c4] = some y4 := by simpa [Tryz.cells3] using t4
 obtain ⟨s0, e0, g0, _⟩ := DataW.trod_int Tryz.underlying3 t0'
 obtain ⟨s1, e1, g1, _⟩ := DataW.trod_string Tryz.underlying9 t1'
 obtain ⟨s2, e2, g2, _⟩ := DataW.trod_string Tryz.underlying9 t2'
 obtain ⟨s3, e3, g3, _⟩ := DataW.trod_string Tryz.underlying9 t3'
 obtain ⟨s4, e4, g4, _⟩ := DataW.trod_int Tryz.underlying3 t4'
 obtain rfl : c0 = .int .i64 s0 := by simpa using e0
 obtain rfl : c1 = .string s1 := by simpa using e1
 obtain rfl : c2 = .string s2 := by simpa using e2
 obtain rfl : c3 = .string s3 := by simpa using e3
 obtain rfl : c4 = .int .i64 s4 := by simpa using e4
 subst g0; subst g1; subst g2; subst g3; subst g4
 simp only [Prod.mk.injEq] at hx
 have hb := hx.1
 have hw : d.weights Tryz.prog 67 = [s1.data.toList.length, s2.data.toList.length, s3.data.toList.length] := by
  rw [hb, DataW.weights]
  simp only [Tryz.underlying67]
  simp [DataW.weightsEach, DataW.weights]
 rw [hw] at hk
 refine ⟨s0, s1, s2, s3, s4, ?_, ?_, ?_, ?_⟩
 · congr 1
   exact Array.ext' (by simpa using hcs)
 · rw [Lib.size_eq]; exact hk _ (by simp)
 · rw [Lib.size_eq]; exact hk _ (by simp)
 · rw [Lib.size_eq]; exact hk _ (by simp)
end Go.Proofs.YtchlgpeiombmdaaGreat
set_option linter.unusedSimpArgs false
set_option linter.unusedVariables false
namespace Go.Proofs.YtchlgpeiombmdaaGreat
open Go.ChangeShapes Go.WideShapes Go.ChangeAt Go.RowKit

theorem Tryz.bytesCh : Tryz.prog.bytesOf 67 = 64 := by kernel_rfl
set_option maxRecDepth 100000 in
theorem open_changes_w {H : Type} {enc : TypeId × Value → H} {W : World} {v : Value} {d : DataW H} {p : List MemPlace} {fuel : Nat} (hf : DataW.trod enc Tryz.prog W 0 (fun _ => true) true fuel 29 [v] = some (d, p)) (hk : ∀ n ∈ d.weights Tryz.prog 29, n ≤ reachBytes) :
    ∃ cs : List Pp.Ch, LiesC W v cs ∧ SizedC reachBytes cs := by
 haveI : Inhabited Pp.Ch := ⟨⟨0, ⟨#[]⟩, ⟨#[]⟩, ⟨#[]⟩, 0⟩⟩
 rcases Go.Deep.open_slice Tryz.underlying29 hf with ⟨hcs, hx⟩ | ⟨a, len, cap, m, n, D, Pl, hcs, hb, hl, hm, hmm, hx, hel⟩
 · obtain rfl : v = .slice none 0 0 := by simpa using hcs
   exact ⟨[], ⟨none, 0, rfl, Nat.le_refl _, by simp, fun i hi => absurd hi (by simp)⟩, fun e he => by cases he⟩
 obtain rfl : v = .slice (some a) len cap := by simpa using hcs
 have hm2 : m = cap := hmm.trans (if_pos rfl)
 clear hmm
 have hd := (Prod.mk.inj hx).1
 clear hx
 subst hm2
 have hsp : 0 < len → a.spot = none := fun h => by
  obtain ⟨cs', h1, _⟩ := hel 0 (by omega)
  rw [Tryz.cellsC] at h1
  obtain ⟨_, hlen, hc⟩ := World.cells?_some h1
  obtain ⟨c0, c1, c2, c3, c4, rfl⟩ := list5 hlen
  have k0 := hc 0 (by omega)
  exact spot_none (v := c0) (by simpa [Addr.add] using k0)
 have each : ∀ i, i < len → ∃ e : Pp.Ch, D i = datC e ∧ a.spot = none ∧ ChAt W a.block (a.off + i * 5) e := fun i hi => by
  obtain ⟨cs', h1, h2⟩ := hel i (by omega)
  exact open_ch (hsp (by omega)) h1 h2
 obtain ⟨E, hE⟩ := Go.Deep.choose_lt each
 obtain ⟨sp, hd'⟩ : ∃ sp, d = .slice ((List.range len).map D) sp := ⟨_, hd⟩
 have hlen64 : (len + sp.length) * 64 ≤ reachBytes := by
  have := hk ((len + sp.length) * 64) (by
   rw [hd', DataW.weights]
   simp only [Tryz.underlying29, Tryz.bytesCh, List.length_map, List.length_range]
   exact List.mem_cons_self ..)
  exact this
 have hel2 : ∀ i, i < len → ∀ n ∈ (D i).weights Tryz.prog 67, n ≤ reachBytes := fun i hi n hn => hk n (by
  rw [hd', DataW.weights]
  simp only [Tryz.underlying29]
  refine List.mem_cons_of_mem _ (List.mem_append_left _ (all_mem (List.mem_map.2 ⟨i, List.mem_range.2 hi, rfl⟩) n hn)))
 have hrb : reachBytes = 140737488351232 := by decide
 refine ⟨(List.range len).map E, ⟨some a, _, by simp; rfl, by simpa using hl, ?_, fun i hi => ?_⟩, fun e he => ?_⟩
 · rw [hrb] at hlen64
   simp only [List.length_map, List.length_range]
   omega
 · have hi' : i < len := by simpa using hi
   obtain ⟨h1, h2, h3⟩ := hE i hi'
   have hlt : a.block < W.heap.size := by
    have k := h3.1
    rcases Nat.lt_or_ge a.block W.heap.size with h | h
    · exact h
    · unfold World.cell? at k; rw [Array.getElem?_eq_none h] at k; cases k
   refine ⟨a.block, a.off, ?_, hlt, by simpa using h3⟩
   rw [← h2]
 · obtain ⟨i, hi, rfl⟩ := List.mem_map.1 he
   have h1 := hel2 i (List.mem_range.1 hi)
   rw [(hE i (List.mem_range.1 hi)).1] at h1
   have hw : DataW.weights Tryz.prog 67 (datC (H := H) (E i)) = [(E i).p.data.toList.length, (E i).q.data.toList.length, (E i).t.data.toList.length] := by
    rw [datC, DataW.weights]
    simp only [Tryz.underlying67]
    simp [DataW.weightsEach, DataW.weights]
   rw [hw] at h1
   rw [Lib.size_eq, Lib.size_eq, Lib.size_eq]
   exact ⟨h1 _ (by simp), h1 _ (by simp), h1 _ (by simp)⟩
end Go.Proofs.YtchlgpeiombmdaaGreat
set_option linter.unusedSimpArgs false
set_option linter.unusedVariables false
namespace Go.Proofs.YtchlgpeiombmdaaGreat
open Go.ChangeShapes Go.WideShapes Go.ChangeAt Go.RowKit

theorem Tryz.bytesCo : Tryz.prog.bytesOf 58 = 48 := by kernel_rfl
set_option maxRecDepth 100000 in
theorem open_co_w {H : Type} {enc : TypeId × Value → H} {W : World} {n i : Nat} {a : Addr} {x : DataW H} {pl : List MemPlace} {cs' : List Value} (ha : a.spot = none)
    (h1 : W.cells? 0 (a.add (i * Tryz.prog.cellsOf 58)) (Tryz.prog.cellsOf 58) = some cs') (h2 : DataW.trod enc Tryz.prog W 0 (fun _ => true) true n 58 cs' = some (x, pl)) (hk : ∀ n ∈ x.weights Tryz.prog 58, n ≤ reachBytes) :
    ∃ c : Co, (c.ke.size ≤ reachBytes ∧ SizedC reachBytes c.ch) ∧ a.spot = none ∧ CoAt W a.block (a.off + i * 3) c := by
 rw [Tryz.cellsCo] at h1
 obtain ⟨_, hlen, hc⟩ := World.cells?_some h1
 obtain ⟨y0, y1, y2, n', hx', _, t0, t1, t2⟩ := fields3 Tryz.underlying58 h2
 obtain ⟨c0, c1, c2, rfl⟩ := list3 hlen
 have t0' : DataW.trod enc Tryz.prog W 0 (fun _ => true) true n' 3 [c0] = some y0 := by simpa [Tryz.cells3] using t0
 have t1' : DataW.trod enc Tryz.prog W 0 (fun _ => true) true n' 9 [c1] = some y1 := by simpa [Tryz.cells9] using t1
 have t2' : DataW.trod enc Tryz.prog W 0 (fun _ => true) true n' 29 [c2] = some y2 := by simpa [Tryz.cellsSC] using t2
 obtain ⟨s0, e0, g0, _⟩ := DataW.trod_int Tryz.underlying3 t0'
 obtain ⟨s1, e1, g1, _⟩ := DataW.trod_string Tryz.underlying9 t1'
 obtain rfl : c0 = .int .i64 s0 := by simpa using e0
 obtain rfl : c1 = .string s1 := by simpa using e1
 subst g0; subst g1
 obtain ⟨d2, p2⟩ := y2
 simp only [Prod.mk.injEq] at hx'
 have hw : x.weights Tryz.prog 58 = s1.data.toList.length :: d2.weights Tryz.prog 29 := by
  rw [hx'.1, DataW.weights]
  simp only [Tryz.underlying58]
  simp [DataW.weightsEach, DataW.weights]
 rw [hw] at hk
 obtain ⟨l, hl, hls⟩ := open_changes_w t2' (fun n hn => hk n (List.mem_cons_of_mem _ hn))
 have hs1 : s1.size ≤ reachBytes := by rw [Lib.size_eq]; exact hk _ (List.mem_cons_self ..)
 have k0 := hc 0 (by omega)
 have k1 := hc 1 (by omega)
 have k2 := hc 2 (by omega)
 obtain ⟨ab, ao, asp⟩ := a
 obtain rfl : asp = none := ha
 refine ⟨⟨s0, s1, l⟩, ⟨hs1, hls⟩, rfl, ?_, ?_, c2, ?_, hl⟩
 · by_cases hi0 : i = 0
   · subst hi0; simpa [Addr.add] using k0
   · have hi4 : i * 3 ≠ 0 := by omega
     simpa [Addr.add, hi4] using k0
 · by_cases hi0 : i = 0
   · subst hi0; simpa [Addr.add] using k1
   · have hi4 : i * 3 ≠ 0 := by omega
     simpa [Addr.add, hi4, Nat.add_assoc] using k1
 · by_cases hi0 : i = 0
   · subst hi0; simpa [Addr.add] using k2
   · have hi4 : i * 3 ≠ 0 := by omega
     simpa [Addr.add, hi4, Nat.add_assoc] using k2
set_option maxRecDepth 100000 in
theorem open_commits_w {H : Type} {enc : TypeId × Value → H} {W : World} {v : Value} {d : DataW H} {p : List MemPlace} {fuel : Nat} (hf : DataW.trod enc Tryz.prog W 0 (fun _ => true) true fuel 35 [v] = some (d, p)) (hk : ∀ n ∈ d.weights Tryz.prog 35, n ≤ reachBytes) :
    ∃ l : List Co, LiesO W v l ∧ SizedO reachBytes l := by
 haveI : Inhabited Co := ⟨⟨0, ⟨#[]⟩, []⟩⟩
 rcases Go.Deep.open_slice Tryz.underlying35 hf with ⟨hcs, hx⟩ | ⟨a, len, cap, m, n, D, Pl, hcs, hb, hl, hm, hmm, hx, hel⟩
 · obtain rfl : v = .slice none 0 0 := by simpa using hcs
   exact ⟨[], liesO_nil _, fun e he => by cases he⟩
 obtain rfl : v = .slice (some a) len cap := by simpa using hcs
 have hm2 : m = cap := hmm.trans (if_pos rfl)
 clear hmm
 have hd := (Prod.mk.inj hx).1
 clear hx
 subst hm2
 have hsp : 0 < len → a.spot = none := fun h => by
  obtain ⟨cs', h1, _⟩ := hel 0 (by omega)
  rw [Tryz.cellsCo] at h1
  obtain ⟨_, hlen, hc⟩ := World.cells?_some h1
  obtain ⟨c0, c1, c2, rfl⟩ := list3 hlen
  have k0 := hc 0 (by omega)
  exact spot_none (v := c0) (by simpa [Addr.add] using k0)
 obtain ⟨sp, hd'⟩ : ∃ sp, d = .slice ((List.range len).map D) sp := ⟨_, hd⟩
 have hlen48 : (len + sp.length) * 48 ≤ reachBytes := by
  have := hk ((len + sp.length) * 48) (by
   rw [hd', DataW.weights]
   simp only [Tryz.underlying35, Tryz.bytesCo, List.length_map, List.length_range]
   exact List.mem_cons_self ..)
  exact this
 have hel2 : ∀ i, i < len → ∀ n ∈ (D i).weights Tryz.prog 58, n ≤ reachBytes := fun i hi n hn => hk n (by
  rw [hd', DataW.weights]
  simp only [Tryz.underlying35]
  refine List.mem_cons_of_mem _ (List.mem_append_left _ (all_mem (List.mem_map.2 ⟨i, List.mem_range.2 hi, rfl⟩) n hn)))
 have hrb : reachBytes = 140737488351232 := by decide
 have each : ∀ i, i < len → ∃ e : Co, (e.ke.size ≤ reachBytes ∧ SizedC reachBytes e.ch) ∧ a.spot = none ∧ CoAt W a.block (a.off + i * 3) e := fun i hi => by
  obtain ⟨cs', h1, h2⟩ := hel i (by omega)
  exact open_co_w (hsp (by omega)) h1 h2 (hel2 i hi)
 obtain ⟨E, hE⟩ := Go.Deep.choose_lt each
 refine ⟨(List.range len).map E, ⟨some a, _, by simp; rfl, by simpa using hl, ?_, fun i hi => ?_⟩, fun e he => ?_⟩
 · rw [hrb] at hlen48
   simp only [List.length_map, List.length_range]
   omega
 · have hi' : i < len := by simpa using hi
   obtain ⟨h1, h2, h3⟩ := hE i hi'
   have hlt : a.block < W.heap.size := by
    have k := h3.1
    rcases Nat.lt_or_ge a.block W.heap.size with h | h
    · exact h
    · unfold World.cell? at k; rw [Array.getElem?_eq_none h] at k; cases k
   refine ⟨a.block, a.off, ?_, hlt, by simpa using h3⟩
   rw [← h2]
 · obtain ⟨i, hi, rfl⟩ := List.mem_map.1 he
   exact (hE i (List.mem_range.1 hi)).1
set_option maxRecDepth 100000 in
theorem open_journal_w {H : Type} {enc : TypeId × Value → H} {W : World} {r : Reach} {b0 : Nat} {v : Value} {d : DataW H} {pl : List MemPlace} (hv : Value.okWide Tryz.prog W r b0 49 v) (h : DataW.Trod enc Tryz.prog W 0 (fun _ => true) true 49 v d pl) (hk : ∀ n ∈ d.weights Tryz.prog 49, n ≤ reachBytes) :
    ∃ J : Jo, LiesJ W v J ∧ SizedO reachBytes J.cos ∧ ∀ e ∈ J.base, e.path.size ≤ reachBytes ∧ e.text.size ≤ reachBytes := by
 obtain ⟨cs, rfl, hsz⟩ := okWide_struct Tryz.underlying49 hv
 obtain ⟨fuel, hf⟩ := h
 have hf' : DataW.trod enc Tryz.prog W 0 (fun _ => true) true fuel 49 cs.toList = some (d, pl) := by simpa [Value.cells] using hf
 obtain ⟨y0, y1, y2, n', hx, hlen, t0, t1, t2⟩ := fields3 Tryz.underlying49 hf'
 rw [Tryz.cellsJo] at hlen
 obtain ⟨c0, c1, c2, hcs⟩ := list3 hlen
 rw [hcs] at t0 t1 t2
 have t0' : DataW.trod enc Tryz.prog W 0 (fun _ => true) true n' 34 [c0] = some y0 := by simpa [Tryz.cellsSE] using t0
 have t1' : DataW.trod enc Tryz.prog W 0 (fun _ => true) true n' 3 [c1] = some y1 := by simpa [Tryz.cells3] using t1
 have t2' : DataW.trod enc Tryz.prog W 0 (fun _ => true) true n' 35 [c2] = some y2 := by simpa [Tryz.cellsSO] using t2
 obtain ⟨s1, e1, g1, _⟩ := DataW.trod_int Tryz.underlying3 t1'
 obtain rfl : c1 = .int .i64 s1 := by simpa using e1
 subst g1
 obtain ⟨d0, p0⟩ := y0
 obtain ⟨d2, p2⟩ := y2
 simp only [Prod.mk.injEq] at hx
 have hw : d.weights Tryz.prog 49 = d0.weights Tryz.prog 34 ++ d2.weights Tryz.prog 35 := by
  rw [hx.1, DataW.weights]
  simp only [Tryz.underlying49]
  simp [DataW.weightsEach, DataW.weights]
 rw [hw] at hk
 obtain ⟨L, hL, hLs⟩ := open_tree_w (fuel := n') t0' (fun n hn => hk n (List.mem_append_left _ hn))
 obtain ⟨l, hl, hls⟩ := open_commits_w t2' (fun n hn => hk n (List.mem_append_right _ hn))
 have hag : cs = #[c0, .int .i64 s1, c2] := Array.ext' (by simpa using hcs)
 exact ⟨⟨L, s1, l⟩, ⟨c0, c2, by rw [hag], hL, hl⟩, hls, hLs⟩
end Go.Proofs.YtchlgpeiombmdaaGreat
set_option linter.unusedSimpArgs false
set_option linter.unusedVariables false
namespace Go.Proofs.YtchlgpeiombmdaaGreat
open Go.ChangeShapes Go.WideShapes Go.ChangeAt Go.RowKit


set_option maxRecDepth 100000 in
theorem open_sh_w {H : Type} {enc : TypeId × Value → H} {W : World} {n i : Nat} {a : Addr} {x : DataW H} {pl : List MemPlace} {cs' : List Value} (ha : a.spot = none)
    (h1 : W.cells? 0 (a.add (i * Tryz.prog.cellsOf 51)) (Tryz.prog.cellsOf 51) = some cs') (h2 : DataW.trod enc Tryz.prog W 0 (fun _ => true) true n 51 cs' = some (x, pl)) (hk : ∀ n ∈ x.weights Tryz.prog 51, n ≤ reachBytes) :
    ∃ s : Sh, (s.na.size ≤ reachBytes ∧ (∀ e ∈ s.jo.base, e.path.size ≤ reachBytes ∧ e.text.size ≤ reachBytes) ∧ SizedO reachBytes s.jo.cos) ∧ a.spot = none ∧ ShAt W a.block (a.off + i * 4) s := by
 rw [Tryz.cellsSh] at h1
 obtain ⟨_, hlen, hc⟩ := World.cells?_some h1
 obtain ⟨y0, y1, n', pl', hx', _, t0, t1⟩ := fieldsH2 Tryz.underlying51 h2
 obtain ⟨c0, c1, c2, c3, rfl⟩ := listH4 hlen
 have t0' : DataW.trod enc Tryz.prog W 0 (fun _ => true) true n' 9 [c0] = some y0 := by simpa [Tryz.cells9] using t0
 have t1' : DataW.trod enc Tryz.prog W 0 (fun _ => true) true n' 49 [c1, c2, c3] = some y1 := by simpa [Tryz.cellsHJo] using t1
 obtain ⟨s0, e0, g0, _⟩ := DataW.trod_string Tryz.underlying9 t0'
 obtain rfl : c0 = .string s0 := by simpa using e0
 subst g0
 obtain ⟨z0, z1, z2, n'', pl'', hz', _, u0, u1, u2⟩ := fieldsH3 Tryz.underlying49 t1'
 have u0' : DataW.trod enc Tryz.prog W 0 (fun _ => true) true n'' 34 [c1] = some z0 := by simpa [Tryz.cellsSE] using u0
 have u1' : DataW.trod enc Tryz.prog W 0 (fun _ => true) true n'' 3 [c2] = some z1 := by simpa [Tryz.cells3] using u1
 have u2' : DataW.trod enc Tryz.prog W 0 (fun _ => true) true n'' 35 [c3] = some z2 := by simpa [Tryz.cellsSO] using u2
 obtain ⟨s2, e2, g2, _⟩ := DataW.trod_int Tryz.underlying3 u1'
 obtain rfl : c2 = .int .i64 s2 := by simpa using e2
 subst g2
 obtain ⟨d0, p0⟩ := z0
 obtain ⟨d2, p2⟩ := z2
 subst hz'
 simp only [Prod.mk.injEq] at hx'
 have hw : x.weights Tryz.prog 51 = s0.data.toList.length :: (d0.weights Tryz.prog 34 ++ d2.weights Tryz.prog 35) := by
  rw [hx'.1, DataW.weights]
  simp only [Tryz.underlying51]
  simp [DataW.weightsEach, DataW.weights, Tryz.underlying49]
 rw [hw] at hk
 obtain ⟨L, hL, hLs⟩ := open_tree_w u0' (fun n hn => hk n (List.mem_cons_of_mem _ (List.mem_append_left _ hn)))
 obtain ⟨l, hl, hls⟩ := open_commits_w u2' (fun n hn => hk n (List.mem_cons_of_mem _ (List.mem_append_right _ hn)))
 have hs0 : s0.size ≤ reachBytes := by rw [Lib.size_eq]; exact hk _ (List.mem_cons_self ..)
 have k0 := hc 0 (by omega)
 have k1 := hc 1 (by omega)
 have k2 := hc 2 (by omega)
 have k3 := hc 3 (by omega)
 obtain ⟨ab, ao, asp⟩ := a
 obtain rfl : asp = none := ha
 refine ⟨⟨s0, ⟨L, s2, l⟩⟩, ⟨hs0, hLs, hls⟩, rfl, ?_, c1, c3, ?_, ?_, ?_, hL, hl⟩
 · by_cases hi0 : i = 0
   · subst hi0; simpa [Addr.add] using k0
   · have hi4 : i * 4 ≠ 0 := by omega
     simpa [Addr.add, hi4] using k0
 · by_cases hi0 : i = 0
   · subst hi0; simpa [Addr.add] using k1
   · have hi4 : i * 4 ≠ 0 := by omega
     simpa [Addr.add, hi4, Nat.add_assoc] using k1
 · by_cases hi0 : i = 0
   · subst hi0; simpa [Addr.add] using k2
   · have hi4 : i * 4 ≠ 0 := by omega
     simpa [Addr.add, hi4, Nat.add_assoc] using k2
 · by_cases hi0 : i = 0
   · subst hi0; simpa [Addr.add] using k3
   · have hi4 : i * 4 ≠ 0 := by omega
     simpa [Addr.add, hi4, Nat.add_assoc] using k3
set_option maxRecDepth 100000 in
theorem open_shares_w {H : Type} {enc : TypeId × Value → H} {W : World} {v : Value} {d : DataW H} {p : List MemPlace} {fuel : Nat} (hf : DataW.trod enc Tryz.prog W 0 (fun _ => true) true fuel 22 [v] = some (d, p)) (hk : ∀ n ∈ d.weights Tryz.prog 22, n ≤ reachBytes) :
    ∃ l : List Sh, LiesF W v l ∧ ∀ s ∈ l, s.na.size ≤ reachBytes ∧ (∀ e ∈ s.jo.base, e.path.size ≤ reachBytes ∧ e.text.size ≤ reachBytes) ∧ SizedO reachBytes s.jo.cos := by
 haveI : Inhabited Sh := ⟨⟨⟨#[]⟩, ⟨[], 0, []⟩⟩⟩
 rcases Go.Deep.open_slice Tryz.underlying22 hf with ⟨hcs, hx⟩ | ⟨a, len, cap, m, n, D, Pl, hcs, hb, hl, hm, hmm, hx, hel⟩
 · obtain rfl : v = .slice none 0 0 := by simpa using hcs
   exact ⟨[], liesF_nil _, fun e he => by cases he⟩
 obtain rfl : v = .slice (some a) len cap := by simpa using hcs
 have hm2 : m = cap := hmm.trans (if_pos rfl)
 clear hmm
 have hd := (Prod.mk.inj hx).1
 clear hx
 subst hm2
 have hsp : 0 < len → a.spot = none := fun h => by
  obtain ⟨cs', h1, _⟩ := hel 0 (by omega)
  rw [Tryz.cellsSh] at h1
  obtain ⟨_, hlen, hc⟩ := World.cells?_some h1
  obtain ⟨c0, c1, c2, c3, rfl⟩ := listH4 hlen
  have k0 := hc 0 (by omega)
  exact spot_none (v := c0) (by simpa [Addr.add] using k0)
 obtain ⟨sp, hd'⟩ : ∃ sp, d = .slice ((List.range len).map D) sp := ⟨_, hd⟩
 have hlen72 : (len + sp.length) * 72 ≤ reachBytes := by
  have := hk ((len + sp.length) * 72) (by
   rw [hd', DataW.weights]
   simp only [Tryz.underlying22, Tryz.bytesSh, List.length_map, List.length_range]
   exact List.mem_cons_self ..)
  exact this
 have hel2 : ∀ i, i < len → ∀ n ∈ (D i).weights Tryz.prog 51, n ≤ reachBytes := fun i hi n hn => hk n (by
  rw [hd', DataW.weights]
  simp only [Tryz.underlying22]
  refine List.mem_cons_of_mem _ (List.mem_append_left _ (all_mem (List.mem_map.2 ⟨i, List.mem_range.2 hi, rfl⟩) n hn)))
 have hrb : reachBytes = 140737488351232 := by decide
 have hln : len ≤ 1000000000000000 := by rw [hrb] at hlen72; omega
 have each : ∀ i, i < len → ∃ s : Sh, (s.na.size ≤ reachBytes ∧ (∀ e ∈ s.jo.base, e.path.size ≤ reachBytes ∧ e.text.size ≤ reachBytes) ∧ SizedO reachBytes s.jo.cos) ∧ a.spot = none ∧ ShAt W a.block (a.off + i * 4) s := fun i hi => by
  obtain ⟨cs', h1, h2⟩ := hel i (by omega)
  exact open_sh_w (hsp (by omega)) h1 h2 (hel2 i hi)
 obtain ⟨E, hE⟩ := Go.Deep.choose_lt each
 refine ⟨(List.range len).map E, ⟨some a, _, by simp; rfl, by simpa using hl, by simpa using hln, fun i hi => ?_⟩, fun e he => ?_⟩
 · have hi' : i < len := by simpa using hi
   obtain ⟨h1, h2, h3⟩ := hE i hi'
   have hlt : a.block < W.heap.size := by
    have k := h3.1
    rcases Nat.lt_or_ge a.block W.heap.size with h | h
    · exact h
    · unfold World.cell? at k; rw [Array.getElem?_eq_none h] at k; cases k
   refine ⟨a.block, a.off, ?_, hlt, by simpa using h3⟩
   rw [← h2]
 · obtain ⟨i, hi, rfl⟩ := List.mem_map.1 he
   exact (hE i (List.mem_range.1 hi)).1
set_option maxRecDepth 100000 in
theorem open_hub_w {H : Type} {enc : TypeId × Value → H} {W : World} {r : Reach} {b0 : Nat} {v : Value} {d : DataW H} {pl : List MemPlace} (hv : Value.okWide Tryz.prog W r b0 28 v) (h : DataW.Trod enc Tryz.prog W 0 (fun _ => true) true 28 v d pl) (hk : ∀ n ∈ d.weights Tryz.prog 28, n ≤ reachBytes) :
    ∃ h : Hb, LiesH W v h ∧ (∀ s ∈ h.fos, s.na.size ≤ reachBytes ∧ (∀ e ∈ s.jo.base, e.path.size ≤ reachBytes ∧ e.text.size ≤ reachBytes) ∧ SizedO reachBytes s.jo.cos) ∧ SizedG h.gs ∧ SizedS h.ss := by
 obtain ⟨cs, rfl, hsz⟩ := okWide_struct Tryz.underlying28 hv
 obtain ⟨fuel, hf⟩ := h
 have hf' : DataW.trod enc Tryz.prog W 0 (fun _ => true) true fuel 28 cs.toList = some (d, pl) := by simpa [Value.cells] using hf
 obtain ⟨y0, y1, y2, y3, n', pl', hx, hlen, t0, t1, t2, t3⟩ := fieldsH4 Tryz.underlying28 hf'
 rw [Tryz.cellsHub] at hlen
 obtain ⟨c0, c1, c2, c3, c4, c5, c6, hcs⟩ := listH7 hlen
 rw [hcs] at t0 t1 t2 t3
 have q0 : DataW.trod enc Tryz.prog W 0 (fun _ => true) true n' 22 [c0] = some y0 := by simpa [Tryz.cellsLF] using t0
 have q1 : DataW.trod enc Tryz.prog W 0 (fun _ => true) true n' 23 [c1] = some y1 := by simpa [Tryz.cellsLG] using t1
 have q2 : DataW.trod enc Tryz.prog W 0 (fun _ => true) true n' 26 [c2, c3, c4, c5] = some y2 := by simpa [Tryz.cellsHUp] using t2
 have q3 : DataW.trod enc Tryz.prog W 0 (fun _ => true) true n' 3 [c6] = some y3 := by simpa [Tryz.cells3] using t3
 obtain ⟨z0, z1, z2, z3, n'', pl'', hz', _, u0, u1, u2, u3⟩ := fieldsH4 Tryz.underlying26 q2
 have v0 : DataW.trod enc Tryz.prog W 0 (fun _ => true) true n'' 24 [c2] = some z0 := by simpa [Tryz.cellsLSe] using u0
 have v1 : DataW.trod enc Tryz.prog W 0 (fun _ => true) true n'' 3 [c3] = some z1 := by simpa [Tryz.cells3] using u1
 have v2 : DataW.trod enc Tryz.prog W 0 (fun _ => true) true n'' 3 [c4] = some z2 := by simpa [Tryz.cells3] using u2
 have v3 : DataW.trod enc Tryz.prog W 0 (fun _ => true) true n'' 3 [c5] = some z3 := by simpa [Tryz.cells3] using u3
 obtain ⟨s6, e6, g6, _⟩ := DataW.trod_int Tryz.underlying3 q3
 obtain rfl : c6 = .int .i64 s6 := by simpa using e6
 subst g6
 obtain ⟨s3, e3, g3, _⟩ := DataW.trod_int Tryz.underlying3 v1
 obtain rfl : c3 = .int .i64 s3 := by simpa using e3
 subst g3
 obtain ⟨s4, e4, g4, _⟩ := DataW.trod_int Tryz.underlying3 v2
 obtain rfl : c4 = .int .i64 s4 := by simpa using e4
 subst g4
 obtain ⟨s5, e5, g5, _⟩ := DataW.trod_int Tryz.underlying3 v3
 obtain rfl : c5 = .int .i64 s5 := by simpa using e5
 subst g5
 obtain ⟨d0, p0⟩ := y0
 obtain ⟨d1, p1⟩ := y1
 obtain ⟨d2, p2⟩ := z0
 subst hz'
 simp only [Prod.mk.injEq] at hx
 have hw : d.weights Tryz.prog 28 = d0.weights Tryz.prog 22 ++ (d1.weights Tryz.prog 23 ++ d2.weights Tryz.prog 24) := by
  rw [hx.1, DataW.weights]
  simp only [Tryz.underlying28]
  simp [DataW.weightsEach, DataW.weights, Tryz.underlying26]
 rw [hw] at hk
 obtain ⟨F, hF, hFs⟩ := open_shares_w q0 (fun n hn => hk n (List.mem_append_left _ hn))
 obtain ⟨G, hG, hGs⟩ := open_grants_w q1 (fun n hn => hk n (List.mem_append_right _ (List.mem_append_left _ hn)))
 obtain ⟨S, hS, hSs⟩ := open_sessions_w v0 (fun n hn => hk n (List.mem_append_right _ (List.mem_append_right _ hn)))
 have hag : cs = #[c0, c1, c2, .int .i64 s3, .int .i64 s4, .int .i64 s5, .int .i64 s6] := Array.ext' (by simpa using hcs)
 exact ⟨⟨F, G, S, s3, s4, s5, s6⟩, ⟨c0, c1, c2, by rw [hag], hF, hG, hS⟩, hFs, hGs, hSs⟩
set_option maxRecDepth 100000 in
theorem open_request_w {H : Type} {enc : TypeId × Value → H} {W : World} {r : Reach} {b0 : Nat} {v : Value} {d : DataW H} {pl : List MemPlace} (hv : Value.okWide Tryz.prog W r b0 31 v) (h : DataW.Trod enc Tryz.prog W 0 (fun _ => true) true 31 v d pl) (hk : ∀ n ∈ d.weights Tryz.prog 31, n ≤ reachBytes) :
    ∃ q : Rq, LiesQ W v q ∧ (q.who.size ≤ reachBytes ∧ q.fo.size ≤ reachBytes ∧ q.name.size ≤ reachBytes ∧ q.key.size ≤ reachBytes ∧ q.text.size ≤ reachBytes) ∧ SizedC reachBytes q.ch := by
 obtain ⟨cs, rfl, hsz⟩ := okWide_struct Tryz.underlying31 hv
 obtain ⟨fuel, hf⟩ := h
 have hf' : DataW.trod enc Tryz.prog W 0 (fun _ => true) true fuel 31 cs.toList = some (d, pl) := by simpa [Value.cells] using hf
 obtain ⟨y0, y1, y2, y3, y4, y5, y6, y7, y8, y9, n', pl', hx, hlen, t0, t1, t2, t3, t4, t5, t6, t7, t8, t9⟩ := fieldsH10 Tryz.underlying31 hf'
 rw [Tryz.cellsRq] at hlen
 obtain ⟨c0, c1, c2, c3, c4, c5, c6, c7, c8, c9, hcs⟩ := listH10 hlen
 rw [hcs] at t0 t1 t2 t3 t4 t5 t6 t7 t8 t9
 have q0 : DataW.trod enc Tryz.prog W 0 (fun _ => true) true n' 3 [c0] = some y0 := by simpa [Tryz.cells3] using t0
 have q1 : DataW.trod enc Tryz.prog W 0 (fun _ => true) true n' 9 [c1] = some y1 := by simpa [Tryz.cells9] using t1
 have q2 : DataW.trod enc Tryz.prog W 0 (fun _ => true) true n' 9 [c2] = some y2 := by simpa [Tryz.cells9] using t2
 have q3 : DataW.trod enc Tryz.prog W 0 (fun _ => true) true n' 9 [c3] = some y3 := by simpa [Tryz.cells9] using t3
 have q4 : DataW.trod enc Tryz.prog W 0 (fun _ => true) true n' 9 [c4] = some y4 := by simpa [Tryz.cells9] using t4
 have q5 : DataW.trod enc Tryz.prog W 0 (fun _ => true) true n' 9 [c5] = some y5 := by simpa [Tryz.cells9] using t5
 have q6 : DataW.trod enc Tryz.prog W 0 (fun _ => true) true n' 3 [c6] = some y6 := by simpa [Tryz.cells3] using t6
 have q7 : DataW.trod enc Tryz.prog W 0 (fun _ => true) true n' 3 [c7] = some y7 := by simpa [Tryz.cells3] using t7
 have q8 : DataW.trod enc Tryz.prog W 0 (fun _ => true) true n' 3 [c8] = some y8 := by simpa [Tryz.cells3] using t8
 have q9 : DataW.trod enc Tryz.prog W 0 (fun _ => true) true n' 29 [c9] = some y9 := by simpa [Tryz.cellsSC] using t9
 obtain ⟨s0, e0, g0, _⟩ := DataW.trod_int Tryz.underlying3 q0
 obtain rfl : c0 = .int .i64 s0 := by simpa using e0
 subst g0
 obtain ⟨s1, e1, g1, _⟩ := DataW.trod_string Tryz.underlying9 q1
 obtain rfl : c1 = .string s1 := by simpa using e1
 subst g1
 obtain ⟨s2, e2, g2, _⟩ := DataW.trod_string Tryz.underlying9 q2
 obtain rfl : c2 = .string s2 := by simpa using e2
 subst g2
 obtain ⟨s3, e3, g3, _⟩ := DataW.trod_string Tryz.underlying9 q3
 obtain rfl : c3 = .string s3 := by simpa using e3
 subst g3
 obtain ⟨s4, e4, g4, _⟩ := DataW.trod_string Tryz.underlying9 q4
 obtain rfl : c4 = .string s4 := by simpa using e4
 subst g4
 obtain ⟨s5, e5, g5, _⟩ := DataW.trod_string Tryz.underlying9 q5
 obtain rfl : c5 = .string s5 := by simpa using e5
 subst g5
 obtain ⟨s6, e6, g6, _⟩ := DataW.trod_int Tryz.underlying3 q6
 obtain rfl : c6 = .int .i64 s6 := by simpa using e6
 subst g6
 obtain ⟨s7, e7, g7, _⟩ := DataW.trod_int Tryz.underlying3 q7
 obtain rfl : c7 = .int .i64 s7 := by simpa using e7
 subst g7
 obtain ⟨s8, e8, g8, _⟩ := DataW.trod_int Tryz.underlying3 q8
 obtain rfl : c8 = .int .i64 s8 := by simpa using e8
 subst g8
 obtain ⟨d9, p9⟩ := y9
 simp only [Prod.mk.injEq] at hx
 have hw : d.weights Tryz.prog 31 = s1.data.toList.length :: s2.data.toList.length :: s3.data.toList.length :: s4.data.toList.length :: s5.data.toList.length :: d9.weights Tryz.prog 29 := by
  rw [hx.1, DataW.weights]
  simp only [Tryz.underlying31]
  simp [DataW.weightsEach, DataW.weights]
 rw [hw] at hk
 obtain ⟨l, hl, hls⟩ := open_changes_w q9 (fun n hn => hk n (by simp [hn]))
 have z1 : s1.size ≤ reachBytes := by rw [Lib.size_eq]; exact hk _ (by simp)
 have z2 : s2.size ≤ reachBytes := by rw [Lib.size_eq]; exact hk _ (by simp)
 have z3 : s3.size ≤ reachBytes := by rw [Lib.size_eq]; exact hk _ (by simp)
 have z4 : s4.size ≤ reachBytes := by rw [Lib.size_eq]; exact hk _ (by simp)
 have z5 : s5.size ≤ reachBytes := by rw [Lib.size_eq]; exact hk _ (by simp)
 have hag : cs = #[.int .i64 s0, .string s1, .string s2, .string s3, .string s4, .string s5, .int .i64 s6, .int .i64 s7, .int .i64 s8, c9] := Array.ext' (by simpa using hcs)
 exact ⟨⟨s0, s1, s2, s3, s4, s5, s6, s7, s8, l⟩, ⟨c9, by rw [hag], hl⟩, ⟨z1, z2, z3, z4, z5⟩, hls⟩
end Go.Proofs.YtchlgpeiombmdaaGreat
