/- A tree that is handed in, and a change: how great they are, by the reach of every argument. Changes that are handed in: how great they are, by the reach of every argument. A client that is handed in: how great it is, by the reach of every argument. -/
import Derived.Test.YtflekhcmipmelaaGreatDoorPF
import Derived.SizedLaws
set_option linter.unusedSimpArgs false
set_option linter.unusedVariables false
namespace Go.Proofs.YtflekhcmipmelaaGreatDoor
open Go.ChangeShapes Go.WideShapes Go.ChangeAt Go.RowKit

theorem Tryz.bytesE : Tryz.prog.bytesOf 46 = 48 := by kernel_rfl
theorem all_mem {H : Type} {P : Program} {e : TypeId} : ∀ {l : List (DataW H)} {d : DataW H}, d ∈ l → ∀ n ∈ d.weights P e, n ∈ DataW.weightsAll P e l
  | [], _, h => by cases h
  | x :: r, d, h => by
    intro n hn
    rw [DataW.weightsAll]
    rcases List.mem_cons.1 h with rfl | h
    · exact List.mem_append_left _ hn
    · exact List.mem_append_right _ (all_mem h n hn)

set_option maxRecDepth 100000 in
theorem open_tree_w {H : Type} {enc : TypeId × Value → H} {W : World} {v : Value} {d : DataW H} {p : List MemPlace} {fuel : Nat} (hf : DataW.trod enc Tryz.prog W 0 (fun _ => true) true fuel 22 [v] = some (d, p)) (hk : ∀ n ∈ d.weights Tryz.prog 22, n ≤ reachBytes) :
    ∃ L : List En, Lies W v L ∧ ∀ e ∈ L, e.path.size ≤ reachBytes ∧ e.text.size ≤ reachBytes := by
  haveI : Inhabited En := ⟨⟨⟨#[]⟩, false, ⟨#[]⟩, 0⟩⟩
  rcases Go.Deep.open_slice Tryz.underlying22 hf with ⟨hcs, hx⟩ | ⟨a, len, cap, m, n, D, Pl, hcs, hb, hl, hm, hmm, hx, hel⟩
  · obtain rfl : v = .slice none 0 0 := by simpa using hcs
    exact ⟨[], ⟨none, 0, rfl, Nat.le_refl _, by simp, fun i hi => absurd hi (by simp)⟩, fun e he => by cases he⟩
  obtain rfl : v = .slice (some a) len cap := by simpa using hcs
  have hm2 : m = cap := hmm.trans (if_pos rfl)
  clear hmm
  have hd := (Prod.mk.inj hx).1
  clear hx
  subst hm2
  have hsp : 0 < len → a.spot = none := fun h => by
    obtain ⟨cs', h1, _⟩ := hel 0 (by omega)
    rw [Tryz.cellsE] at h1
    obtain ⟨_, hlen, hc⟩ := World.cells?_some h1
    obtain ⟨c0, c1, c2, c3, rfl⟩ := list4 hlen
    have k0 := hc 0 (by omega)
    exact spot_none (v := c0) (by simpa [Addr.add] using k0)
  have each : ∀ i, i < len → ∃ e : En, D i = datE e ∧ a.spot = none ∧ EnAt W a.block (a.off + i * 4) e := fun i hi => by
    obtain ⟨cs', h1, h2⟩ := hel i (by omega)
    exact open_entry (hsp (by omega)) h1 h2
  obtain ⟨E, hE⟩ := Go.Deep.choose_lt each
  obtain ⟨sp, hd'⟩ : ∃ sp, d = .slice ((List.range len).map D) sp := ⟨_, hd⟩
  have hlen48 : (len + sp.length) * 48 ≤ reachBytes := by
    have := hk ((len + sp.length) * 48) (by
      rw [hd', DataW.weights]
      simp only [Tryz.underlying22, Tryz.bytesE, List.length_map, List.length_range]
      exact List.mem_cons_self ..)
    exact this
  have hel2 : ∀ i, i < len → ∀ n ∈ (D i).weights Tryz.prog 46, n ≤ reachBytes := fun i hi n hn => hk n (by
    rw [hd', DataW.weights]
    simp only [Tryz.underlying22]
    refine List.mem_cons_of_mem _ (List.mem_append_left _ (all_mem (List.mem_map.2 ⟨i, List.mem_range.2 hi, rfl⟩) n hn)))
  have hrb : reachBytes = 140737488351232 := by decide
  refine ⟨(List.range len).map E, ⟨some a, _, by simp; rfl, by simpa using hl, ?_, fun i hi => ?_⟩, fun e he => ?_⟩
  · rw [hrb] at hlen48
    simp only [List.length_map, List.length_range]
    omega
  · have hi' : i < len := by simpa using hi
    obtain ⟨h1, h2, h3⟩ := hE i hi'
    have hlt : a.block < W.heap.size := by
      have k := h3.1
      rcases Nat.lt_or_ge a.block W.heap.size with h | h
      · exact h
      · unfold World.cell? at k; rw [Array.getElem?_eq_none h] at k; cases k
    refine ⟨a.block, a.off, ?_, hlt, by simpa using h3⟩
    rw [← h2]
  · obtain ⟨i, hi, rfl⟩ := List.mem_map.1 he
    have h1 := hel2 i (List.mem_range.1 hi)
    rw [(hE i (List.mem_range.1 hi)).1] at h1
    have hw : DataW.weights Tryz.prog 46 (datE (H := H) (E i)) = [(E i).path.data.toList.length, (E i).text.data.toList.length] := by
      rw [datE, DataW.weights]
      simp only [Tryz.underlying46]
      simp [DataW.weightsEach, DataW.weights]
    rw [hw] at h1
    rw [Lib.size_eq, Lib.size_eq]
    exact ⟨h1 _ (by simp), h1 _ (by simp)⟩

set_option maxRecDepth 100000 in
theorem open_change_w {H : Type} {enc : TypeId × Value → H} {W : World} {r : Reach} {b0 : Nat} {v : Value} {d : DataW H} {pl : List MemPlace} (hv : Value.okWide Tryz.prog W r b0 35 v) (h : DataW.Trod enc Tryz.prog W 0 (fun _ => true) true 35 v d pl) (hk : ∀ n ∈ d.weights Tryz.prog 35, n ≤ reachBytes) :
    ∃ (k : Int) (p q t : ByteArray) (b : Int), v = .agg #[.int .i64 k, .string p, .string q, .string t, .int .i64 b] ∧ p.size ≤ reachBytes ∧ q.size ≤ reachBytes ∧ t.size ≤ reachBytes := by
  obtain ⟨cs, rfl, hsz⟩ := okWide_struct Tryz.underlying35 hv
  obtain ⟨fuel, hf⟩ := h
  have hf' : DataW.trod enc Tryz.prog W 0 (fun _ => true) true fuel 35 cs.toList = some (d, pl) := by simpa [Value.cells] using hf
  obtain ⟨y0, y1, y2, y3, y4, n', hx, hlen, t0, t1, t2, t3, t4⟩ := fields5 Tryz.underlying35 hf'
  rw [Tryz.cellsC] at hlen
  obtain ⟨c0, c1, c2, c3, c4, hcs⟩ := list5 hlen
  rw [hcs] at t0 t1 t2 t3 t4
  have t0' : DataW.trod enc Tryz.prog W 0 (fun _ => true) true n' 3 [c0] = some y0 := by simpa [Tryz.cells3] using t0
  have t1' : DataW.trod enc Tryz.prog W 0 (fun _ => true) true n' 9 [c1] = some y1 := by simpa [Tryz.cells9] using t1
  have t2' : DataW.trod enc Tryz.prog W 0 (fun _ => true) true n' 9 [c2] = some y2 := by simpa [Tryz.cells9] using t2
  have t3' : DataW.trod enc Tryz.prog W 0 (fun _ => true) true n' 9 [c3] = some y3 := by simpa [Tryz.cells9] using t3
  have t4' : DataW.trod enc Tryz.prog W 0 (fun _ => true) true n' 3 [c4] = some y4 := by simpa [Tryz.cells3] using t4
  obtain ⟨s0, e0, g0, _⟩ := DataW.trod_int Tryz.underlying3 t0'
  obtain ⟨s1, e1, g1, _⟩ := DataW.trod_string Tryz.underlying9 t1'
  obtain ⟨s2, e2, g2, _⟩ := DataW.trod_string Tryz.underlying9 t2'
  obtain ⟨s3, e3, g3, _⟩ := DataW.trod_string Tryz.underlying9 t3'
  obtain ⟨s4, e4, g4, _⟩ := DataW.trod_int Tryz.underlying3 t4'
  obtain rfl : c0 = .int .i64 s0 := by simpa using e0
  obtain rfl : c1 = .string s1 := by simpa using e1
  obtain rfl : c2 = .string s2 := by simpa using e2
  obtain rfl : c3 = .string s3 := by simpa using e3
  obtain rfl : c4 = .int .i64 s4 := by simpa using e4
  subst g0; subst g1; subst g2; subst g3; subst g4
  simp only [Prod.mk.injEq] at hx
  have hb := hx.1
  have hw : d.weights Tryz.prog 35 = [s1.data.toList.length, s2.data.toList.length, s3.data.toList.length] := by
    rw [hb, DataW.weights]
    simp only [Tryz.underlying35]
    simp [DataW.weightsEach, DataW.weights]
  rw [hw] at hk
  refine ⟨s0, s1, s2, s3, s4, ?_, ?_, ?_, ?_⟩
  · congr 1
    exact Array.ext' (by simpa using hcs)
  · rw [Lib.size_eq]; exact hk _ (by simp)
  · rw [Lib.size_eq]; exact hk _ (by simp)
  · rw [Lib.size_eq]; exact hk _ (by simp)
end Go.Proofs.YtflekhcmipmelaaGreatDoor
set_option linter.unusedSimpArgs false
set_option linter.unusedVariables false
namespace Go.Proofs.YtflekhcmipmelaaGreatDoor
open Go.ChangeShapes Go.WideShapes Go.ChangeAt Go.RowKit

theorem Tryz.bytesCh : Tryz.prog.bytesOf 35 = 64 := by kernel_rfl

set_option maxRecDepth 100000 in
theorem open_changes_w {H : Type} {enc : TypeId × Value → H} {W : World} {v : Value} {d : DataW H} {p : List MemPlace} {fuel : Nat} (hf : DataW.trod enc Tryz.prog W 0 (fun _ => true) true fuel 23 [v] = some (d, p)) (hk : ∀ n ∈ d.weights Tryz.prog 23, n ≤ reachBytes) :
    ∃ cs : List Pp.Ch, LiesC W v cs ∧ SizedC reachBytes cs := by
  haveI : Inhabited Pp.Ch := ⟨⟨0, ⟨#[]⟩, ⟨#[]⟩, ⟨#[]⟩, 0⟩⟩
  rcases Go.Deep.open_slice Tryz.underlying23 hf with ⟨hcs, hx⟩ | ⟨a, len, cap, m, n, D, Pl, hcs, hb, hl, hm, hmm, hx, hel⟩
  · obtain rfl : v = .slice none 0 0 := by simpa using hcs
    exact ⟨[], ⟨none, 0, rfl, Nat.le_refl _, by simp, fun i hi => absurd hi (by simp)⟩, fun e he => by cases he⟩
  obtain rfl : v = .slice (some a) len cap := by simpa using hcs
  have hm2 : m = cap := hmm.trans (if_pos rfl)
  clear hmm
  have hd := (Prod.mk.inj hx).1
  clear hx
  subst hm2
  have hsp : 0 < len → a.spot = none := fun h => by
    obtain ⟨cs', h1, _⟩ := hel 0 (by omega)
    rw [Tryz.cellsC] at h1
    obtain ⟨_, hlen, hc⟩ := World.cells?_some h1
    obtain ⟨c0, c1, c2, c3, c4, rfl⟩ := list5 hlen
    have k0 := hc 0 (by omega)
    exact spot_none (v := c0) (by simpa [Addr.add] using k0)
  have each : ∀ i, i < len → ∃ e : Pp.Ch, D i = datC e ∧ a.spot = none ∧ ChAt W a.block (a.off + i * 5) e := fun i hi => by
    obtain ⟨cs', h1, h2⟩ := hel i (by omega)
    exact open_ch (hsp (by omega)) h1 h2
  obtain ⟨E, hE⟩ := Go.Deep.choose_lt each
  obtain ⟨sp, hd'⟩ : ∃ sp, d = .slice ((List.range len).map D) sp := ⟨_, hd⟩
  have hlen64 : (len + sp.length) * 64 ≤ reachBytes := by
    have := hk ((len + sp.length) * 64) (by
      rw [hd', DataW.weights]
      simp only [Tryz.underlying23, Tryz.bytesCh, List.length_map, List.length_range]
      exact List.mem_cons_self ..)
    exact this
  have hel2 : ∀ i, i < len → ∀ n ∈ (D i).weights Tryz.prog 35, n ≤ reachBytes := fun i hi n hn => hk n (by
    rw [hd', DataW.weights]
    simp only [Tryz.underlying23]
    refine List.mem_cons_of_mem _ (List.mem_append_left _ (all_mem (List.mem_map.2 ⟨i, List.mem_range.2 hi, rfl⟩) n hn)))
  have hrb : reachBytes = 140737488351232 := by decide
  refine ⟨(List.range len).map E, ⟨some a, _, by simp; rfl, by simpa using hl, ?_, fun i hi => ?_⟩, fun e he => ?_⟩
  · rw [hrb] at hlen64
    simp only [List.length_map, List.length_range]
    omega
  · have hi' : i < len := by simpa using hi
    obtain ⟨h1, h2, h3⟩ := hE i hi'
    have hlt : a.block < W.heap.size := by
      have k := h3.1
      rcases Nat.lt_or_ge a.block W.heap.size with h | h
      · exact h
      · unfold World.cell? at k; rw [Array.getElem?_eq_none h] at k; cases k
    refine ⟨a.block, a.off, ?_, hlt, by simpa using h3⟩
    rw [← h2]
  · obtain ⟨i, hi, rfl⟩ := List.mem_map.1 he
    have h1 := hel2 i (List.mem_range.1 hi)
    rw [(hE i (List.mem_range.1 hi)).1] at h1
    have hw : DataW.weights Tryz.prog 35 (datC (H := H) (E i)) = [(E i).p.data.toList.length, (E i).q.data.toList.length, (E i).t.data.toList.length] := by
      rw [datC, DataW.weights]
      simp only [Tryz.underlying35]
      simp [DataW.weightsEach, DataW.weights]
    rw [hw] at h1
    rw [Lib.size_eq, Lib.size_eq, Lib.size_eq]
    exact ⟨h1 _ (by simp), h1 _ (by simp), h1 _ (by simp)⟩
end Go.Proofs.YtflekhcmipmelaaGreatDoor
set_option linter.unusedSimpArgs false
set_option linter.unusedVariables false
namespace Go.Proofs.YtflekhcmipmelaaGreatDoor
open Go.ChangeShapes Go.WideShapes Go.ChangeAt Go.RowKit

set_option maxRecDepth 100000 in
theorem open_client_w {H : Type} {enc : TypeId × Value → H} {W : World} {r : Reach} {b0 : Nat} {v : Value} {d : DataW H} {pl : List MemPlace} (hv : Value.okWide Tryz.prog W r b0 25 v) (h : DataW.Trod enc Tryz.prog W 0 (fun _ => true) true 25 v d pl) (hk : ∀ n ∈ d.weights Tryz.prog 25, n ≤ reachBytes) :
    ∃ c : Cn, LiesN W v c ∧ SizedN c := by
  obtain ⟨cs, rfl, hsz⟩ := okWide_struct Tryz.underlying25 hv
  obtain ⟨fuel, hf⟩ := h
  have hf' : DataW.trod enc Tryz.prog W 0 (fun _ => true) true fuel 25 cs.toList = some (d, pl) := by simpa [Value.cells] using hf
  obtain ⟨y0, y1, y2, y3, y4, y5, y6, y7, n', pl', hx, hlen, t0, t1, t2, t3, t4, t5, t6, t7⟩ := fields8 Tryz.underlying25 hf'
  rw [Tryz.cellsCl] at hlen
  obtain ⟨c0, c1, c2, c3, c4, c5, c6, c7, hcs⟩ := list8 hlen
  rw [hcs] at t0 t1 t2 t3 t4 t5 t6 t7
  have q0 : DataW.trod enc Tryz.prog W 0 (fun _ => true) true n' 9 [c0] = some y0 := by simpa [Tryz.cells9] using t0
  have q1 : DataW.trod enc Tryz.prog W 0 (fun _ => true) true n' 9 [c1] = some y1 := by simpa [Tryz.cells9] using t1
  have q2 : DataW.trod enc Tryz.prog W 0 (fun _ => true) true n' 22 [c2] = some y2 := by simpa [Tryz.cellsClE] using t2
  have q3 : DataW.trod enc Tryz.prog W 0 (fun _ => true) true n' 3 [c3] = some y3 := by simpa [Tryz.cells3] using t3
  have q4 : DataW.trod enc Tryz.prog W 0 (fun _ => true) true n' 22 [c4] = some y4 := by simpa [Tryz.cellsClE] using t4
  have q5 : DataW.trod enc Tryz.prog W 0 (fun _ => true) true n' 9 [c5] = some y5 := by simpa [Tryz.cells9] using t5
  have q6 : DataW.trod enc Tryz.prog W 0 (fun _ => true) true n' 23 [c6] = some y6 := by simpa [Tryz.cellsClC] using t6
  have q7 : DataW.trod enc Tryz.prog W 0 (fun _ => true) true n' 3 [c7] = some y7 := by simpa [Tryz.cells3] using t7
  obtain ⟨s0, e0, g0, _⟩ := DataW.trod_string Tryz.underlying9 q0
  obtain rfl : c0 = .string s0 := by simpa using e0
  subst g0
  obtain ⟨s1, e1, g1, _⟩ := DataW.trod_string Tryz.underlying9 q1
  obtain rfl : c1 = .string s1 := by simpa using e1
  subst g1
  obtain ⟨d2, p2⟩ := y2
  obtain ⟨s3, e3, g3, _⟩ := DataW.trod_int Tryz.underlying3 q3
  obtain rfl : c3 = .int .i64 s3 := by simpa using e3
  subst g3
  obtain ⟨d4, p4⟩ := y4
  obtain ⟨s5, e5, g5, _⟩ := DataW.trod_string Tryz.underlying9 q5
  obtain rfl : c5 = .string s5 := by simpa using e5
  subst g5
  obtain ⟨d6, p6⟩ := y6
  obtain ⟨s7, e7, g7, _⟩ := DataW.trod_int Tryz.underlying3 q7
  obtain rfl : c7 = .int .i64 s7 := by simpa using e7
  subst g7
  simp only [Prod.mk.injEq] at hx
  have hw : d.weights Tryz.prog 25 = s0.data.toList.length :: s1.data.toList.length :: (d2.weights Tryz.prog 22 ++ (d4.weights Tryz.prog 22 ++ (s5.data.toList.length :: d6.weights Tryz.prog 23))) := by
    rw [hx.1, DataW.weights]
    simp only [Tryz.underlying25]
    simp [DataW.weightsEach, DataW.weights]
  rw [hw] at hk
  have hrb : reachBytes = 140737488351232 := by decide
  have k0 := hk _ (List.mem_cons_self ..)
  have k1 := hk _ (List.mem_cons_of_mem _ (List.mem_cons_self ..))
  have kk := fun n hn => hk n (List.mem_cons_of_mem _ (List.mem_cons_of_mem _ hn))
  have k5 := kk s5.data.toList.length (by simp)
  obtain ⟨L2, hL2, hs2⟩ := open_tree_w (fuel := n') q2 (fun n hn => kk n (by simp [hn]))
  obtain ⟨L4, hL4, hs4⟩ := open_tree_w (fuel := n') q4 (fun n hn => kk n (by simp [hn]))
  obtain ⟨L6, hL6, hs6⟩ := open_changes_w q6 (fun n hn => kk n (by simp [hn]))
  rw [hrb] at k0 k1 k5 hs2 hs4
  rw [← Lib.size_eq] at k0 k1 k5
  have hag : cs = #[.string s0, .string s1, c2, .int .i64 s3, c4, .string s5, c6, .int .i64 s7] := Array.ext' (by simpa using hcs)
  exact ⟨⟨s0, s1, L2, s3, L4, s5, L6, s7⟩, ⟨c2, c4, c6, by rw [hag], hL2, hL4, hL6⟩, ⟨by show s0.size ≤ _; omega, by show s1.size ≤ _; omega, by show s5.size ≤ _; omega, fun e he => ⟨by have := (hs2 e he).1; omega, by have := (hs2 e he).2; omega⟩, fun e he => ⟨by have := (hs4 e he).1; omega, by have := (hs4 e he).2; omega⟩⟩⟩
end Go.Proofs.YtflekhcmipmelaaGreatDoor
