/- Hubs and requests that are handed in: what lies there, and how great it is. Hubs and requests that are handed in: what lies there, and how great it is, by the reach of every argument. -/
import Derived.Test.YtchlgpeiombmdaaGreatQZH
import Derived.Test.YtchlgpeiombmdaaGreatQM
import Derived.Test.YtchlgpeiombmdaaGreatQQ
set_option linter.unusedSimpArgs false
set_option linter.unusedVariables false
namespace Go.Proofs.YtchlgpeiombmdaaGreat
open Go.ChangeShapes Go.WideShapes Go.ChangeAt Go.RowKit

theorem Tryz.cellsSh : Tryz.prog.cellsOf 51 = 4 := by kernel_rfl
theorem Tryz.cellsHub : Tryz.prog.cellsOf 28 = 7 := by kernel_rfl
theorem Tryz.cellsHJo : Tryz.prog.cellsOf 49 = 3 := by kernel_rfl
theorem Tryz.cellsHUp : Tryz.prog.cellsOf 26 = 4 := by kernel_rfl
theorem Tryz.cellsLF : Tryz.prog.cellsOf 22 = 1 := by kernel_rfl
theorem Tryz.cellsLG : Tryz.prog.cellsOf 23 = 1 := by kernel_rfl
theorem Tryz.cellsLSe : Tryz.prog.cellsOf 24 = 1 := by kernel_rfl
theorem Tryz.bytesSh : Tryz.prog.bytesOf 51 = 72 := by kernel_rfl
theorem listH4 {α : Type} {l : List α} (h : l.length = 4) : ∃ x0 x1 x2 x3, l = [x0, x1, x2, x3] := by
 rcases l with _ | ⟨x0, _ | ⟨x1, _ | ⟨x2, _ | ⟨x3, _ | ⟨d, r⟩⟩⟩⟩⟩
 all_goals first | exact ⟨x0, x1, x2, x3, rfl⟩ | (simp at h)
theorem listH7 {α : Type} {l : List α} (h : l.length = 7) : ∃ x0 x1 x2 x3 x4 x5 x6, l = [x0, x1, x2, x3, x4, x5, x6] := by
 rcases l with _ | ⟨x0, _ | ⟨x1, _ | ⟨x2, _ | ⟨x3, _ | ⟨x4, _ | ⟨x5, _ | ⟨x6, _ | ⟨d, r⟩⟩⟩⟩⟩⟩⟩⟩
 all_goals first | exact ⟨x0, x1, x2, x3, x4, x5, x6, rfl⟩ | (simp at h)
theorem fieldsH2 {H : Type} {enc : TypeId × Value → H} {P : Program} {w : World} {base : Nat} {spare : Nat → Bool} {held : Bool} {t : TypeId} {f0 f1 : Field} {fuel : Nat} {cs : List Value} {x : DataW H × List MemPlace} (ht : P.underlying t = some (.struct #[f0, f1])) (h : DataW.trod enc P w base spare held fuel t cs = some x) :
    ∃ y0 y1 n pl, x = (.agg [y0.1, y1.1], pl) ∧ cs.length = P.cellsOf t ∧ DataW.trod enc P w base spare held n f0.type ((cs.drop f0.offset).take (P.cellsOf f0.type)) = some y0 ∧ DataW.trod enc P w base spare held n f1.type ((cs.drop f1.offset).take (P.cellsOf f1.type)) = some y1 := by
 obtain ⟨xs, n, _, rfl, hl, hlen, hf⟩ := DataW.trod_struct ht h
 match xs, hlen with
 | [y0, y1], _ => exact ⟨y0, y1, n, _, rfl, hl, by simpa using hf 0 f0 rfl, by simpa using hf 1 f1 rfl⟩
theorem fieldsH3 {H : Type} {enc : TypeId × Value → H} {P : Program} {w : World} {base : Nat} {spare : Nat → Bool} {held : Bool} {t : TypeId} {f0 f1 f2 : Field} {fuel : Nat} {cs : List Value} {x : DataW H × List MemPlace} (ht : P.underlying t = some (.struct #[f0, f1, f2])) (h : DataW.trod enc P w base spare held fuel t cs = some x) :
    ∃ y0 y1 y2 n pl, x = (.agg [y0.1, y1.1, y2.1], pl) ∧ cs.length = P.cellsOf t ∧ DataW.trod enc P w base spare held n f0.type ((cs.drop f0.offset).take (P.cellsOf f0.type)) = some y0 ∧ DataW.trod enc P w base spare held n f1.type ((cs.drop f1.offset).take (P.cellsOf f1.type)) = some y1 ∧ DataW.trod enc P w base spare held n f2.type ((cs.drop f2.offset).take (P.cellsOf f2.type)) = some y2 := by
 obtain ⟨xs, n, _, rfl, hl, hlen, hf⟩ := DataW.trod_struct ht h
 match xs, hlen with
 | [y0, y1, y2], _ => exact ⟨y0, y1, y2, n, _, rfl, hl, by simpa using hf 0 f0 rfl, by simpa using hf 1 f1 rfl, by simpa using hf 2 f2 rfl⟩
theorem fieldsH4 {H : Type} {enc : TypeId × Value → H} {P : Program} {w : World} {base : Nat} {spare : Nat → Bool} {held : Bool} {t : TypeId} {f0 f1 f2 f3 : Field} {fuel : Nat} {cs : List Value} {x : DataW H × List MemPlace} (ht : P.underlying t = some (.struct #[f0, f1, f2, f3])) (h : DataW.trod enc P w base spare held fuel t cs = some x) :
    ∃ y0 y1 y2 y3 n pl, x = (.agg [y0.1, y1.1, y2.1, y3.1], pl) ∧ cs.length = P.cellsOf t ∧ DataW.trod enc P w base spare held n f0.type ((cs.drop f0.offset).take (P.cellsOf f0.type)) = some y0 ∧ DataW.trod enc P w base spare held n f1.type ((cs.drop f1.offset).take (P.cellsOf f1.type)) = some y1 ∧ DataW.trod enc P w base spare held n f2.type ((cs.drop f2.offset).take (P.cellsOf f2.type)) = some y2 ∧ DataW.trod enc P w base spare held n f3.type ((cs.drop f3.offset).take (P.cellsOf f3.type)) = some y3 := by
 obtain ⟨xs, n, _, rfl, hl, hlen, hf⟩ := DataW.trod_struct ht h
 match xs, hlen with
 | [y0, y1, y2, y3], _ => exact ⟨y0, y1, y2, y3, n, _, rfl, hl, by simpa using hf 0 f0 rfl, by simpa using hf 1 f1 rfl, by simpa using hf 2 f2 rfl, by simpa using hf 3 f3 rfl⟩
end Go.Proofs.YtchlgpeiombmdaaGreat
set_option linter.unusedSimpArgs false
set_option linter.unusedVariables false
namespace Go.Proofs.YtchlgpeiombmdaaGreat
open Go.ChangeShapes Go.WideShapes Go.ChangeAt Go.RowKit


set_option maxRecDepth 100000 in
theorem open_sh_w {H : Type} {enc : TypeId × Value → H} {W : World} {n i : Nat} {a : Addr} {x : DataW H} {pl : List MemPlace} {cs' : List Value} (ha : a.spot = none)
    (h1 : W.cells? 0 (a.add (i * Tryz.prog.cellsOf 51)) (Tryz.prog.cellsOf 51) = some cs') (h2 : DataW.trod enc Tryz.prog W 0 (fun _ => true) true n 51 cs' = some (x, pl)) (hk : ∀ n ∈ x.weights Tryz.prog 51, n ≤ reachBytes) :
    ∃ s : Sh, (s.na.size ≤ reachBytes ∧ (∀ e ∈ s.jo.base, e.path.size ≤ reachBytes ∧ e.text.size ≤ reachBytes) ∧ SizedO reachBytes s.jo.cos) ∧ a.spot = none ∧ ShAt W a.block (a.off + i * 4) s := by
 rw [Tryz.cellsSh] at h1
 obtain ⟨_, hlen, hc⟩ := World.cells?_some h1
 obtain ⟨y0, y1, n', pl', hx', _, t0, t1⟩ := fieldsH2 Tryz.underlying51 h2
 obtain ⟨c0, c1, c2, c3, rfl⟩ := listH4 hlen
 have t0' : DataW.trod enc Tryz.prog W 0 (fun _ => true) true n' 9 [c0] = some y0 := by simpa [Tryz.cells9] using t0
 have t1' : DataW.trod enc Tryz.prog W 0 (fun _ => true) true n' 49 [c1, c2, c3] = some y1 := by simpa [Tryz.cellsHJo] using t1
 obtain ⟨s0, e0, g0, _⟩ := DataW.trod_string Tryz.underlying9 t0'
 obtain rfl : c0 = .string s0 := by simpa using e0
 subst g0
 obtain ⟨z0, z1, z2, n'', pl'', hz', _, u0, u1, u2⟩ := fieldsH3 Tryz.underlying49 t1'
 have u0' : DataW.trod enc Tryz.prog W 0 (fun _ => true) true n'' 34 [c1] = some z0 := by simpa [Tryz.cellsSE] using u0
 have u1' : DataW.trod enc Tryz.prog W 0 (fun _ => true) true n'' 3 [c2] = some z1 := by simpa [Tryz.cells3] using u1
 have u2' : DataW.trod enc Tryz.prog W 0 (fun _ => true) true n'' 35 [c3] = some z2 := by simpa [Tryz.cellsSO] using u2
 obtain ⟨s2, e2, g2, _⟩ := DataW.trod_int Tryz.underlying3 u1'
 obtain rfl : c2 = .int .i64 s2 := by simpa using e2
 subst g2
 obtain ⟨d0, p0⟩ := z0
 obtain ⟨d2, p2⟩ := z2
 subst hz'
 simp only [Prod.mk.injEq] at hx'
 have hw : x.weights Tryz.prog 51 = s0.data.toList.length :: (d0.weights Tryz.prog 34 ++ d2.weights Tryz.prog 35) := by
  rw [hx'.1, DataW.weights]
  simp only [Tryz.underlying51]
  simp [DataW.weightsEach, DataW.weights, Tryz.underlying49]
 rw [hw] at hk
 obtain ⟨L, hL, hLs⟩ := open_tree_w u0' (fun n hn => hk n (List.mem_cons_of_mem _ (List.mem_append_left _ hn)))
 obtain ⟨l, hl, hls⟩ := open_commits_w u2' (fun n hn => hk n (List.mem_cons_of_mem _ (List.mem_append_right _ hn)))
 have hs0 : s0.size ≤ reachBytes := by rw [Lib.size_eq]; exact hk _ (List.mem_cons_self ..)
 have k0 := hc 0 (by omega)
 have k1 := hc 1 (by omega)
 have k2 := hc 2 (by omega)
 have k3 := hc 3 (by omega)
 obtain ⟨ab, ao, asp⟩ := a
 obtain rfl : asp = none := ha
 refine ⟨⟨s0, ⟨L, s2, l⟩⟩, ⟨hs0, hLs, hls⟩, rfl, ?_, c1, c3, ?_, ?_, ?_, hL, hl⟩
 · by_cases hi0 : i = 0
   · subst hi0; simpa [Addr.add] using k0
   · have hi4 : i * 4 ≠ 0 := by omega
     simpa [Addr.add, hi4] using k0
 · by_cases hi0 : i = 0
   · subst hi0; simpa [Addr.add] using k1
   · have hi4 : i * 4 ≠ 0 := by omega
     simpa [Addr.add, hi4, Nat.add_assoc] using k1
 · by_cases hi0 : i = 0
   · subst hi0; simpa [Addr.add] using k2
   · have hi4 : i * 4 ≠ 0 := by omega
     simpa [Addr.add, hi4, Nat.add_assoc] using k2
 · by_cases hi0 : i = 0
   · subst hi0; simpa [Addr.add] using k3
   · have hi4 : i * 4 ≠ 0 := by omega
     simpa [Addr.add, hi4, Nat.add_assoc] using k3
set_option maxRecDepth 100000 in
theorem open_shares_w {H : Type} {enc : TypeId × Value → H} {W : World} {v : Value} {d : DataW H} {p : List MemPlace} {fuel : Nat} (hf : DataW.trod enc Tryz.prog W 0 (fun _ => true) true fuel 22 [v] = some (d, p)) (hk : ∀ n ∈ d.weights Tryz.prog 22, n ≤ reachBytes) :
    ∃ l : List Sh, LiesF W v l ∧ ∀ s ∈ l, s.na.size ≤ reachBytes ∧ (∀ e ∈ s.jo.base, e.path.size ≤ reachBytes ∧ e.text.size ≤ reachBytes) ∧ SizedO reachBytes s.jo.cos := by
 haveI : Inhabited Sh := ⟨⟨⟨#[]⟩, ⟨[], 0, []⟩⟩⟩
 rcases Go.Deep.open_slice Tryz.underlying22 hf with ⟨hcs, hx⟩ | ⟨a, len, cap, m, n, D, Pl, hcs, hb, hl, hm, hmm, hx, hel⟩
 · obtain rfl : v = .slice none 0 0 := by simpa using hcs
   exact ⟨[], liesF_nil _, fun e he => by cases he⟩
 obtain rfl : v = .slice (some a) len cap := by simpa using hcs
 have hm2 : m = cap := hmm.trans (if_pos rfl)
 clear hmm
 have hd := (Prod.mk.inj hx).1
 clear hx
 subst hm2
 have hsp : 0 < len → a.spot = none := fun h => by
  obtain ⟨cs', h1, _⟩ := hel 0 (by omega)
  rw [Tryz.cellsSh] at h1
  obtain ⟨_, hlen, hc⟩ := World.cells?_some h1
  obtain ⟨c0, c1, c2, c3, rfl⟩ := listH4 hlen
  have k0 := hc 0 (by omega)
  exact spot_none (v := c0) (by simpa [Addr.add] using k0)
 obtain ⟨sp, hd'⟩ : ∃ sp, d = .slice ((List.range len).map D) sp := ⟨_, hd⟩
 have hlen72 : (len + sp.length) * 72 ≤ reachBytes := by
  have := hk ((len + sp.length) * 72) (by
   rw [hd', DataW.weights]
   simp only [Tryz.underlying22, Tryz.bytesSh, List.length_map, List.length_range]
   exact List.mem_cons_self ..)
  exact this
 have hel2 : ∀ i, i < len → ∀ n ∈ (D i).weights Tryz.prog 51, n ≤ reachBytes := fun i hi n hn => hk n (by
  rw [hd', DataW.weights]
  simp only [Tryz.underlying22]
  refine List.mem_cons_of_mem _ (List.mem_append_left _ (all_mem (List.mem_map.2 ⟨i, List.mem_range.2 hi, rfl⟩) n hn)))
 have hrb : reachBytes = 140737488351232 := by decide
 have hln : len ≤ 1000000000000000 := by rw [hrb] at hlen72; omega
 have each : ∀ i, i < len → ∃ s : Sh, (s.na.size ≤ reachBytes ∧ (∀ e ∈ s.jo.base, e.path.size ≤ reachBytes ∧ e.text.size ≤ reachBytes) ∧ SizedO reachBytes s.jo.cos) ∧ a.spot = none ∧ ShAt W a.block (a.off + i * 4) s := fun i hi => by
  obtain ⟨cs', h1, h2⟩ := hel i (by omega)
  exact open_sh_w (hsp (by omega)) h1 h2 (hel2 i hi)
 obtain ⟨E, hE⟩ := Go.Deep.choose_lt each
 refine ⟨(List.range len).map E, ⟨some a, _, by simp; rfl, by simpa using hl, by simpa using hln, fun i hi => ?_⟩, fun e he => ?_⟩
 · have hi' : i < len := by simpa using hi
   obtain ⟨h1, h2, h3⟩ := hE i hi'
   have hlt : a.block < W.heap.size := by
    have k := h3.1
    rcases Nat.lt_or_ge a.block W.heap.size with h | h
    · exact h
    · unfold World.cell? at k; rw [Array.getElem?_eq_none h] at k; cases k
   refine ⟨a.block, a.off, ?_, hlt, by simpa using h3⟩
   rw [← h2]
 · obtain ⟨i, hi, rfl⟩ := List.mem_map.1 he
   exact (hE i (List.mem_range.1 hi)).1
set_option maxRecDepth 100000 in
theorem open_hub_w {H : Type} {enc : TypeId × Value → H} {W : World} {r : Reach} {b0 : Nat} {v : Value} {d : DataW H} {pl : List MemPlace} (hv : Value.okWide Tryz.prog W r b0 28 v) (h : DataW.Trod enc Tryz.prog W 0 (fun _ => true) true 28 v d pl) (hk : ∀ n ∈ d.weights Tryz.prog 28, n ≤ reachBytes) :
    ∃ h : Hb, LiesH W v h ∧ (∀ s ∈ h.fos, s.na.size ≤ reachBytes ∧ (∀ e ∈ s.jo.base, e.path.size ≤ reachBytes ∧ e.text.size ≤ reachBytes) ∧ SizedO reachBytes s.jo.cos) ∧ SizedG h.gs ∧ SizedS h.ss := by
 obtain ⟨cs, rfl, hsz⟩ := okWide_struct Tryz.underlying28 hv
 obtain ⟨fuel, hf⟩ := h
 have hf' : DataW.trod enc Tryz.prog W 0 (fun _ => true) true fuel 28 cs.toList = some (d, pl) := by simpa [Value.cells] using hf
 obtain ⟨y0, y1, y2, y3, n', pl', hx, hlen, t0, t1, t2, t3⟩ := fieldsH4 Tryz.underlying28 hf'
 rw [Tryz.cellsHub] at hlen
 obtain ⟨c0, c1, c2, c3, c4, c5, c6, hcs⟩ := listH7 hlen
 rw [hcs] at t0 t1 t2 t3
 have q0 : DataW.trod enc Tryz.prog W 0 (fun _ => true) true n' 22 [c0] = some y0 := by simpa [Tryz.cellsLF] using t0
 have q1 : DataW.trod enc Tryz.prog W 0 (fun _ => true) true n' 23 [c1] = some y1 := by simpa [Tryz.cellsLG] using t1
 have q2 : DataW.trod enc Tryz.prog W 0 (fun _ => true) true n' 26 [c2, c3, c4, c5] = some y2 := by simpa [Tryz.cellsHUp] using t2
 have q3 : DataW.trod enc Tryz.prog W 0 (fun _ => true) true n' 3 [c6] = some y3 := by simpa [Tryz.cells3] using t3
 obtain ⟨z0, z1, z2, z3, n'', pl'', hz', _, u0, u1, u2, u3⟩ := fieldsH4 Tryz.underlying26 q2
 have v0 : DataW.trod enc Tryz.prog W 0 (fun _ => true) true n'' 24 [c2] = some z0 := by simpa [Tryz.cellsLSe] using u0
 have v1 : DataW.trod enc Tryz.prog W 0 (fun _ => true) true n'' 3 [c3] = some z1 := by simpa [Tryz.cells3] using u1
 have v2 : DataW.trod enc Tryz.prog W 0 (fun _ => true) true n'' 3 [c4] = some z2 := by simpa [Tryz.cells3] using u2
 have v3 : DataW.trod enc Tryz.prog W 0 (fun _ => true) true n'' 3 [c5] = some z3 := by simpa [Tryz.cells3] using u3
 obtain ⟨s6, e6, g6, _⟩ := DataW.trod_int Tryz.underlying3 q3
 obtain rfl : c6 = .int .i64 s6 := by simpa using e6
 subst g6
 obtain ⟨s3, e3, g3, _⟩ := DataW.trod_int Tryz.underlying3 v1
 obtain rfl : c3 = .int .i64 s3 := by simpa using e3
 subst g3
 obtain ⟨s4, e4, g4, _⟩ := DataW.trod_int Tryz.underlying3 v2
 obtain rfl : c4 = .int .i64 s4 := by simpa using e4
 subst g4
 obtain ⟨s5, e5, g5, _⟩ := DataW.trod_int Tryz.underlying3 v3
 obtain rfl : c5 = .int .i64 s5 := by simpa using e5
 subst g5
 obtain ⟨d0, p0⟩ := y0
 obtain ⟨d1, p1⟩ := y1
 obtain ⟨d2, p2⟩ := z0
 subst hz'
 simp only [Prod.mk.injEq] at hx
 have hw : d.weights Tryz.prog 28 = d0.weights Tryz.prog 22 ++ (d1.weights Tryz.prog 23 ++ d2.weights Tryz.prog 24) := by
  rw [hx.1, DataW.weights]
  simp only [Tryz.underlying28]
  simp [DataW.weightsEach, DataW.weights, Tryz.underlying26]
 rw [hw] at hk
 obtain ⟨F, hF, hFs⟩ := open_shares_w q0 (fun n hn => hk n (List.mem_append_left _ hn))
 obtain ⟨G, hG, hGs⟩ := open_grants_w q1 (fun n hn => hk n (List.mem_append_right _ (List.mem_append_left _ hn)))
 obtain ⟨S, hS, hSs⟩ := open_sessions_w v0 (fun n hn => hk n (List.mem_append_right _ (List.mem_append_right _ hn)))
 have hag : cs = #[c0, c1, c2, .int .i64 s3, .int .i64 s4, .int .i64 s5, .int .i64 s6] := Array.ext' (by simpa using hcs)
 exact ⟨⟨F, G, S, s3, s4, s5, s6⟩, ⟨c0, c1, c2, by rw [hag], hF, hG, hS⟩, hFs, hGs, hSs⟩
end Go.Proofs.YtchlgpeiombmdaaGreat
