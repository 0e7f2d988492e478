/- Uploads that are handed in: their sessions, and how great these are, by the reach of every argument. -/
import Derived.Test.YtnaedemkpiagmaaU1
import Derived.Test.YtnaedemkpiagmaaRows
import Derived.Deep.Slices
import Derived.Lib.SmallJoins
import Derived.Carry
import Derived.SizedLaws
set_option linter.unusedSimpArgs false
set_option linter.unusedVariables false
namespace Go.Proofs.Ytnaedemkpiagmaa
open Go.ChangeShapes Go.WideShapes Go.ChangeAt Go.RowKit

theorem Try.cellsSe : Try.prog.cellsOf 38 = 5 := by kernel_rfl
theorem Try.cellsUp : Try.prog.cellsOf 24 = 4 := by kernel_rfl
theorem Try.cellsS9 : Try.prog.cellsOf 9 = 1 := by kernel_rfl
theorem Try.cellsS3 : Try.prog.cellsOf 3 = 1 := by kernel_rfl
theorem Try.cellsSl : Try.prog.cellsOf 22 = 1 := by kernel_rfl
theorem Try.bytesSe : Try.prog.bytesOf 38 = 56 := by kernel_rfl
def datS {H : Type} (e : Se) : DataW H := .agg [.lit (.int .i64 e.nu), .lit (.string e.wh.data.toList), .lit (.string e.tx.data.toList), .lit (.int .i64 e.si), .lit (.int .i64 e.ti)]
theorem list5s {α : Type} {l : List α} (h : l.length = 5) : ∃ a b c d e, l = [a, b, c, d, e] := by
  rcases l with _ | ⟨a, _ | ⟨b, _ | ⟨c, _ | ⟨d, _ | ⟨e, _ | ⟨f, r⟩⟩⟩⟩⟩⟩
  all_goals first | exact ⟨a, b, c, d, e, rfl⟩ | (simp at h)
theorem list4s {α : Type} {l : List α} (h : l.length = 4) : ∃ a b c d, l = [a, b, c, d] := by
  rcases l with _ | ⟨a, _ | ⟨b, _ | ⟨c, _ | ⟨d, _ | ⟨e, r⟩⟩⟩⟩⟩
  all_goals first | exact ⟨a, b, c, d, rfl⟩ | (simp at h)
theorem spotS {W : World} {a : Addr} {v : Value} (k : W.cell? a = some v) : a.spot = none := by
  unfold World.cell? at k
  cases hq : a.spot with
  | none => rfl
  | some z => rw [hq] at k; simp at k; split at k <;> cases k
theorem fields5s {H : Type} {enc : TypeId × Value → H} {P : Program} {w : World} {base : Nat} {spare : Nat → Bool} {held : Bool} {t : TypeId} {f0 f1 f2 f3 f4 : Field} {fuel : Nat} {cs : List Value} {x : DataW H × List MemPlace} (ht : P.underlying t = some (.struct #[f0, f1, f2, f3, f4])) (h : DataW.trod enc P w base spare held fuel t cs = some x) :
    ∃ y0 y1 y2 y3 y4 n, x = (.agg [y0.1, y1.1, y2.1, y3.1, y4.1], y0.2 ++ (y1.2 ++ (y2.2 ++ (y3.2 ++ y4.2)))) ∧ cs.length = P.cellsOf t ∧ DataW.trod enc P w base spare held n f0.type ((cs.drop f0.offset).take (P.cellsOf f0.type)) = some y0 ∧
      DataW.trod enc P w base spare held n f1.type ((cs.drop f1.offset).take (P.cellsOf f1.type)) = some y1 ∧ DataW.trod enc P w base spare held n f2.type ((cs.drop f2.offset).take (P.cellsOf f2.type)) = some y2 ∧ DataW.trod enc P w base spare held n f3.type ((cs.drop f3.offset).take (P.cellsOf f3.type)) = some y3 ∧ DataW.trod enc P w base spare held n f4.type ((cs.drop f4.offset).take (P.cellsOf f4.type)) = some y4 := by
  obtain ⟨xs, n, _, rfl, hl, hlen, hf⟩ := DataW.trod_struct ht h
  match xs, hlen with
  | [y0, y1, y2, y3, y4], _ => exact ⟨y0, y1, y2, y3, y4, n, by simp, hl, by simpa using hf 0 f0 rfl, by simpa using hf 1 f1 rfl, by simpa using hf 2 f2 rfl, by simpa using hf 3 f3 rfl, by simpa using hf 4 f4 rfl⟩
theorem fields4s {H : Type} {enc : TypeId × Value → H} {P : Program} {w : World} {base : Nat} {spare : Nat → Bool} {held : Bool} {t : TypeId} {f0 f1 f2 f3 : Field} {fuel : Nat} {cs : List Value} {x : DataW H × List MemPlace} (ht : P.underlying t = some (.struct #[f0, f1, f2, f3])) (h : DataW.trod enc P w base spare held fuel t cs = some x) :
    ∃ y0 y1 y2 y3 n, x = (.agg [y0.1, y1.1, y2.1, y3.1], y0.2 ++ (y1.2 ++ (y2.2 ++ y3.2))) ∧ cs.length = P.cellsOf t ∧ DataW.trod enc P w base spare held n f0.type ((cs.drop f0.offset).take (P.cellsOf f0.type)) = some y0 ∧
      DataW.trod enc P w base spare held n f1.type ((cs.drop f1.offset).take (P.cellsOf f1.type)) = some y1 ∧ DataW.trod enc P w base spare held n f2.type ((cs.drop f2.offset).take (P.cellsOf f2.type)) = some y2 ∧ DataW.trod enc P w base spare held n f3.type ((cs.drop f3.offset).take (P.cellsOf f3.type)) = some y3 := by
  obtain ⟨xs, n, _, rfl, hl, hlen, hf⟩ := DataW.trod_struct ht h
  match xs, hlen with
  | [y0, y1, y2, y3], _ => exact ⟨y0, y1, y2, y3, n, by simp, hl, by simpa using hf 0 f0 rfl, by simpa using hf 1 f1 rfl, by simpa using hf 2 f2 rfl, by simpa using hf 3 f3 rfl⟩
theorem all_memS {H : Type} {P : Program} {e : TypeId} : ∀ {l : List (DataW H)} {d : DataW H}, d ∈ l → ∀ n ∈ d.weights P e, n ∈ DataW.weightsAll P e l
  | [], _, h => by cases h
  | x :: r, d, h => by
    intro n hn
    rw [DataW.weightsAll]
    rcases List.mem_cons.1 h with rfl | h
    · exact List.mem_append_left _ hn
    · exact List.mem_append_right _ (all_memS h n hn)

theorem open_session {H : Type} {enc : TypeId × Value → H} {W : World} {n i : Nat} {a : Addr} {x : DataW H} {pl : List MemPlace} {cs' : List Value} (ha : a.spot = none)
    (h1 : W.cells? 0 (a.add (i * Try.prog.cellsOf 38)) (Try.prog.cellsOf 38) = some cs') (h2 : DataW.trod enc Try.prog W 0 (fun _ => true) true n 38 cs' = some (x, pl)) :
    ∃ e : Se, x = datS e ∧ a.spot = none ∧ SeAt W a.block (a.off + i * 5) e := by
  rw [Try.cellsSe] at h1
  obtain ⟨_, hlen, hc⟩ := World.cells?_some h1
  obtain ⟨y0, y1, y2, y3, y4, n', hx', _, t0, t1, t2, t3, t4⟩ := fields5s Try.underlying38 h2
  obtain ⟨c0, c1, c2, c3, c4, rfl⟩ := list5s hlen
  have t0' : DataW.trod enc Try.prog W 0 (fun _ => true) true n' 3 [c0] = some y0 := by simpa [Try.cellsS3] using t0
  have t1' : DataW.trod enc Try.prog W 0 (fun _ => true) true n' 9 [c1] = some y1 := by simpa [Try.cellsS9] using t1
  have t2' : DataW.trod enc Try.prog W 0 (fun _ => true) true n' 9 [c2] = some y2 := by simpa [Try.cellsS9] using t2
  have t3' : DataW.trod enc Try.prog W 0 (fun _ => true) true n' 3 [c3] = some y3 := by simpa [Try.cellsS3] using t3
  have t4' : DataW.trod enc Try.prog W 0 (fun _ => true) true n' 3 [c4] = some y4 := by simpa [Try.cellsS3] using t4
  obtain ⟨s0, e0, g0, _⟩ := DataW.trod_int Try.underlying3 t0'
  obtain ⟨s1, e1, g1, _⟩ := DataW.trod_string Try.underlying9 t1'
  obtain ⟨s2, e2, g2, _⟩ := DataW.trod_string Try.underlying9 t2'
  obtain ⟨s3, e3, g3, _⟩ := DataW.trod_int Try.underlying3 t3'
  obtain ⟨s4, e4, g4, _⟩ := DataW.trod_int Try.underlying3 t4'
  obtain rfl : c0 = .int .i64 s0 := by simpa using e0
  obtain rfl : c1 = .string s1 := by simpa using e1
  obtain rfl : c2 = .string s2 := by simpa using e2
  obtain rfl : c3 = .int .i64 s3 := by simpa using e3
  obtain rfl : c4 = .int .i64 s4 := by simpa using e4
  subst g0; subst g1; subst g2; subst g3; subst g4
  simp only [Prod.mk.injEq] at hx'
  have k0 := hc 0 (by omega)
  have k1 := hc 1 (by omega)
  have k2 := hc 2 (by omega)
  have k3 := hc 3 (by omega)
  have k4 := hc 4 (by omega)
  obtain ⟨ab, ao, asp⟩ := a
  obtain rfl : asp = none := ha
  refine ⟨⟨s0, s1, s2, s3, s4⟩, hx'.1, rfl, ?_, ?_, ?_, ?_, ?_⟩
  · by_cases hi0 : i = 0
    · subst hi0; simpa [Addr.add] using k0
    · have hi4 : i * 5 ≠ 0 := by omega
      simpa [Addr.add, hi4] using k0
  · by_cases hi0 : i = 0
    · subst hi0; simpa [Addr.add] using k1
    · have hi4 : i * 5 ≠ 0 := by omega
      simpa [Addr.add, hi4, Nat.add_assoc] using k1
  · by_cases hi0 : i = 0
    · subst hi0; simpa [Addr.add] using k2
    · have hi4 : i * 5 ≠ 0 := by omega
      simpa [Addr.add, hi4, Nat.add_assoc] using k2
  · by_cases hi0 : i = 0
    · subst hi0; simpa [Addr.add] using k3
    · have hi4 : i * 5 ≠ 0 := by omega
      simpa [Addr.add, hi4, Nat.add_assoc] using k3
  · by_cases hi0 : i = 0
    · subst hi0; simpa [Addr.add] using k4
    · have hi4 : i * 5 ≠ 0 := by omega
      simpa [Addr.add, hi4, Nat.add_assoc] using k4

set_option maxRecDepth 100000 in
theorem open_sessions_w {H : Type} {enc : TypeId × Value → H} {W : World} {v : Value} {d : DataW H} {p : List MemPlace} {fuel : Nat} (hf : DataW.trod enc Try.prog W 0 (fun _ => true) true fuel 22 [v] = some (d, p)) (hk : ∀ n ∈ d.weights Try.prog 22, n ≤ reachBytes) :
    ∃ L : List Se, LiesS W v L ∧ SizedS L := by
  haveI : Inhabited Se := ⟨⟨0, ⟨#[]⟩, ⟨#[]⟩, 0, 0⟩⟩
  rcases Go.Deep.open_slice Try.underlying22 hf with ⟨hcs, hx⟩ | ⟨a, len, cap, m, n, D, Pl, hcs, hb, hl, hm, hmm, hx, hel⟩
  · obtain rfl : v = .slice none 0 0 := by simpa using hcs
    exact ⟨[], liesS_nil _, fun e he => by cases he⟩
  obtain rfl : v = .slice (some a) len cap := by simpa using hcs
  have hm2 : m = cap := hmm.trans (if_pos rfl)
  clear hmm
  have hd := (Prod.mk.inj hx).1
  clear hx
  subst hm2
  have hsp : 0 < len → a.spot = none := fun h => by
    obtain ⟨cs', h1, _⟩ := hel 0 (by omega)
    rw [Try.cellsSe] at h1
    obtain ⟨_, hlen, hc⟩ := World.cells?_some h1
    obtain ⟨c0, c1, c2, c3, c4, rfl⟩ := list5s hlen
    have k0 := hc 0 (by omega)
    exact spotS (v := c0) (by simpa [Addr.add] using k0)
  have each : ∀ i, i < len → ∃ e : Se, D i = datS e ∧ a.spot = none ∧ SeAt W a.block (a.off + i * 5) e := fun i hi => by
    obtain ⟨cs', h1, h2⟩ := hel i (by omega)
    exact open_session (hsp (by omega)) h1 h2
  obtain ⟨E, hE⟩ := Go.Deep.choose_lt each
  obtain ⟨sp, hd'⟩ : ∃ sp, d = .slice ((List.range len).map D) sp := ⟨_, hd⟩
  have hlen56 : (len + sp.length) * 56 ≤ reachBytes := by
    have := hk ((len + sp.length) * 56) (by
      rw [hd', DataW.weights]
      simp only [Try.underlying22, Try.bytesSe, List.length_map, List.length_range]
      exact List.mem_cons_self ..)
    exact this
  have hel2 : ∀ i, i < len → ∀ n ∈ (D i).weights Try.prog 38, n ≤ reachBytes := fun i hi n hn => hk n (by
    rw [hd', DataW.weights]
    simp only [Try.underlying22]
    refine List.mem_cons_of_mem _ (List.mem_append_left _ (all_memS (List.mem_map.2 ⟨i, List.mem_range.2 hi, rfl⟩) n hn)))
  have hrb : reachBytes = 140737488351232 := by decide
  refine ⟨(List.range len).map E, ⟨some a, _, by simp; rfl, by simpa using hl, ?_, fun i hi => ?_⟩, fun e he => ?_⟩
  · rw [hrb] at hlen56
    simp only [List.length_map, List.length_range]
    omega
  · have hi' : i < len := by simpa using hi
    obtain ⟨h1, h2, h3⟩ := hE i hi'
    have hlt : a.block < W.heap.size := by
      have k := h3.1
      rcases Nat.lt_or_ge a.block W.heap.size with h | h
      · exact h
      · unfold World.cell? at k; rw [Array.getElem?_eq_none h] at k; cases k
    refine ⟨a.block, a.off, ?_, hlt, by simpa using h3⟩
    rw [← h2]
  · obtain ⟨i, hi, rfl⟩ := List.mem_map.1 he
    have h1 := hel2 i (List.mem_range.1 hi)
    rw [(hE i (List.mem_range.1 hi)).1] at h1
    have hw : DataW.weights Try.prog 38 (datS (H := H) (E i)) = [(E i).wh.data.toList.length, (E i).tx.data.toList.length] := by
      rw [datS, DataW.weights]
      simp only [Try.underlying38]
      simp [DataW.weightsEach, DataW.weights]
    rw [hw, hrb] at h1
    rw [Lib.size_eq, Lib.size_eq]
    have a1 := h1 _ (List.mem_cons_self ..)
    have a2 := h1 _ (List.mem_cons_of_mem _ (List.mem_cons_self ..))
    exact ⟨by omega, by omega⟩

set_option maxRecDepth 100000 in
theorem open_uploads_w {H : Type} {enc : TypeId × Value → H} {W : World} {r : Reach} {b0 : Nat} {v : Value} {d : DataW H} {pl : List MemPlace} (hv : Value.okWide Try.prog W r b0 24 v) (h : DataW.Trod enc Try.prog W 0 (fun _ => true) true 24 v d pl) (hk : ∀ n ∈ d.weights Try.prog 24, n ≤ reachBytes) :
    ∃ (u : Value) (x l r : Int) (L : List Se), v = .agg #[u, .int .i64 x, .int .i64 l, .int .i64 r] ∧ LiesS W u L ∧ SizedS L := by
  obtain ⟨cs, rfl, hsz⟩ := okWide_struct Try.underlying24 hv
  obtain ⟨fuel, hf⟩ := h
  have hf' : DataW.trod enc Try.prog W 0 (fun _ => true) true fuel 24 cs.toList = some (d, pl) := by simpa [Value.cells] using hf
  obtain ⟨y0, y1, y2, y3, n', hx, hlen, t0, t1, t2, t3⟩ := fields4s Try.underlying24 hf'
  rw [Try.cellsUp] at hlen
  obtain ⟨c0, c1, c2, c3, hcs⟩ := list4s hlen
  rw [hcs] at t0 t1 t2 t3
  have t0' : DataW.trod enc Try.prog W 0 (fun _ => true) true n' 22 [c0] = some y0 := by simpa [Try.cellsSl] using t0
  have t1' : DataW.trod enc Try.prog W 0 (fun _ => true) true n' 3 [c1] = some y1 := by simpa [Try.cellsS3] using t1
  have t2' : DataW.trod enc Try.prog W 0 (fun _ => true) true n' 3 [c2] = some y2 := by simpa [Try.cellsS3] using t2
  have t3' : DataW.trod enc Try.prog W 0 (fun _ => true) true n' 3 [c3] = some y3 := by simpa [Try.cellsS3] using t3
  obtain ⟨s1, e1, g1, _⟩ := DataW.trod_int Try.underlying3 t1'
  obtain ⟨s2, e2, g2, _⟩ := DataW.trod_int Try.underlying3 t2'
  obtain ⟨s3, e3, g3, _⟩ := DataW.trod_int Try.underlying3 t3'
  obtain rfl : c1 = .int .i64 s1 := by simpa using e1
  obtain rfl : c2 = .int .i64 s2 := by simpa using e2
  obtain rfl : c3 = .int .i64 s3 := by simpa using e3
  subst g1; subst g2; subst g3
  simp only [Prod.mk.injEq] at hx
  have hd := hx.1
  obtain ⟨d0, p0⟩ := y0
  have hk0 : ∀ n ∈ d0.weights Try.prog 22, n ≤ reachBytes := fun n hn => hk n (by
    rw [hd, DataW.weights]
    simp only [Try.underlying24]
    simp [DataW.weightsEach, DataW.weights, hn])
  obtain ⟨L, hL, hS⟩ := open_sessions_w t0' hk0
  refine ⟨c0, s1, s2, s3, L, ?_, hL, hS⟩
  congr 1
  exact Array.ext' (by simpa using hcs)
end Go.Proofs.Ytnaedemkpiagmaa
