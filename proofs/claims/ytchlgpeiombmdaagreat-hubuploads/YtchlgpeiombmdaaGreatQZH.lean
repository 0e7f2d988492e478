/- A tree that is handed in: its entries, and how great they are. A change that is handed in: its fields, and how great they are. A list of changes that is handed in: its changes, and how great they are. Commits and journals that are handed in: what lies there, and how great it is. A tree that is handed in, and a change: how great they are, by the reach of every argument. Changes that are handed in: how great they are, by the reach of every argument. Changes, commits and journals that are handed in: how great they are, by the reach of every argument. A list of grants that is handed in: its grants, and how great they are. A list of grants that is handed in: how great they are, by the reach of every argument. Uploads that are handed in: their sessions, and how great these are, by the reach of every argument. -/
import Derived.Test.YtchlgpeiombmdaaGreatQD
import Derived.Test.YtchlgpeiombmdaaGreatRows
import Derived.Deep.Slices
import Derived.Lib.SmallJoins
import Derived.Carry
import Derived.Test.YtchlgpeiombmdaaGreatQB
import Derived.SizedLaws
import Derived.Test.YtchlgpeiombmdaaGreatQL
set_option linter.unusedSimpArgs false
set_option linter.unusedVariables false
namespace Go.Proofs.YtchlgpeiombmdaaGreat
open Go.ChangeShapes Go.WideShapes Go.ChangeAt Go.RowKit

namespace Bk
theorem len {H : Type} : ∀ {l : List (DataW H)}, (∀ d ∈ l, 1 ≤ Rows.uptoBulk d) → l.length ≤ Rows.uptoBulkAll l
 | [], _ => Nat.zero_le _
 | x :: r, h => by
  rw [Rows.uptoBulkAll, List.length_cons]
  have h1 := h x (by simp)
  have h2 := len (l := r) fun d hd => h d (by simp [hd])
  omega
end Bk

theorem Tryz.cellsE : Tryz.prog.cellsOf 60 = 4 := by kernel_rfl
theorem Tryz.cells9 : Tryz.prog.cellsOf 9 = 1 := by kernel_rfl
theorem Tryz.cells4 : Tryz.prog.cellsOf 4 = 1 := by kernel_rfl
theorem Tryz.cells3 : Tryz.prog.cellsOf 3 = 1 := by kernel_rfl
def datE {H : Type} (e : En) : DataW H := .agg [.lit (.string e.path.data.toList), .lit (.bool e.folder), .lit (.string e.text.data.toList), .lit (.int .i64 e.ver)]
theorem list4 {α : Type} {l : List α} (h : l.length = 4) : ∃ a b c d, l = [a, b, c, d] := by
 rcases l with _ | ⟨a, _ | ⟨b, _ | ⟨c, _ | ⟨d, _ | ⟨e, r⟩⟩⟩⟩⟩
 all_goals first | exact ⟨a, b, c, d, rfl⟩ | (simp at h)
theorem spot_none {W : World} {a : Addr} {v : Value} (k : W.cell? a = some v) : a.spot = none := by
 unfold World.cell? at k
 cases hq : a.spot with
 | none => rfl
 | some z => rw [hq] at k; simp at k; split at k <;> cases k
/-- One entry of a tree that is handed in. -/
theorem open_entry {H : Type} {enc : TypeId × Value → H} {W : World} {n i : Nat} {a : Addr} {x : DataW H} {pl : List MemPlace} {cs' : List Value} (ha : a.spot = none)
    (h1 : W.cells? 0 (a.add (i * Tryz.prog.cellsOf 60)) (Tryz.prog.cellsOf 60) = some cs') (h2 : DataW.trod enc Tryz.prog W 0 (fun _ => true) true n 60 cs' = some (x, pl)) :
    ∃ e : En, x = datE e ∧ a.spot = none ∧ EnAt W a.block (a.off + i * 4) e := by
 rw [Tryz.cellsE] at h1
 obtain ⟨_, hlen, hc⟩ := World.cells?_some h1
 obtain ⟨y0, y1, y2, y3, n', hx', _, t0, t1, t2, t3⟩ := Go.Joins.trod_struct4 Tryz.underlying60 h2
 obtain ⟨c0, c1, c2, c3, rfl⟩ := list4 hlen
 have t0' : DataW.trod enc Tryz.prog W 0 (fun _ => true) true n' 9 [c0] = some y0 := by simpa [Tryz.cells9] using t0
 have t1' : DataW.trod enc Tryz.prog W 0 (fun _ => true) true n' 4 [c1] = some y1 := by simpa [Tryz.cells4] using t1
 have t2' : DataW.trod enc Tryz.prog W 0 (fun _ => true) true n' 9 [c2] = some y2 := by simpa [Tryz.cells9] using t2
 have t3' : DataW.trod enc Tryz.prog W 0 (fun _ => true) true n' 3 [c3] = some y3 := by simpa [Tryz.cells3] using t3
 obtain ⟨s0, e0, g0, _⟩ := DataW.trod_string Tryz.underlying9 t0'
 obtain ⟨s1, e1, g1⟩ := DataW.trod_bool Tryz.underlying4 t1'
 obtain ⟨s2, e2, g2, _⟩ := DataW.trod_string Tryz.underlying9 t2'
 obtain ⟨s3, e3, g3, _⟩ := DataW.trod_int Tryz.underlying3 t3'
 obtain rfl : c0 = .string s0 := by simpa using e0
 obtain rfl : c1 = .bool s1 := by simpa using e1
 obtain rfl : c2 = .string s2 := by simpa using e2
 obtain rfl : c3 = .int .i64 s3 := by simpa using e3
 subst g0; subst g1; subst g2; subst g3
 simp only [Prod.mk.injEq] at hx'
 have k0 := hc 0 (by omega)
 have k1 := hc 1 (by omega)
 have k2 := hc 2 (by omega)
 have k3 := hc 3 (by omega)
 obtain ⟨ab, ao, asp⟩ := a
 obtain rfl : asp = none := ha
 refine ⟨⟨s0, s1, s2, s3⟩, hx'.1, rfl, ?_, ?_, ?_, ?_⟩
 · by_cases hi0 : i = 0
   · subst hi0; simpa [Addr.add] using k0
   · have hi4 : i * 4 ≠ 0 := by omega
     simpa [Addr.add, hi4] using k0
 · by_cases hi0 : i = 0
   · subst hi0; simpa [Addr.add] using k1
   · have hi4 : i * 4 ≠ 0 := by omega
     simpa [Addr.add, hi4, Nat.add_assoc] using k1
 · by_cases hi0 : i = 0
   · subst hi0; simpa [Addr.add] using k2
   · have hi4 : i * 4 ≠ 0 := by omega
     simpa [Addr.add, hi4, Nat.add_assoc] using k2
 · by_cases hi0 : i = 0
   · subst hi0; simpa [Addr.add] using k3
   · have hi4 : i * 4 ≠ 0 := by omega
     simpa [Addr.add, hi4, Nat.add_assoc] using k3
end Go.Proofs.YtchlgpeiombmdaaGreat
set_option linter.unusedSimpArgs false
set_option linter.unusedVariables false
namespace Go.Proofs.YtchlgpeiombmdaaGreat
open Go.ChangeShapes Go.WideShapes Go.ChangeAt Go.RowKit

theorem Tryz.cellsC : Tryz.prog.cellsOf 67 = 5 := by kernel_rfl
theorem list5 {α : Type} {l : List α} (h : l.length = 5) : ∃ a b c d e, l = [a, b, c, d, e] := by
 rcases l with _ | ⟨a, _ | ⟨b, _ | ⟨c, _ | ⟨d, _ | ⟨e, _ | ⟨f, r⟩⟩⟩⟩⟩⟩
 all_goals first | exact ⟨a, b, c, d, e, rfl⟩ | (simp at h)
theorem fields5 {H : Type} {enc : TypeId × Value → H} {P : Program} {w : World} {base : Nat} {spare : Nat → Bool} {held : Bool} {t : TypeId} {f0 f1 f2 f3 f4 : Field} {fuel : Nat} {cs : List Value} {x : DataW H × List MemPlace} (ht : P.underlying t = some (.struct #[f0, f1, f2, f3, f4])) (h : DataW.trod enc P w base spare held fuel t cs = some x) :
    ∃ y0 y1 y2 y3 y4 n, x = (.agg [y0.1, y1.1, y2.1, y3.1, y4.1], y0.2 ++ (y1.2 ++ (y2.2 ++ (y3.2 ++ y4.2)))) ∧ cs.length = P.cellsOf t ∧ DataW.trod enc P w base spare held n f0.type ((cs.drop f0.offset).take (P.cellsOf f0.type)) = some y0 ∧
     DataW.trod enc P w base spare held n f1.type ((cs.drop f1.offset).take (P.cellsOf f1.type)) = some y1 ∧ DataW.trod enc P w base spare held n f2.type ((cs.drop f2.offset).take (P.cellsOf f2.type)) = some y2 ∧
     DataW.trod enc P w base spare held n f3.type ((cs.drop f3.offset).take (P.cellsOf f3.type)) = some y3 ∧ DataW.trod enc P w base spare held n f4.type ((cs.drop f4.offset).take (P.cellsOf f4.type)) = some y4 := by
 obtain ⟨xs, n, _, rfl, hl, hlen, hf⟩ := DataW.trod_struct ht h
 match xs, hlen with
 | [y0, y1, y2, y3, y4], _ => exact ⟨y0, y1, y2, y3, y4, n, by simp, hl, by simpa using hf 0 f0 rfl, by simpa using hf 1 f1 rfl, by simpa using hf 2 f2 rfl, by simpa using hf 3 f3 rfl, by simpa using hf 4 f4 rfl⟩
end Go.Proofs.YtchlgpeiombmdaaGreat
set_option linter.unusedSimpArgs false
set_option linter.unusedVariables false
namespace Go.Proofs.YtchlgpeiombmdaaGreat
open Go.ChangeShapes Go.WideShapes Go.ChangeAt Go.RowKit

def datC {H : Type} (c : Pp.Ch) : DataW H := .agg [.lit (.int .i64 c.k), .lit (.string c.p.data.toList), .lit (.string c.q.data.toList), .lit (.string c.t.data.toList), .lit (.int .i64 c.b)]
/-- One change of a list that is handed in. -/
theorem open_ch {H : Type} {enc : TypeId × Value → H} {W : World} {n i : Nat} {a : Addr} {x : DataW H} {pl : List MemPlace} {cs' : List Value} (ha : a.spot = none)
    (h1 : W.cells? 0 (a.add (i * Tryz.prog.cellsOf 67)) (Tryz.prog.cellsOf 67) = some cs') (h2 : DataW.trod enc Tryz.prog W 0 (fun _ => true) true n 67 cs' = some (x, pl)) :
    ∃ c : Pp.Ch, x = datC c ∧ a.spot = none ∧ ChAt W a.block (a.off + i * 5) c := by
 rw [Tryz.cellsC] at h1
 obtain ⟨_, hlen, hc⟩ := World.cells?_some h1
 obtain ⟨y0, y1, y2, y3, y4, n', hx', _, t0, t1, t2, t3, t4⟩ := fields5 Tryz.underlying67 h2
 obtain ⟨c0, c1, c2, c3, c4, rfl⟩ := list5 hlen
 have t0' : DataW.trod enc Tryz.prog W 0 (fun _ => true) true n' 3 [c0] = some y0 := by simpa [Tryz.cells3] using t0
 have t1' : DataW.trod enc Tryz.prog W 0 (fun _ => true) true n' 9 [c1] = some y1 := by simpa [Tryz.cells9] using t1
 have t2' : DataW.trod enc Tryz.prog W 0 (fun _ => true) true n' 9 [c2] = some y2 := by simpa [Tryz.cells9] using t2
 have t3' : DataW.trod enc Tryz.prog W 0 (fun _ => true) true n' 9 [c3] = some y3 := by simpa [Tryz.cells9] using t3
 have t4' : DataW.trod enc Tryz.prog W 0 (fun _ => true) true n' 3 [c4] = some y4 := by simpa [Tryz.cells3] using t4
 obtain ⟨s0, e0, g0, _⟩ := DataW.trod_int Tryz.underlying3 t0'
 obtain ⟨s1, e1, g1, _⟩ := DataW.trod_string Tryz.underlying9 t1'
 obtain ⟨s2, e2, g2, _⟩ := DataW.trod_string Tryz.underlying9 t2'
 obtain ⟨s3, e3, g3, _⟩ := DataW.trod_string Tryz.underlying9 t3'
 obtain ⟨s4, e4, g4, _⟩ := DataW.trod_int Tryz.underlying3 t4'
 obtain rfl : c0 = .int .i64 s0 := by simpa using e0
 obtain rfl : c1 = .string s1 := by simpa using e1
 obtain rfl : c2 = .string s2 := by simpa using e2
 obtain rfl : c3 = .string s3 := by simpa using e3
 obtain rfl : c4 = .int .i64 s4 := by simpa using e4
 subst g0; subst g1; subst g2; subst g3; subst g4
 simp only [Prod.mk.injEq] at hx'
 have k0 := hc 0 (by omega)
 have k1 := hc 1 (by omega)
 have k2 := hc 2 (by omega)
 have k3 := hc 3 (by omega)
 have k4 := hc 4 (by omega)
 obtain ⟨ab, ao, asp⟩ := a
 obtain rfl : asp = none := ha
 refine ⟨⟨s0, s1, s2, s3, s4⟩, hx'.1, rfl, ?_, ?_, ?_, ?_, ?_⟩
 · by_cases hi0 : i = 0
   · subst hi0; simpa [Addr.add] using k0
   · have hi4 : i * 5 ≠ 0 := by omega
     simpa [Addr.add, hi4] using k0
 · by_cases hi0 : i = 0
   · subst hi0; simpa [Addr.add] using k1
   · have hi4 : i * 5 ≠ 0 := by omega
     simpa [Addr.add, hi4, Nat.add_assoc] using k1
 · by_cases hi0 : i = 0
   · subst hi0; simpa [Addr.add] using k2
   · have hi4 : i * 5 ≠ 0 := by omega
     simpa [Addr.add, hi4, Nat.add_assoc] using k2
 · by_cases hi0 : i = 0
   · subst hi0; simpa [Addr.add] using k3
   · have hi4 : i * 5 ≠ 0 := by omega
     simpa [Addr.add, hi4, Nat.add_assoc] using k3
 · by_cases hi0 : i = 0
   · subst hi0; simpa [Addr.add] using k4
   · have hi4 : i * 5 ≠ 0 := by omega
     simpa [Addr.add, hi4, Nat.add_assoc] using k4
end Go.Proofs.YtchlgpeiombmdaaGreat
set_option linter.unusedSimpArgs false
set_option linter.unusedVariables false
namespace Go.Proofs.YtchlgpeiombmdaaGreat
open Go.ChangeShapes Go.WideShapes Go.ChangeAt Go.RowKit

theorem Tryz.cellsCo : Tryz.prog.cellsOf 58 = 3 := by kernel_rfl
theorem Tryz.cellsSC : Tryz.prog.cellsOf 29 = 1 := by kernel_rfl
theorem Tryz.cellsSO : Tryz.prog.cellsOf 35 = 1 := by kernel_rfl
theorem Tryz.cellsSE : Tryz.prog.cellsOf 34 = 1 := by kernel_rfl
theorem list3 {α : Type} {l : List α} (h : l.length = 3) : ∃ a b c, l = [a, b, c] := by
 rcases l with _ | ⟨a, _ | ⟨b, _ | ⟨c, _ | ⟨d, r⟩⟩⟩⟩
 all_goals first | exact ⟨a, b, c, rfl⟩ | (simp at h)
theorem fields3 {H : Type} {enc : TypeId × Value → H} {P : Program} {w : World} {base : Nat} {spare : Nat → Bool} {held : Bool} {t : TypeId} {f0 f1 f2 : Field} {fuel : Nat} {cs : List Value} {x : DataW H × List MemPlace} (ht : P.underlying t = some (.struct #[f0, f1, f2])) (h : DataW.trod enc P w base spare held fuel t cs = some x) :
    ∃ y0 y1 y2 n, x = (.agg [y0.1, y1.1, y2.1], y0.2 ++ (y1.2 ++ y2.2)) ∧ cs.length = P.cellsOf t ∧ DataW.trod enc P w base spare held n f0.type ((cs.drop f0.offset).take (P.cellsOf f0.type)) = some y0 ∧
     DataW.trod enc P w base spare held n f1.type ((cs.drop f1.offset).take (P.cellsOf f1.type)) = some y1 ∧ DataW.trod enc P w base spare held n f2.type ((cs.drop f2.offset).take (P.cellsOf f2.type)) = some y2 := by
 obtain ⟨xs, n, _, rfl, hl, hlen, hf⟩ := DataW.trod_struct ht h
 match xs, hlen with
 | [y0, y1, y2], _ => exact ⟨y0, y1, y2, n, by simp, hl, by simpa using hf 0 f0 rfl, by simpa using hf 1 f1 rfl, by simpa using hf 2 f2 rfl⟩
end Go.Proofs.YtchlgpeiombmdaaGreat
set_option linter.unusedSimpArgs false
set_option linter.unusedVariables false
namespace Go.Proofs.YtchlgpeiombmdaaGreat
open Go.ChangeShapes Go.WideShapes Go.ChangeAt Go.RowKit

theorem Tryz.bytesE : Tryz.prog.bytesOf 60 = 48 := by kernel_rfl
theorem all_mem {H : Type} {P : Program} {e : TypeId} : ∀ {l : List (DataW H)} {d : DataW H}, d ∈ l → ∀ n ∈ d.weights P e, n ∈ DataW.weightsAll P e l
 | [], _, h => by cases h
 | x :: r, d, h => by
  intro n hn
  rw [DataW.weightsAll]
  rcases List.mem_cons.1 h with rfl | h
  · exact List.mem_append_left _ hn
  · exact List.mem_append_right _ (all_mem h n hn)
set_option maxRecDepth 100000 in
theorem open_tree_w {H : Type} {enc : TypeId × Value → H} {W : World} {v : Value} {d : DataW H} {p : List MemPlace} {fuel : Nat} (hf : DataW.trod enc Tryz.prog W 0 (fun _ => true) true fuel 34 [v] = some (d, p)) (hk : ∀ n ∈ d.weights Tryz.prog 34, n ≤ reachBytes) :
    ∃ L : List En, Lies W v L ∧ ∀ e ∈ L, e.path.size ≤ reachBytes ∧ e.text.size ≤ reachBytes := by
 haveI : Inhabited En := ⟨⟨⟨#[]⟩, false, ⟨#[]⟩, 0⟩⟩
 rcases Go.Deep.open_slice Tryz.underlying34 hf with ⟨hcs, hx⟩ | ⟨a, len, cap, m, n, D, Pl, hcs, hb, hl, hm, hmm, hx, hel⟩
 · obtain rfl : v = .slice none 0 0 := by simpa using hcs
   exact ⟨[], ⟨none, 0, rfl, Nat.le_refl _, by simp, fun i hi => absurd hi (by simp)⟩, fun e he => by cases he⟩
 obtain rfl : v = .slice (some a) len cap := by simpa using hcs
 have hm2 : m = cap := hmm.trans (if_pos rfl)
 clear hmm
 have hd := (Prod.mk.inj hx).1
 clear hx
 subst hm2
 have hsp : 0 < len → a.spot = none := fun h => by
  obtain ⟨cs', h1, _⟩ := hel 0 (by omega)
  rw [Tryz.cellsE] at h1
  obtain ⟨_, hlen, hc⟩ := World.cells?_some h1
  obtain ⟨c0, c1, c2, c3, rfl⟩ := list4 hlen
  have k0 := hc 0 (by omega)
  exact spot_none (v := c0) (by simpa [Addr.add] using k0)
 have each : ∀ i, i < len → ∃ e : En, D i = datE e ∧ a.spot = none ∧ EnAt W a.block (a.off + i * 4) e := fun i hi => by
  obtain ⟨cs', h1, h2⟩ := hel i (by omega)
  exact open_entry (hsp (by omega)) h1 h2
 obtain ⟨E, hE⟩ := Go.Deep.choose_lt each
 obtain ⟨sp, hd'⟩ : ∃ sp, d = .slice ((List.range len).map D) sp := ⟨_, hd⟩
 have hlen48 : (len + sp.length) * 48 ≤ reachBytes := by
  have := hk ((len + sp.length) * 48) (by
   rw [hd', DataW.weights]
   simp only [Tryz.underlying34, Tryz.bytesE, List.length_map, List.length_range]
   exact List.mem_cons_self ..)
  exact this
 have hel2 : ∀ i, i < len → ∀ n ∈ (D i).weights Tryz.prog 60, n ≤ reachBytes := fun i hi n hn => hk n (by
  rw [hd', DataW.weights]
  simp only [Tryz.underlying34]
  refine List.mem_cons_of_mem _ (List.mem_append_left _ (all_mem (List.mem_map.2 ⟨i, List.mem_range.2 hi, rfl⟩) n hn)))
 have hrb : reachBytes = 140737488351232 := by decide
 refine ⟨(List.range len).map E, ⟨some a, _, by simp; rfl, by simpa using hl, ?_, fun i hi => ?_⟩, fun e he => ?_⟩
 · rw [hrb] at hlen48
   simp only [List.length_map, List.length_range]
   omega
 · have hi' : i < len := by simpa using hi
   obtain ⟨h1, h2, h3⟩ := hE i hi'
   have hlt : a.block < W.heap.size := by
    have k := h3.1
    rcases Nat.lt_or_ge a.block W.heap.size with h | h
    · exact h
    · unfold World.cell? at k; rw [Array.getElem?_eq_none h] at k; cases k
   refine ⟨a.block, a.off, ?_, hlt, by simpa using h3⟩
   rw [← h2]
 · obtain ⟨i, hi, rfl⟩ := List.mem_map.1 he
   have h1 := hel2 i (List.mem_range.1 hi)
   rw [(hE i (List.mem_range.1 hi)).1] at h1
   have hw : DataW.weights Tryz.prog 60 (datE (H := H) (E i)) = [(E i).path.data.toList.length, (E i).text.data.toList.length] := by
    rw [datE, DataW.weights]
    simp only [Tryz.underlying60]
    simp [DataW.weightsEach, DataW.weights]
   rw [hw] at h1
   rw [Lib.size_eq, Lib.size_eq]
   exact ⟨h1 _ (by simp), h1 _ (by simp)⟩
end Go.Proofs.YtchlgpeiombmdaaGreat
set_option linter.unusedSimpArgs false
set_option linter.unusedVariables false
namespace Go.Proofs.YtchlgpeiombmdaaGreat
open Go.ChangeShapes Go.WideShapes Go.ChangeAt Go.RowKit

theorem Tryz.bytesCh : Tryz.prog.bytesOf 67 = 64 := by kernel_rfl
set_option maxRecDepth 100000 in
theorem open_changes_w {H : Type} {enc : TypeId × Value → H} {W : World} {v : Value} {d : DataW H} {p : List MemPlace} {fuel : Nat} (hf : DataW.trod enc Tryz.prog W 0 (fun _ => true) true fuel 29 [v] = some (d, p)) (hk : ∀ n ∈ d.weights Tryz.prog 29, n ≤ reachBytes) :
    ∃ cs : List Pp.Ch, LiesC W v cs ∧ SizedC reachBytes cs := by
 haveI : Inhabited Pp.Ch := ⟨⟨0, ⟨#[]⟩, ⟨#[]⟩, ⟨#[]⟩, 0⟩⟩
 rcases Go.Deep.open_slice Tryz.underlying29 hf with ⟨hcs, hx⟩ | ⟨a, len, cap, m, n, D, Pl, hcs, hb, hl, hm, hmm, hx, hel⟩
 · obtain rfl : v = .slice none 0 0 := by simpa using hcs
   exact ⟨[], ⟨none, 0, rfl, Nat.le_refl _, by simp, fun i hi => absurd hi (by simp)⟩, fun e he => by cases he⟩
 obtain rfl : v = .slice (some a) len cap := by simpa using hcs
 have hm2 : m = cap := hmm.trans (if_pos rfl)
 clear hmm
 have hd := (Prod.mk.inj hx).1
 clear hx
 subst hm2
 have hsp : 0 < len → a.spot = none := fun h => by
  obtain ⟨cs', h1, _⟩ := hel 0 (by omega)
  rw [Tryz.cellsC] at h1
  obtain ⟨_, hlen, hc⟩ := World.cells?_some h1
  obtain ⟨c0, c1, c2, c3, c4, rfl⟩ := list5 hlen
  have k0 := hc 0 (by omega)
  exact spot_none (v := c0) (by simpa [Addr.add] using k0)
 have each : ∀ i, i < len → ∃ e : Pp.Ch, D i = datC e ∧ a.spot = none ∧ ChAt W a.block (a.off + i * 5) e := fun i hi => by
  obtain ⟨cs', h1, h2⟩ := hel i (by omega)
  exact open_ch (hsp (by omega)) h1 h2
 obtain ⟨E, hE⟩ := Go.Deep.choose_lt each
 obtain ⟨sp, hd'⟩ : ∃ sp, d = .slice ((List.range len).map D) sp := ⟨_, hd⟩
 have hlen64 : (len + sp.length) * 64 ≤ reachBytes := by
  have := hk ((len + sp.length) * 64) (by
   rw [hd', DataW.weights]
   simp only [Tryz.underlying29, Tryz.bytesCh, List.length_map, List.length_range]
   exact List.mem_cons_self ..)
  exact this
 have hel2 : ∀ i, i < len → ∀ n ∈ (D i).weights Tryz.prog 67, n ≤ reachBytes := fun i hi n hn => hk n (by
  rw [hd', DataW.weights]
  simp only [Tryz.underlying29]
  refine List.mem_cons_of_mem _ (List.mem_append_left _ (all_mem (List.mem_map.2 ⟨i, List.mem_range.2 hi, rfl⟩) n hn)))
 have hrb : reachBytes = 140737488351232 := by decide
 refine ⟨(List.range len).map E, ⟨some a, _, by simp; rfl, by simpa using hl, ?_, fun i hi => ?_⟩, fun e he => ?_⟩
 · rw [hrb] at hlen64
   simp only [List.length_map, List.length_range]
   omega
 · have hi' : i < len := by simpa using hi
   obtain ⟨h1, h2, h3⟩ := hE i hi'
   have hlt : a.block < W.heap.size := by
    have k := h3.1
    rcases Nat.lt_or_ge a.block W.heap.size with h | h
    · exact h
    · unfold World.cell? at k; rw [Array.getElem?_eq_none h] at k; cases k
   refine ⟨a.block, a.off, ?_, hlt, by simpa using h3⟩
   rw [← h2]
 · obtain ⟨i, hi, rfl⟩ := List.mem_map.1 he
   have h1 := hel2 i (List.mem_range.1 hi)
   rw [(hE i (List.mem_range.1 hi)).1] at h1
   have hw : DataW.weights Tryz.prog 67 (datC (H := H) (E i)) = [(E i).p.data.toList.length, (E i).q.data.toList.length, (E i).t.data.toList.length] := by
    rw [datC, DataW.weights]
    simp only [Tryz.underlying67]
    simp [DataW.weightsEach, DataW.weights]
   rw [hw] at h1
   rw [Lib.size_eq, Lib.size_eq, Lib.size_eq]
   exact ⟨h1 _ (by simp), h1 _ (by simp), h1 _ (by simp)⟩
end Go.Proofs.YtchlgpeiombmdaaGreat
set_option linter.unusedSimpArgs false
set_option linter.unusedVariables false
namespace Go.Proofs.YtchlgpeiombmdaaGreat
open Go.ChangeShapes Go.WideShapes Go.ChangeAt Go.RowKit

theorem Tryz.bytesCo : Tryz.prog.bytesOf 58 = 48 := by kernel_rfl
set_option maxRecDepth 100000 in
theorem open_co_w {H : Type} {enc : TypeId × Value → H} {W : World} {n i : Nat} {a : Addr} {x : DataW H} {pl : List MemPlace} {cs' : List Value} (ha : a.spot = none)
    (h1 : W.cells? 0 (a.add (i * Tryz.prog.cellsOf 58)) (Tryz.prog.cellsOf 58) = some cs') (h2 : DataW.trod enc Tryz.prog W 0 (fun _ => true) true n 58 cs' = some (x, pl)) (hk : ∀ n ∈ x.weights Tryz.prog 58, n ≤ reachBytes) :
    ∃ c : Co, (c.ke.size ≤ reachBytes ∧ SizedC reachBytes c.ch) ∧ a.spot = none ∧ CoAt W a.block (a.off + i * 3) c := by
 rw [Tryz.cellsCo] at h1
 obtain ⟨_, hlen, hc⟩ := World.cells?_some h1
 obtain ⟨y0, y1, y2, n', hx', _, t0, t1, t2⟩ := fields3 Tryz.underlying58 h2
 obtain ⟨c0, c1, c2, rfl⟩ := list3 hlen
 have t0' : DataW.trod enc Tryz.prog W 0 (fun _ => true) true n' 3 [c0] = some y0 := by simpa [Tryz.cells3] using t0
 have t1' : DataW.trod enc Tryz.prog W 0 (fun _ => true) true n' 9 [c1] = some y1 := by simpa [Tryz.cells9] using t1
 have t2' : DataW.trod enc Tryz.prog W 0 (fun _ => true) true n' 29 [c2] = some y2 := by simpa [Tryz.cellsSC] using t2
 obtain ⟨s0, e0, g0, _⟩ := DataW.trod_int Tryz.underlying3 t0'
 obtain ⟨s1, e1, g1, _⟩ := DataW.trod_string Tryz.underlying9 t1'
 obtain rfl : c0 = .int .i64 s0 := by simpa using e0
 obtain rfl : c1 = .string s1 := by simpa using e1
 subst g0; subst g1
 obtain ⟨d2, p2⟩ := y2
 simp only [Prod.mk.injEq] at hx'
 have hw : x.weights Tryz.prog 58 = s1.data.toList.length :: d2.weights Tryz.prog 29 := by
  rw [hx'.1, DataW.weights]
  simp only [Tryz.underlying58]
  simp [DataW.weightsEach, DataW.weights]
 rw [hw] at hk
 obtain ⟨l, hl, hls⟩ := open_changes_w t2' (fun n hn => hk n (List.mem_cons_of_mem _ hn))
 have hs1 : s1.size ≤ reachBytes := by rw [Lib.size_eq]; exact hk _ (List.mem_cons_self ..)
 have k0 := hc 0 (by omega)
 have k1 := hc 1 (by omega)
 have k2 := hc 2 (by omega)
 obtain ⟨ab, ao, asp⟩ := a
 obtain rfl : asp = none := ha
 refine ⟨⟨s0, s1, l⟩, ⟨hs1, hls⟩, rfl, ?_, ?_, c2, ?_, hl⟩
 · by_cases hi0 : i = 0
   · subst hi0; simpa [Addr.add] using k0
   · have hi4 : i * 3 ≠ 0 := by omega
     simpa [Addr.add, hi4] using k0
 · by_cases hi0 : i = 0
   · subst hi0; simpa [Addr.add] using k1
   · have hi4 : i * 3 ≠ 0 := by omega
     simpa [Addr.add, hi4, Nat.add_assoc] using k1
 · by_cases hi0 : i = 0
   · subst hi0; simpa [Addr.add] using k2
   · have hi4 : i * 3 ≠ 0 := by omega
     simpa [Addr.add, hi4, Nat.add_assoc] using k2
set_option maxRecDepth 100000 in
theorem open_commits_w {H : Type} {enc : TypeId × Value → H} {W : World} {v : Value} {d : DataW H} {p : List MemPlace} {fuel : Nat} (hf : DataW.trod enc Tryz.prog W 0 (fun _ => true) true fuel 35 [v] = some (d, p)) (hk : ∀ n ∈ d.weights Tryz.prog 35, n ≤ reachBytes) :
    ∃ l : List Co, LiesO W v l ∧ SizedO reachBytes l := by
 haveI : Inhabited Co := ⟨⟨0, ⟨#[]⟩, []⟩⟩
 rcases Go.Deep.open_slice Tryz.underlying35 hf with ⟨hcs, hx⟩ | ⟨a, len, cap, m, n, D, Pl, hcs, hb, hl, hm, hmm, hx, hel⟩
 · obtain rfl : v = .slice none 0 0 := by simpa using hcs
   exact ⟨[], liesO_nil _, fun e he => by cases he⟩
 obtain rfl : v = .slice (some a) len cap := by simpa using hcs
 have hm2 : m = cap := hmm.trans (if_pos rfl)
 clear hmm
 have hd := (Prod.mk.inj hx).1
 clear hx
 subst hm2
 have hsp : 0 < len → a.spot = none := fun h => by
  obtain ⟨cs', h1, _⟩ := hel 0 (by omega)
  rw [Tryz.cellsCo] at h1
  obtain ⟨_, hlen, hc⟩ := World.cells?_some h1
  obtain ⟨c0, c1, c2, rfl⟩ := list3 hlen
  have k0 := hc 0 (by omega)
  exact spot_none (v := c0) (by simpa [Addr.add] using k0)
 obtain ⟨sp, hd'⟩ : ∃ sp, d = .slice ((List.range len).map D) sp := ⟨_, hd⟩
 have hlen48 : (len + sp.length) * 48 ≤ reachBytes := by
  have := hk ((len + sp.length) * 48) (by
   rw [hd', DataW.weights]
   simp only [Tryz.underlying35, Tryz.bytesCo, List.length_map, List.length_range]
   exact List.mem_cons_self ..)
  exact this
 have hel2 : ∀ i, i < len → ∀ n ∈ (D i).weights Tryz.prog 58, n ≤ reachBytes := fun i hi n hn => hk n (by
  rw [hd', DataW.weights]
  simp only [Tryz.underlying35]
  refine List.mem_cons_of_mem _ (List.mem_append_left _ (all_mem (List.mem_map.2 ⟨i, List.mem_range.2 hi, rfl⟩) n hn)))
 have hrb : reachBytes = 140737488351232 := by decide
 have each : ∀ i, i < len → ∃ e : Co, (e.ke.size ≤ reachBytes ∧ SizedC reachBytes e.ch) ∧ a.spot = none ∧ CoAt W a.block (a.off + i * 3) e := fun i hi => by
  obtain ⟨cs', h1, h2⟩ := hel i (by omega)
  exact open_co_w (hsp (by omega)) h1 h2 (hel2 i hi)
 obtain ⟨E, hE⟩ := Go.Deep.choose_lt each
 refine ⟨(List.range len).map E, ⟨some a, _, by simp; rfl, by simpa using hl, ?_, fun i hi => ?_⟩, fun e he => ?_⟩
 · rw [hrb] at hlen48
   simp only [List.length_map, List.length_range]
   omega
 · have hi' : i < len := by simpa using hi
   obtain ⟨h1, h2, h3⟩ := hE i hi'
   have hlt : a.block < W.heap.size := by
    have k := h3.1
    rcases Nat.lt_or_ge a.block W.heap.size with h | h
    · exact h
    · unfold World.cell? at k; rw [Array.getElem?_eq_none h] at k; cases k
   refine ⟨a.block, a.off, ?_, hlt, by simpa using h3⟩
   rw [← h2]
 · obtain ⟨i, hi, rfl⟩ := List.mem_map.1 he
   exact (hE i (List.mem_range.1 hi)).1
end Go.Proofs.YtchlgpeiombmdaaGreat
set_option linter.unusedSimpArgs false
set_option linter.unusedVariables false
namespace Go.Proofs.YtchlgpeiombmdaaGreat
open Go.ChangeShapes Go.WideShapes Go.ChangeAt Go.RowKit

namespace BkG
theorem len {H : Type} : ∀ {l : List (DataW H)}, (∀ d ∈ l, 1 ≤ Rows.uptoBulk d) → l.length ≤ Rows.uptoBulkAll l
 | [], _ => Nat.zero_le _
 | x :: r, h => by
  rw [Rows.uptoBulkAll, List.length_cons]
  have h1 := h x (by simp)
  have h2 := len (l := r) fun d hd => h d (by simp [hd])
  omega
end BkG

theorem Tryz.cellsG : Tryz.prog.cellsOf 102 = 3 := by kernel_rfl
theorem Tryz.cellsG9 : Tryz.prog.cellsOf 9 = 1 := by kernel_rfl
theorem Tryz.cellsG3 : Tryz.prog.cellsOf 3 = 1 := by kernel_rfl
def datG {H : Type} (e : Gr) : DataW H := .agg [.lit (.string e.fo.data.toList), .lit (.string e.wh.data.toList), .lit (.int .i64 e.ri)]
theorem list3g {α : Type} {l : List α} (h : l.length = 3) : ∃ a b c, l = [a, b, c] := by
 rcases l with _ | ⟨a, _ | ⟨b, _ | ⟨c, _ | ⟨d, r⟩⟩⟩⟩
 all_goals first | exact ⟨a, b, c, rfl⟩ | (simp at h)
theorem spotG {W : World} {a : Addr} {v : Value} (k : W.cell? a = some v) : a.spot = none := by
 unfold World.cell? at k
 cases hq : a.spot with
 | none => rfl
 | some z => rw [hq] at k; simp at k; split at k <;> cases k
theorem fields3g {H : Type} {enc : TypeId × Value → H} {P : Program} {w : World} {base : Nat} {spare : Nat → Bool} {held : Bool} {t : TypeId} {f0 f1 f2 : Field} {fuel : Nat} {cs : List Value} {x : DataW H × List MemPlace} (ht : P.underlying t = some (.struct #[f0, f1, f2])) (h : DataW.trod enc P w base spare held fuel t cs = some x) :
    ∃ y0 y1 y2 n, x = (.agg [y0.1, y1.1, y2.1], y0.2 ++ (y1.2 ++ y2.2)) ∧ cs.length = P.cellsOf t ∧ DataW.trod enc P w base spare held n f0.type ((cs.drop f0.offset).take (P.cellsOf f0.type)) = some y0 ∧
     DataW.trod enc P w base spare held n f1.type ((cs.drop f1.offset).take (P.cellsOf f1.type)) = some y1 ∧ DataW.trod enc P w base spare held n f2.type ((cs.drop f2.offset).take (P.cellsOf f2.type)) = some y2 := by
 obtain ⟨xs, n, _, rfl, hl, hlen, hf⟩ := DataW.trod_struct ht h
 match xs, hlen with
 | [y0, y1, y2], _ => exact ⟨y0, y1, y2, n, by simp, hl, by simpa using hf 0 f0 rfl, by simpa using hf 1 f1 rfl, by simpa using hf 2 f2 rfl⟩
theorem open_grant {H : Type} {enc : TypeId × Value → H} {W : World} {n i : Nat} {a : Addr} {x : DataW H} {pl : List MemPlace} {cs' : List Value} (ha : a.spot = none)
    (h1 : W.cells? 0 (a.add (i * Tryz.prog.cellsOf 102)) (Tryz.prog.cellsOf 102) = some cs') (h2 : DataW.trod enc Tryz.prog W 0 (fun _ => true) true n 102 cs' = some (x, pl)) :
    ∃ e : Gr, x = datG e ∧ a.spot = none ∧ GrAt W a.block (a.off + i * 3) e := by
 rw [Tryz.cellsG] at h1
 obtain ⟨_, hlen, hc⟩ := World.cells?_some h1
 obtain ⟨y0, y1, y2, n', hx', _, t0, t1, t2⟩ := fields3g Tryz.underlying102 h2
 obtain ⟨c0, c1, c2, rfl⟩ := list3g hlen
 have t0' : DataW.trod enc Tryz.prog W 0 (fun _ => true) true n' 9 [c0] = some y0 := by simpa [Tryz.cellsG9] using t0
 have t1' : DataW.trod enc Tryz.prog W 0 (fun _ => true) true n' 9 [c1] = some y1 := by simpa [Tryz.cellsG9] using t1
 have t2' : DataW.trod enc Tryz.prog W 0 (fun _ => true) true n' 3 [c2] = some y2 := by simpa [Tryz.cellsG3] using t2
 obtain ⟨s0, e0, g0, _⟩ := DataW.trod_string Tryz.underlying9 t0'
 obtain ⟨s1, e1, g1, _⟩ := DataW.trod_string Tryz.underlying9 t1'
 obtain ⟨s2, e2, g2, _⟩ := DataW.trod_int Tryz.underlying3 t2'
 obtain rfl : c0 = .string s0 := by simpa using e0
 obtain rfl : c1 = .string s1 := by simpa using e1
 obtain rfl : c2 = .int .i64 s2 := by simpa using e2
 subst g0; subst g1; subst g2
 simp only [Prod.mk.injEq] at hx'
 have k0 := hc 0 (by omega)
 have k1 := hc 1 (by omega)
 have k2 := hc 2 (by omega)
 obtain ⟨ab, ao, asp⟩ := a
 obtain rfl : asp = none := ha
 refine ⟨⟨s0, s1, s2⟩, hx'.1, rfl, ?_, ?_, ?_⟩
 · by_cases hi0 : i = 0
   · subst hi0; simpa [Addr.add] using k0
   · have hi4 : i * 3 ≠ 0 := by omega
     simpa [Addr.add, hi4] using k0
 · by_cases hi0 : i = 0
   · subst hi0; simpa [Addr.add] using k1
   · have hi4 : i * 3 ≠ 0 := by omega
     simpa [Addr.add, hi4, Nat.add_assoc] using k1
 · by_cases hi0 : i = 0
   · subst hi0; simpa [Addr.add] using k2
   · have hi4 : i * 3 ≠ 0 := by omega
     simpa [Addr.add, hi4, Nat.add_assoc] using k2
end Go.Proofs.YtchlgpeiombmdaaGreat
set_option linter.unusedSimpArgs false
set_option linter.unusedVariables false
namespace Go.Proofs.YtchlgpeiombmdaaGreat
open Go.ChangeShapes Go.WideShapes Go.ChangeAt Go.RowKit

theorem Tryz.bytesG : Tryz.prog.bytesOf 102 = 40 := by kernel_rfl
theorem all_memG {H : Type} {P : Program} {e : TypeId} : ∀ {l : List (DataW H)} {d : DataW H}, d ∈ l → ∀ n ∈ d.weights P e, n ∈ DataW.weightsAll P e l
 | [], _, h => by cases h
 | x :: r, d, h => by
  intro n hn
  rw [DataW.weightsAll]
  rcases List.mem_cons.1 h with rfl | h
  · exact List.mem_append_left _ hn
  · exact List.mem_append_right _ (all_memG h n hn)
set_option maxRecDepth 100000 in
theorem open_grants_w {H : Type} {enc : TypeId × Value → H} {W : World} {v : Value} {d : DataW H} {p : List MemPlace} {fuel : Nat} (hf : DataW.trod enc Tryz.prog W 0 (fun _ => true) true fuel 23 [v] = some (d, p)) (hk : ∀ n ∈ d.weights Tryz.prog 23, n ≤ reachBytes) :
    ∃ L : List Gr, LiesG W v L ∧ SizedG L := by
 haveI : Inhabited Gr := ⟨⟨⟨#[]⟩, ⟨#[]⟩, 0⟩⟩
 rcases Go.Deep.open_slice Tryz.underlying23 hf with ⟨hcs, hx⟩ | ⟨a, len, cap, m, n, D, Pl, hcs, hb, hl, hm, hmm, hx, hel⟩
 · obtain rfl : v = .slice none 0 0 := by simpa using hcs
   exact ⟨[], liesG_nil _, fun e he => by cases he⟩
 obtain rfl : v = .slice (some a) len cap := by simpa using hcs
 have hm2 : m = cap := hmm.trans (if_pos rfl)
 clear hmm
 have hd := (Prod.mk.inj hx).1
 clear hx
 subst hm2
 have hsp : 0 < len → a.spot = none := fun h => by
  obtain ⟨cs', h1, _⟩ := hel 0 (by omega)
  rw [Tryz.cellsG] at h1
  obtain ⟨_, hlen, hc⟩ := World.cells?_some h1
  obtain ⟨c0, c1, c2, rfl⟩ := list3g hlen
  have k0 := hc 0 (by omega)
  exact spotG (v := c0) (by simpa [Addr.add] using k0)
 have each : ∀ i, i < len → ∃ e : Gr, D i = datG e ∧ a.spot = none ∧ GrAt W a.block (a.off + i * 3) e := fun i hi => by
  obtain ⟨cs', h1, h2⟩ := hel i (by omega)
  exact open_grant (hsp (by omega)) h1 h2
 obtain ⟨E, hE⟩ := Go.Deep.choose_lt each
 obtain ⟨sp, hd'⟩ : ∃ sp, d = .slice ((List.range len).map D) sp := ⟨_, hd⟩
 have hlen40 : (len + sp.length) * 40 ≤ reachBytes := by
  have := hk ((len + sp.length) * 40) (by
   rw [hd', DataW.weights]
   simp only [Tryz.underlying23, Tryz.bytesG, List.length_map, List.length_range]
   exact List.mem_cons_self ..)
  exact this
 have hel2 : ∀ i, i < len → ∀ n ∈ (D i).weights Tryz.prog 102, n ≤ reachBytes := fun i hi n hn => hk n (by
  rw [hd', DataW.weights]
  simp only [Tryz.underlying23]
  refine List.mem_cons_of_mem _ (List.mem_append_left _ (all_memG (List.mem_map.2 ⟨i, List.mem_range.2 hi, rfl⟩) n hn)))
 have hrb : reachBytes = 140737488351232 := by decide
 refine ⟨(List.range len).map E, ⟨some a, _, by simp; rfl, by simpa using hl, ?_, fun i hi => ?_⟩, fun e he => ?_⟩
 · rw [hrb] at hlen40
   simp only [List.length_map, List.length_range]
   omega
 · have hi' : i < len := by simpa using hi
   obtain ⟨h1, h2, h3⟩ := hE i hi'
   have hlt : a.block < W.heap.size := by
    have k := h3.1
    rcases Nat.lt_or_ge a.block W.heap.size with h | h
    · exact h
    · unfold World.cell? at k; rw [Array.getElem?_eq_none h] at k; cases k
   refine ⟨a.block, a.off, ?_, hlt, by simpa using h3⟩
   rw [← h2]
 · obtain ⟨i, hi, rfl⟩ := List.mem_map.1 he
   have h1 := hel2 i (List.mem_range.1 hi)
   rw [(hE i (List.mem_range.1 hi)).1] at h1
   have hw : DataW.weights Tryz.prog 102 (datG (H := H) (E i)) = [(E i).fo.data.toList.length, (E i).wh.data.toList.length] := by
    rw [datG, DataW.weights]
    simp only [Tryz.underlying102]
    simp [DataW.weightsEach, DataW.weights]
   rw [hw, hrb] at h1
   rw [Lib.size_eq, Lib.size_eq]
   have a1 := h1 _ (List.mem_cons_self ..)
   have a2 := h1 _ (List.mem_cons_of_mem _ (List.mem_cons_self ..))
   exact ⟨by omega, by omega⟩
end Go.Proofs.YtchlgpeiombmdaaGreat
set_option linter.unusedSimpArgs false
set_option linter.unusedVariables false
namespace Go.Proofs.YtchlgpeiombmdaaGreat
open Go.ChangeShapes Go.WideShapes Go.ChangeAt Go.RowKit

theorem Tryz.cellsSe : Tryz.prog.cellsOf 104 = 5 := by kernel_rfl
theorem Tryz.cellsS9 : Tryz.prog.cellsOf 9 = 1 := by kernel_rfl
theorem Tryz.cellsS3 : Tryz.prog.cellsOf 3 = 1 := by kernel_rfl
theorem Tryz.bytesSe : Tryz.prog.bytesOf 104 = 56 := by kernel_rfl
def datS {H : Type} (e : Se) : DataW H := .agg [.lit (.int .i64 e.nu), .lit (.string e.wh.data.toList), .lit (.string e.tx.data.toList), .lit (.int .i64 e.si), .lit (.int .i64 e.ti)]
theorem list5s {α : Type} {l : List α} (h : l.length = 5) : ∃ a b c d e, l = [a, b, c, d, e] := by
 rcases l with _ | ⟨a, _ | ⟨b, _ | ⟨c, _ | ⟨d, _ | ⟨e, _ | ⟨f, r⟩⟩⟩⟩⟩⟩
 all_goals first | exact ⟨a, b, c, d, e, rfl⟩ | (simp at h)
theorem spotS {W : World} {a : Addr} {v : Value} (k : W.cell? a = some v) : a.spot = none := by
 unfold World.cell? at k
 cases hq : a.spot with
 | none => rfl
 | some z => rw [hq] at k; simp at k; split at k <;> cases k
theorem fields5s {H : Type} {enc : TypeId × Value → H} {P : Program} {w : World} {base : Nat} {spare : Nat → Bool} {held : Bool} {t : TypeId} {f0 f1 f2 f3 f4 : Field} {fuel : Nat} {cs : List Value} {x : DataW H × List MemPlace} (ht : P.underlying t = some (.struct #[f0, f1, f2, f3, f4])) (h : DataW.trod enc P w base spare held fuel t cs = some x) :
    ∃ y0 y1 y2 y3 y4 n, x = (.agg [y0.1, y1.1, y2.1, y3.1, y4.1], y0.2 ++ (y1.2 ++ (y2.2 ++ (y3.2 ++ y4.2)))) ∧ cs.length = P.cellsOf t ∧ DataW.trod enc P w base spare held n f0.type ((cs.drop f0.offset).take (P.cellsOf f0.type)) = some y0 ∧
     DataW.trod enc P w base spare held n f1.type ((cs.drop f1.offset).take (P.cellsOf f1.type)) = some y1 ∧ DataW.trod enc P w base spare held n f2.type ((cs.drop f2.offset).take (P.cellsOf f2.type)) = some y2 ∧ DataW.trod enc P w base spare held n f3.type ((cs.drop f3.offset).take (P.cellsOf f3.type)) = some y3 ∧ DataW.trod enc P w base spare held n f4.type ((cs.drop f4.offset).take (P.cellsOf f4.type)) = some y4 := by
 obtain ⟨xs, n, _, rfl, hl, hlen, hf⟩ := DataW.trod_struct ht h
 match xs, hlen with
 | [y0, y1, y2, y3, y4], _ => exact ⟨y0, y1, y2, y3, y4, n, by simp, hl, by simpa using hf 0 f0 rfl, by simpa using hf 1 f1 rfl, by simpa using hf 2 f2 rfl, by simpa using hf 3 f3 rfl, by simpa using hf 4 f4 rfl⟩
theorem all_memS {H : Type} {P : Program} {e : TypeId} : ∀ {l : List (DataW H)} {d : DataW H}, d ∈ l → ∀ n ∈ d.weights P e, n ∈ DataW.weightsAll P e l
 | [], _, h => by cases h
 | x :: r, d, h => by
  intro n hn
  rw [DataW.weightsAll]
  rcases List.mem_cons.1 h with rfl | h
  · exact List.mem_append_left _ hn
  · exact List.mem_append_right _ (all_memS h n hn)
theorem open_session {H : Type} {enc : TypeId × Value → H} {W : World} {n i : Nat} {a : Addr} {x : DataW H} {pl : List MemPlace} {cs' : List Value} (ha : a.spot = none)
    (h1 : W.cells? 0 (a.add (i * Tryz.prog.cellsOf 104)) (Tryz.prog.cellsOf 104) = some cs') (h2 : DataW.trod enc Tryz.prog W 0 (fun _ => true) true n 104 cs' = some (x, pl)) :
    ∃ e : Se, x = datS e ∧ a.spot = none ∧ SeAt W a.block (a.off + i * 5) e := by
 rw [Tryz.cellsSe] at h1
 obtain ⟨_, hlen, hc⟩ := World.cells?_some h1
 obtain ⟨y0, y1, y2, y3, y4, n', hx', _, t0, t1, t2, t3, t4⟩ := fields5s Tryz.underlying104 h2
 obtain ⟨c0, c1, c2, c3, c4, rfl⟩ := list5s hlen
 have t0' : DataW.trod enc Tryz.prog W 0 (fun _ => true) true n' 3 [c0] = some y0 := by simpa [Tryz.cellsS3] using t0
 have t1' : DataW.trod enc Tryz.prog W 0 (fun _ => true) true n' 9 [c1] = some y1 := by simpa [Tryz.cellsS9] using t1
 have t2' : DataW.trod enc Tryz.prog W 0 (fun _ => true) true n' 9 [c2] = some y2 := by simpa [Tryz.cellsS9] using t2
 have t3' : DataW.trod enc Tryz.prog W 0 (fun _ => true) true n' 3 [c3] = some y3 := by simpa [Tryz.cellsS3] using t3
 have t4' : DataW.trod enc Tryz.prog W 0 (fun _ => true) true n' 3 [c4] = some y4 := by simpa [Tryz.cellsS3] using t4
 obtain ⟨s0, e0, g0, _⟩ := DataW.trod_int Tryz.underlying3 t0'
 obtain ⟨s1, e1, g1, _⟩ := DataW.trod_string Tryz.underlying9 t1'
 obtain ⟨s2, e2, g2, _⟩ := DataW.trod_string Tryz.underlying9 t2'
 obtain ⟨s3, e3, g3, _⟩ := DataW.trod_int Tryz.underlying3 t3'
 obtain ⟨s4, e4, g4, _⟩ := DataW.trod_int Tryz.underlying3 t4'
 obtain rfl : c0 = .int .i64 s0 := by simpa using e0
 obtain rfl : c1 = .string s1 := by simpa using e1
 obtain rfl : c2 = .string s2 := by simpa using e2
 obtain rfl : c3 = .int .i64 s3 := by simpa using e3
 obtain rfl : c4 = .int .i64 s4 := by simpa using e4
 subst g0; subst g1; subst g2; subst g3; subst g4
 simp only [Prod.mk.injEq] at hx'
 have k0 := hc 0 (by omega)
 have k1 := hc 1 (by omega)
 have k2 := hc 2 (by omega)
 have k3 := hc 3 (by omega)
 have k4 := hc 4 (by omega)
 obtain ⟨ab, ao, asp⟩ := a
 obtain rfl : asp = none := ha
 refine ⟨⟨s0, s1, s2, s3, s4⟩, hx'.1, rfl, ?_, ?_, ?_, ?_, ?_⟩
 · by_cases hi0 : i = 0
   · subst hi0; simpa [Addr.add] using k0
   · have hi4 : i * 5 ≠ 0 := by omega
     simpa [Addr.add, hi4] using k0
 · by_cases hi0 : i = 0
   · subst hi0; simpa [Addr.add] using k1
   · have hi4 : i * 5 ≠ 0 := by omega
     simpa [Addr.add, hi4, Nat.add_assoc] using k1
 · by_cases hi0 : i = 0
   · subst hi0; simpa [Addr.add] using k2
   · have hi4 : i * 5 ≠ 0 := by omega
     simpa [Addr.add, hi4, Nat.add_assoc] using k2
 · by_cases hi0 : i = 0
   · subst hi0; simpa [Addr.add] using k3
   · have hi4 : i * 5 ≠ 0 := by omega
     simpa [Addr.add, hi4, Nat.add_assoc] using k3
 · by_cases hi0 : i = 0
   · subst hi0; simpa [Addr.add] using k4
   · have hi4 : i * 5 ≠ 0 := by omega
     simpa [Addr.add, hi4, Nat.add_assoc] using k4
set_option maxRecDepth 100000 in
theorem open_sessions_w {H : Type} {enc : TypeId × Value → H} {W : World} {v : Value} {d : DataW H} {p : List MemPlace} {fuel : Nat} (hf : DataW.trod enc Tryz.prog W 0 (fun _ => true) true fuel 24 [v] = some (d, p)) (hk : ∀ n ∈ d.weights Tryz.prog 24, n ≤ reachBytes) :
    ∃ L : List Se, LiesS W v L ∧ SizedS L := by
 haveI : Inhabited Se := ⟨⟨0, ⟨#[]⟩, ⟨#[]⟩, 0, 0⟩⟩
 rcases Go.Deep.open_slice Tryz.underlying24 hf with ⟨hcs, hx⟩ | ⟨a, len, cap, m, n, D, Pl, hcs, hb, hl, hm, hmm, hx, hel⟩
 · obtain rfl : v = .slice none 0 0 := by simpa using hcs
   exact ⟨[], liesS_nil _, fun e he => by cases he⟩
 obtain rfl : v = .slice (some a) len cap := by simpa using hcs
 have hm2 : m = cap := hmm.trans (if_pos rfl)
 clear hmm
 have hd := (Prod.mk.inj hx).1
 clear hx
 subst hm2
 have hsp : 0 < len → a.spot = none := fun h => by
  obtain ⟨cs', h1, _⟩ := hel 0 (by omega)
  rw [Tryz.cellsSe] at h1
  obtain ⟨_, hlen, hc⟩ := World.cells?_some h1
  obtain ⟨c0, c1, c2, c3, c4, rfl⟩ := list5s hlen
  have k0 := hc 0 (by omega)
  exact spotS (v := c0) (by simpa [Addr.add] using k0)
 have each : ∀ i, i < len → ∃ e : Se, D i = datS e ∧ a.spot = none ∧ SeAt W a.block (a.off + i * 5) e := fun i hi => by
  obtain ⟨cs', h1, h2⟩ := hel i (by omega)
  exact open_session (hsp (by omega)) h1 h2
 obtain ⟨E, hE⟩ := Go.Deep.choose_lt each
 obtain ⟨sp, hd'⟩ : ∃ sp, d = .slice ((List.range len).map D) sp := ⟨_, hd⟩
 have hlen56 : (len + sp.length) * 56 ≤ reachBytes := by
  have := hk ((len + sp.length) * 56) (by
   rw [hd', DataW.weights]
   simp only [Tryz.underlying24, Tryz.bytesSe, List.length_map, List.length_range]
   exact List.mem_cons_self ..)
  exact this
 have hel2 : ∀ i, i < len → ∀ n ∈ (D i).weights Tryz.prog 104, n ≤ reachBytes := fun i hi n hn => hk n (by
  rw [hd', DataW.weights]
  simp only [Tryz.underlying24]
  refine List.mem_cons_of_mem _ (List.mem_append_left _ (all_memS (List.mem_map.2 ⟨i, List.mem_range.2 hi, rfl⟩) n hn)))
 have hrb : reachBytes = 140737488351232 := by decide
 refine ⟨(List.range len).map E, ⟨some a, _, by simp; rfl, by simpa using hl, ?_, fun i hi => ?_⟩, fun e he => ?_⟩
 · rw [hrb] at hlen56
   simp only [List.length_map, List.length_range]
   omega
 · have hi' : i < len := by simpa using hi
   obtain ⟨h1, h2, h3⟩ := hE i hi'
   have hlt : a.block < W.heap.size := by
    have k := h3.1
    rcases Nat.lt_or_ge a.block W.heap.size with h | h
    · exact h
    · unfold World.cell? at k; rw [Array.getElem?_eq_none h] at k; cases k
   refine ⟨a.block, a.off, ?_, hlt, by simpa using h3⟩
   rw [← h2]
 · obtain ⟨i, hi, rfl⟩ := List.mem_map.1 he
   have h1 := hel2 i (List.mem_range.1 hi)
   rw [(hE i (List.mem_range.1 hi)).1] at h1
   have hw : DataW.weights Tryz.prog 104 (datS (H := H) (E i)) = [(E i).wh.data.toList.length, (E i).tx.data.toList.length] := by
    rw [datS, DataW.weights]
    simp only [Tryz.underlying104]
    simp [DataW.weightsEach, DataW.weights]
   rw [hw, hrb] at h1
   rw [Lib.size_eq, Lib.size_eq]
   have a1 := h1 _ (List.mem_cons_self ..)
   have a2 := h1 _ (List.mem_cons_of_mem _ (List.mem_cons_self ..))
   exact ⟨by omega, by omega⟩
end Go.Proofs.YtchlgpeiombmdaaGreat
