/- What is at paths: the maps of package spot, and what it tells of no entry and of one. -/
import Derived.Test.YtogbahkoijkclaaGreatDIter
import Derived.Test.YtogbahkoijkclaaGreatT28a
import Derived.StringKeys
import Derived.Deep.AppendLies
import Derived.Deep.RegionHeld3
set_option linter.unusedSimpArgs false
set_option linter.unusedVariables false
namespace Go.Proofs.YtogbahkoijkclaaGreat
open Go.RowKit Go.Maps Go.WideMaps

namespace Sp
/-- How a spot reads. -/
def rd : Value → Option (DataW Unit × List MemPlace)
  | .agg cs => match cs.toList with
    | [.int .i64 a, .string t, .int .i64 n] => some (.agg [.lit (.int .i64 a), .lit (.string t.data.toList), .lit (.int .i64 n)], [])
    | _ => none
  | _ => none
def dat (a : Int) (t : ByteArray) (n : Int) : DataW Unit := .agg [.lit (.int .i64 a), .lit (.string t.data.toList), .lit (.int .i64 n)]
theorem rd_mk (a : Int) (t : ByteArray) (n : Int) : rd (.agg #[.int .i64 a, .string t, .int .i64 n]) = some (dat a t n, []) := rfl
theorem rd_inv {v : Value} {a : Int} {t : ByteArray} {n : Int} {ps : List MemPlace} (h : rd v = some (dat a t n, ps)) : v = .agg #[.int .i64 a, .string t, .int .i64 n] := by
  unfold rd at h
  split at h
  · rename_i cs
    split at h
    · rename_i a' t' n' hcs
      simp only [dat, Option.some.injEq, Prod.mk.injEq, DataW.agg.injEq, List.cons.injEq, DataW.lit.injEq, Lit.int.injEq, Lit.string.injEq, true_and, and_true] at h
      obtain ⟨⟨h1, h2, h3⟩, _⟩ := h
      have ht : t' = t := by
        cases t'; cases t
        congr 1
        exact Array.toList_inj.1 h2
      have hc : cs = #[.int .i64 a', .string t', .int .i64 n'] := by cases cs; simp at hcs; rw [hcs]
      rw [hc, h1, ht, h3]
    · cases h
  · cases h
def key (p : ByteArray) : Lit := .string p.data.toList
def one (p : ByteArray) (a : Int) (t : ByteArray) (n : Int) : DataW Unit := (DataW.map []).put (key p) (dat a t n)
theorem one_eq (p : ByteArray) (a : Int) (t : ByteArray) (n : Int) : one p a t n = .map [(key p, dat a t n)] := rfl
theorem one_keys (p : ByteArray) (a : Int) (t : ByteArray) (n : Int) : strKeys (one p a t n) = [p.data.toList] := rfl
theorem one_at (p : ByteArray) (a : Int) (t : ByteArray) (n : Int) (z : DataW Unit) : (one p a t n).atKey (key p) z = dat a t n := by
  rw [one_eq]; simp [DataW.atKey, key, Lit.sameKey]
theorem none_at (k : Lit) (z : DataW Unit) : (DataW.map [] : DataW Unit).atKey k z = z := rfl
end Sp
theorem Tryz.zeroSpot (w : World) : (zeroValue 49).run Tryz.prog w = .ok (.agg #[.int .i64 0, .string ⟨#[]⟩, .int .i64 0]) w := by rw [Tryz.zeroValue49]
theorem spotAt_none {b n : Nat} {w : World} (h : w.ownsMap Tryz.prog 9 Sp.rd b n (.map [])) (p : ByteArray) (hp : p.size ≤ maxLen) : (Instr.lookup 40 (.map (some b)) (.string p) false).run Tryz.prog w = .ok (.agg #[.int .i64 0, .string ⟨#[]⟩, .int .i64 0]) w := by
  obtain ⟨v, ps, hrun, hv⟩ := h.lookup (string_keyed Tryz.underlying9) Tryz.underlying40 (Tryz.zeroSpot w) (Sp.rd_mk 0 ⟨#[]⟩ 0) (keyOf_string_mk Tryz.underlying9 hp)
  rw [Sp.none_at] at hv
  rw [Sp.rd_inv hv] at hrun
  exact hrun
theorem spotAt_one {b n : Nat} {w : World} {p t : ByteArray} {a m : Int} (h : w.ownsMap Tryz.prog 9 Sp.rd b n (Sp.one p a t m)) (hp : p.size ≤ maxLen) : (Instr.lookup 40 (.map (some b)) (.string p) false).run Tryz.prog w = .ok (.agg #[.int .i64 a, .string t, .int .i64 m]) w := by
  obtain ⟨v, ps, hrun, hv⟩ := h.lookup (string_keyed Tryz.underlying9) Tryz.underlying40 (Tryz.zeroSpot w) (Sp.rd_mk 0 ⟨#[]⟩ 0) (keyOf_string_mk Tryz.underlying9 hp)
  have e : (Sp.one p a t m).atKey (.string p.data.toList) (Sp.dat 0 ⟨#[]⟩ 0) = Sp.dat a t m := Sp.one_at p a t m _
  rw [e] at hv
  rw [Sp.rd_inv hv] at hrun
  exact hrun

set_option maxHeartbeats 1000000 in
theorem sof_file (p t : ByteArray) (n : Int) (w : World) :
    Calls Tryz.prog 18 #[.agg #[.string p, .bool false, .string t, .int .i64 n]] w fun e w' => e = .returned (.agg #[.int .i64 2, .string t, .int .i64 n]) ∧ Below w.heap.size w w' := by
  go_enter Tryz.func18, Tryz.ntmps18
  go_wp2_with fail
  refine bodyPost_ret (v := .agg #[.int .i64 2, .string t, .int .i64 n]) (by simp [results, Tryz.results18, go_sem]) rfl ⟨rfl, ?_⟩
  first | exact ((Below.refl _ _).alloc (Nat.le_refl _) _).alloc (by simp) _ | (trace_state; fail)

theorem Tryz.makeSpots (n : Int) (w : World) : (Instr.makeMap 40 (some (.int .i64 n))).run Tryz.prog w = .ok (.map (some w.heap.size)) (w.alloc (.map #[] 0)) := by
  simp [Instr.makeMap, run_underlying Tryz.underlying40, asInt, asIntOf, Result.andThen]

set_option maxRecDepth 100000 in
set_option maxHeartbeats 1000000 in
theorem spotOf_nil (w : World) :
    Calls Tryz.prog 10 #[.slice none 0 0] w fun e w' => ∃ b, e = .returned (.map (some b)) ∧ w.heap.size ≤ b ∧ w'.ownsMap Tryz.prog 9 Sp.rd b 0 (.map []) ∧ Below w.heap.size w w' := by
  have hmm := Tryz.makeSpots
  have HO := hid (World.ownsMap_made w Tryz.prog 9 Sp.rd)
  have hbel : Below w.heap.size w (w.alloc (.map #[] 0)) := (Below.refl _ _).alloc (Nat.le_refl _) _
  go_enter Tryz.func10, Tryz.ntmps10
  go_wp2_with fail
  go_loopw [11] (fun i wr => i = .int .i64 0 ∧ wr = w.alloc (.map #[] 0)) (fun _ _ => 0)
  case atStart => exact ⟨rfl, rfl⟩
  case round =>
    obtain ⟨rfl, rfl⟩ := hrel
    go_wp2_with fail
    go_ret
    exact ⟨_, rfl, Nat.le_refl _, HO.out, hbel⟩

set_option maxRecDepth 100000 in
set_option maxHeartbeats 2000000 in
theorem spotOf_one (p t : ByteArray) (n : Int) (v : Value) (w : World) (hv : Lies w v [⟨p, false, t, n⟩]) (hp : p.size ≤ maxLen) :
    Calls Tryz.prog 10 #[v] w fun e w' => ∃ b, e = .returned (.map (some b)) ∧ w.heap.size ≤ b ∧ w'.ownsMap Tryz.prog 9 Sp.rd b 1 (Sp.one p 2 t n) ∧ Below w.heap.size w w' := by
  obtain ⟨a, cap, rfl, hcap, hcap2, hL⟩ := hv
  obtain ⟨b, o, rfl, hb, he⟩ := hL 0 (by simp)
  simp only [Nat.zero_mul, Nat.add_zero, List.getElem_cons_zero] at he
  clear hL
  have hmm := Tryz.makeSpots
  have HO := hid (World.ownsMap_made w Tryz.prog 9 Sp.rd)
  have hbel0 : Below w.heap.size w (w.alloc (.map #[] 0)) := (Below.refl _ _).alloc (Nat.le_refl _) _
  have HE := hid he
  clear he
  simp only [List.length_cons, List.length_nil, Nat.zero_add] at hcap hcap2 ⊢
  go_enter Tryz.func10, Tryz.ntmps10
  go_wp2_with fail
  go_loopw [11] (fun i wr => Below w.heap.size w wr ∧ w.heap.size < wr.heap.size ∧ ((i = .int .i64 0 ∧ Hid (wr.ownsMap Tryz.prog 9 Sp.rd w.heap.size 0 (.map []))) ∨ (i = .int .i64 1 ∧ Hid (wr.ownsMap Tryz.prog 9 Sp.rd w.heap.size 1 (Sp.one p 2 t n))))) (fun i _ => 2 - (intOf i).toNat)
  case atStart => exact ⟨hbel0, by simp, Or.inl ⟨rfl, HO⟩⟩
  case round =>
    obtain ⟨hbel, hszr, ⟨rfl, HM⟩ | ⟨rfl, HM⟩⟩ := hrel
    · obtain ⟨c0, c1, c2, c3⟩ := HE.out.below hb hbel
      simp only at c0 c1 c2 c3
      obtain ⟨wz, hwz⟩ : ∃ wz, wz = wr.alloc (.cells #[.string p, .bool false, .string t, .int .i64 n] 35) := ⟨_, rfl⟩
      have hbz : Below wr.heap.size wr wz := by rw [hwz]; exact (Below.refl _ _).alloc (Nat.le_refl _) _
      have z0 : wz.cell? ⟨wr.heap.size, 0, none⟩ = some (.string p) := by rw [hwz]; simp
      have z1 : wz.cell? ⟨wr.heap.size, 1, none⟩ = some (.bool false) := by rw [hwz]; simp
      have z2 : wz.cell? ⟨wr.heap.size, 2, none⟩ = some (.string t) := by rw [hwz]; simp
      have z3 : wz.cell? ⟨wr.heap.size, 3, none⟩ = some (.int .i64 n) := by rw [hwz]; simp
      have hszz : wz.heap.size = wr.heap.size + 1 := by rw [hwz]; simp
      have HMZ := hid (HM.out.alloc (.cells #[.string p, .bool false, .string t, .int .i64 n] 35))
      rw [← hwz] at HMZ
      have hbel2 := below_trans hbel hbz
      go_wp2_with fail
      rw [← hwz]
      clear hwz c0 c1 c2 c3
      go_region_held3 (fun W => W.cell? ⟨wr.heap.size, 0, none⟩ = some (.string p) ∧ W.cell? ⟨wr.heap.size, 1, none⟩ = some (.bool false) ∧ W.cell? ⟨wr.heap.size, 2, none⟩ = some (.string t) ∧ W.cell? ⟨wr.heap.size, 3, none⟩ = some (.int .i64 n)) (go_keep) (first
        | (go_at_call 18; refine (sof_file p t n _).mono ?_; rintro e wa ⟨rfl, hba⟩; have hza : Below wz.heap.size wz wa := ((Below.refl _ _).drew).trans hba; have hma := hid (HMZ.out.kept (row := none) ⟨hza.os, hza.tape, hza.output, hza.size, fun k hk _ => hza.block k hk⟩ (by simp)); obtain ⟨w6, hrun6, hown6, hgr6⟩ := hma.out.update (string_keyed Tryz.underlying9) Tryz.underlying40 (by unfold maxLen; omega) (keyOf_string_mk Tryz.underlying9 hp) (Sp.rd_mk 2 t n); have HO6 := hid hown6; have j0 := (hza.cell (p := ⟨wr.heap.size, 0, none⟩) (by simp [hszz])).trans z0; have j1 := (hza.cell (p := ⟨wr.heap.size, 1, none⟩) (by simp [hszz])).trans z1; have j2 := (hza.cell (p := ⟨wr.heap.size, 2, none⟩) (by simp [hszz])).trans z2; have j3 := (hza.cell (p := ⟨wr.heap.size, 3, none⟩) (by simp [hszz])).trans z3; have hsza := hza.size; have i0 := (hgr6.cell_far ⟨wr.heap.size, 0, none⟩ (by show wr.heap.size < wa.heap.size; omega) (by simp; omega)).trans j0; have i1 := (hgr6.cell_far ⟨wr.heap.size, 1, none⟩ (by show wr.heap.size < wa.heap.size; omega) (by simp; omega)).trans j1; have i2 := (hgr6.cell_far ⟨wr.heap.size, 2, none⟩ (by show wr.heap.size < wa.heap.size; omega) (by simp; omega)).trans j2; have i3 := (hgr6.cell_far ⟨wr.heap.size, 3, none⟩ (by show wr.heap.size < wa.heap.size; omega) (by simp; omega)).trans j3; clear hown6))
      have hbel6 : Below w.heap.size w w6 := (below_trans hbel2 hza).grown hgr6 (by omega) (fun k hk => by simp at hk; omega)
      have hsz6 := hgr6.size
      go_wp2_with fail
      go_roundw
      case rel => exact ⟨hbel6, by omega, Or.inr ⟨by simp, HO6⟩⟩
      case measure => simp [intOf]
    · go_wp2_with fail
      go_ret
      exact ⟨_, rfl, Nat.le_refl _, HM.out, hbel⟩
end Go.Proofs.YtogbahkoijkclaaGreat
