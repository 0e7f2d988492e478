/- What is at paths: the maps of package spot, and what it tells of no entry and of one. The map of what is at the paths of a tree, as plain mathematics. What package delta answers of no tree and of a tree with one file; and how it begins. What package spot answers of a tree. What package delta's parts answer of two trees: which paths go, which are made. -/
import Derived.Test.YtlllcifehellpaaGreatDoorDIter
import Derived.Test.YtlllcifehellpaaGreatDoorPH
import Derived.StringKeys
import Derived.Deep.AppendLies
import Derived.Deep.RegionHeld3
import Derived.Test.YtlllcifehellpaaGreatDoorMA
import Derived.Sort.Walk0
set_option linter.unusedSimpArgs false
set_option linter.unusedVariables false
namespace Go.Proofs.YtlllcifehellpaaGreatDoor
open Go.RowKit Go.Maps Go.WideMaps

namespace Sp
/-- How a spot reads. -/
def rd : Value → Option (DataW Unit × List MemPlace)
  | .agg cs => match cs.toList with
    | [.int .i64 a, .string t, .int .i64 n] => some (.agg [.lit (.int .i64 a), .lit (.string t.data.toList), .lit (.int .i64 n)], [])
    | _ => none
  | _ => none
def dat (a : Int) (t : ByteArray) (n : Int) : DataW Unit := .agg [.lit (.int .i64 a), .lit (.string t.data.toList), .lit (.int .i64 n)]
theorem rd_mk (a : Int) (t : ByteArray) (n : Int) : rd (.agg #[.int .i64 a, .string t, .int .i64 n]) = some (dat a t n, []) := rfl
theorem rd_inv {v : Value} {a : Int} {t : ByteArray} {n : Int} {ps : List MemPlace} (h : rd v = some (dat a t n, ps)) : v = .agg #[.int .i64 a, .string t, .int .i64 n] := by
  unfold rd at h
  split at h
  · rename_i cs
    split at h
    · rename_i a' t' n' hcs
      simp only [dat, Option.some.injEq, Prod.mk.injEq, DataW.agg.injEq, List.cons.injEq, DataW.lit.injEq, Lit.int.injEq, Lit.string.injEq, true_and, and_true] at h
      obtain ⟨⟨h1, h2, h3⟩, _⟩ := h
      have ht : t' = t := by
        cases t'; cases t
        congr 1
        exact Array.toList_inj.1 h2
      have hc : cs = #[.int .i64 a', .string t', .int .i64 n'] := by cases cs; simp at hcs; rw [hcs]
      rw [hc, h1, ht, h3]
    · cases h
  · cases h
def key (p : ByteArray) : Lit := .string p.data.toList
def one (p : ByteArray) (a : Int) (t : ByteArray) (n : Int) : DataW Unit := (DataW.map []).put (key p) (dat a t n)
theorem one_eq (p : ByteArray) (a : Int) (t : ByteArray) (n : Int) : one p a t n = .map [(key p, dat a t n)] := rfl
theorem one_keys (p : ByteArray) (a : Int) (t : ByteArray) (n : Int) : strKeys (one p a t n) = [p.data.toList] := rfl
theorem one_at (p : ByteArray) (a : Int) (t : ByteArray) (n : Int) (z : DataW Unit) : (one p a t n).atKey (key p) z = dat a t n := by
  rw [one_eq]; simp [DataW.atKey, key, Lit.sameKey]
theorem none_at (k : Lit) (z : DataW Unit) : (DataW.map [] : DataW Unit).atKey k z = z := rfl
end Sp
theorem Tryz.zeroSpot (w : World) : (zeroValue 114).run Tryz.prog w = .ok (.agg #[.int .i64 0, .string ⟨#[]⟩, .int .i64 0]) w := by rw [Tryz.zeroValue114]
theorem spotAt_none {b n : Nat} {w : World} (h : w.ownsMap Tryz.prog 9 Sp.rd b n (.map [])) (p : ByteArray) (hp : p.size ≤ maxLen) : (Instr.lookup 96 (.map (some b)) (.string p) false).run Tryz.prog w = .ok (.agg #[.int .i64 0, .string ⟨#[]⟩, .int .i64 0]) w := by
  obtain ⟨v, ps, hrun, hv⟩ := h.lookup (string_keyed Tryz.underlying9) Tryz.underlying96 (Tryz.zeroSpot w) (Sp.rd_mk 0 ⟨#[]⟩ 0) (keyOf_string_mk Tryz.underlying9 hp)
  rw [Sp.none_at] at hv
  rw [Sp.rd_inv hv] at hrun
  exact hrun
theorem spotAt_one {b n : Nat} {w : World} {p t : ByteArray} {a m : Int} (h : w.ownsMap Tryz.prog 9 Sp.rd b n (Sp.one p a t m)) (hp : p.size ≤ maxLen) : (Instr.lookup 96 (.map (some b)) (.string p) false).run Tryz.prog w = .ok (.agg #[.int .i64 a, .string t, .int .i64 m]) w := by
  obtain ⟨v, ps, hrun, hv⟩ := h.lookup (string_keyed Tryz.underlying9) Tryz.underlying96 (Tryz.zeroSpot w) (Sp.rd_mk 0 ⟨#[]⟩ 0) (keyOf_string_mk Tryz.underlying9 hp)
  have e : (Sp.one p a t m).atKey (.string p.data.toList) (Sp.dat 0 ⟨#[]⟩ 0) = Sp.dat a t m := Sp.one_at p a t m _
  rw [e] at hv
  rw [Sp.rd_inv hv] at hrun
  exact hrun

set_option maxHeartbeats 1000000 in
theorem sof_file (p t : ByteArray) (n : Int) (w : World) :
    Calls Tryz.prog 73 #[.agg #[.string p, .bool false, .string t, .int .i64 n]] w fun e w' => e = .returned (.agg #[.int .i64 2, .string t, .int .i64 n]) ∧ Below w.heap.size w w' := by
  go_enter Tryz.func73, Tryz.ntmps73
  go_wp2_with fail
  refine bodyPost_ret (v := .agg #[.int .i64 2, .string t, .int .i64 n]) (by simp [results, Tryz.results73, go_sem]) rfl ⟨rfl, ?_⟩
  first | exact ((Below.refl _ _).alloc (Nat.le_refl _) _).alloc (by simp) _ | (trace_state; fail)

theorem Tryz.makeSpots (n : Int) (w : World) : (Instr.makeMap 96 (some (.int .i64 n))).run Tryz.prog w = .ok (.map (some w.heap.size)) (w.alloc (.map #[] 0)) := by
  simp [Instr.makeMap, run_underlying Tryz.underlying96, asInt, asIntOf, Result.andThen]

set_option maxRecDepth 100000 in
set_option maxHeartbeats 1000000 in
theorem spotOf_nil (w : World) :
    Calls Tryz.prog 54 #[.slice none 0 0] w fun e w' => ∃ b, e = .returned (.map (some b)) ∧ w.heap.size ≤ b ∧ w'.ownsMap Tryz.prog 9 Sp.rd b 0 (.map []) ∧ Below w.heap.size w w' := by
  have hmm := Tryz.makeSpots
  have HO := hid (World.ownsMap_made w Tryz.prog 9 Sp.rd)
  have hbel : Below w.heap.size w (w.alloc (.map #[] 0)) := (Below.refl _ _).alloc (Nat.le_refl _) _
  go_enter Tryz.func54, Tryz.ntmps54
  go_wp2_with fail
  go_loopw [11] (fun i wr => i = .int .i64 0 ∧ wr = w.alloc (.map #[] 0)) (fun _ _ => 0)
  case atStart => exact ⟨rfl, rfl⟩
  case round =>
    obtain ⟨rfl, rfl⟩ := hrel
    go_wp2_with fail
    go_ret
    exact ⟨_, rfl, Nat.le_refl _, HO.out, hbel⟩

set_option maxRecDepth 100000 in
set_option maxHeartbeats 2000000 in
theorem spotOf_one (p t : ByteArray) (n : Int) (v : Value) (w : World) (hv : Lies w v [⟨p, false, t, n⟩]) (hp : p.size ≤ maxLen) :
    Calls Tryz.prog 54 #[v] w fun e w' => ∃ b, e = .returned (.map (some b)) ∧ w.heap.size ≤ b ∧ w'.ownsMap Tryz.prog 9 Sp.rd b 1 (Sp.one p 2 t n) ∧ Below w.heap.size w w' := by
  obtain ⟨a, cap, rfl, hcap, hcap2, hL⟩ := hv
  obtain ⟨b, o, rfl, hb, he⟩ := hL 0 (by simp)
  simp only [Nat.zero_mul, Nat.add_zero, List.getElem_cons_zero] at he
  clear hL
  have hmm := Tryz.makeSpots
  have HO := hid (World.ownsMap_made w Tryz.prog 9 Sp.rd)
  have hbel0 : Below w.heap.size w (w.alloc (.map #[] 0)) := (Below.refl _ _).alloc (Nat.le_refl _) _
  have HE := hid he
  clear he
  simp only [List.length_cons, List.length_nil, Nat.zero_add] at hcap hcap2 ⊢
  go_enter Tryz.func54, Tryz.ntmps54
  go_wp2_with fail
  go_loopw [11] (fun i wr => Below w.heap.size w wr ∧ w.heap.size < wr.heap.size ∧ ((i = .int .i64 0 ∧ Hid (wr.ownsMap Tryz.prog 9 Sp.rd w.heap.size 0 (.map []))) ∨ (i = .int .i64 1 ∧ Hid (wr.ownsMap Tryz.prog 9 Sp.rd w.heap.size 1 (Sp.one p 2 t n))))) (fun i _ => 2 - (intOf i).toNat)
  case atStart => exact ⟨hbel0, by simp, Or.inl ⟨rfl, HO⟩⟩
  case round =>
    obtain ⟨hbel, hszr, ⟨rfl, HM⟩ | ⟨rfl, HM⟩⟩ := hrel
    · obtain ⟨c0, c1, c2, c3⟩ := HE.out.below hb hbel
      simp only at c0 c1 c2 c3
      obtain ⟨wz, hwz⟩ : ∃ wz, wz = wr.alloc (.cells #[.string p, .bool false, .string t, .int .i64 n] 64) := ⟨_, rfl⟩
      have hbz : Below wr.heap.size wr wz := by rw [hwz]; exact (Below.refl _ _).alloc (Nat.le_refl _) _
      have z0 : wz.cell? ⟨wr.heap.size, 0, none⟩ = some (.string p) := by rw [hwz]; simp
      have z1 : wz.cell? ⟨wr.heap.size, 1, none⟩ = some (.bool false) := by rw [hwz]; simp
      have z2 : wz.cell? ⟨wr.heap.size, 2, none⟩ = some (.string t) := by rw [hwz]; simp
      have z3 : wz.cell? ⟨wr.heap.size, 3, none⟩ = some (.int .i64 n) := by rw [hwz]; simp
      have hszz : wz.heap.size = wr.heap.size + 1 := by rw [hwz]; simp
      have HMZ := hid (HM.out.alloc (.cells #[.string p, .bool false, .string t, .int .i64 n] 64))
      rw [← hwz] at HMZ
      have hbel2 := below_trans hbel hbz
      go_wp2_with fail
      rw [← hwz]
      clear hwz c0 c1 c2 c3
      go_region_held3 (fun W => W.cell? ⟨wr.heap.size, 0, none⟩ = some (.string p) ∧ W.cell? ⟨wr.heap.size, 1, none⟩ = some (.bool false) ∧ W.cell? ⟨wr.heap.size, 2, none⟩ = some (.string t) ∧ W.cell? ⟨wr.heap.size, 3, none⟩ = some (.int .i64 n)) (go_keep) (first
        | (go_at_call 73; refine (sof_file p t n _).mono ?_; rintro e wa ⟨rfl, hba⟩; have hza : Below wz.heap.size wz wa := ((Below.refl _ _).drew).trans hba; have hma := hid (HMZ.out.kept (row := none) ⟨hza.os, hza.tape, hza.output, hza.size, fun k hk _ => hza.block k hk⟩ (by simp)); obtain ⟨w6, hrun6, hown6, hgr6⟩ := hma.out.update (string_keyed Tryz.underlying9) Tryz.underlying96 (by unfold maxLen; omega) (keyOf_string_mk Tryz.underlying9 hp) (Sp.rd_mk 2 t n); have HO6 := hid hown6; have j0 := (hza.cell (p := ⟨wr.heap.size, 0, none⟩) (by simp [hszz])).trans z0; have j1 := (hza.cell (p := ⟨wr.heap.size, 1, none⟩) (by simp [hszz])).trans z1; have j2 := (hza.cell (p := ⟨wr.heap.size, 2, none⟩) (by simp [hszz])).trans z2; have j3 := (hza.cell (p := ⟨wr.heap.size, 3, none⟩) (by simp [hszz])).trans z3; have hsza := hza.size; have i0 := (hgr6.cell_far ⟨wr.heap.size, 0, none⟩ (by show wr.heap.size < wa.heap.size; omega) (by simp; omega)).trans j0; have i1 := (hgr6.cell_far ⟨wr.heap.size, 1, none⟩ (by show wr.heap.size < wa.heap.size; omega) (by simp; omega)).trans j1; have i2 := (hgr6.cell_far ⟨wr.heap.size, 2, none⟩ (by show wr.heap.size < wa.heap.size; omega) (by simp; omega)).trans j2; have i3 := (hgr6.cell_far ⟨wr.heap.size, 3, none⟩ (by show wr.heap.size < wa.heap.size; omega) (by simp; omega)).trans j3; clear hown6))
      have hbel6 : Below w.heap.size w w6 := (below_trans hbel2 hza).grown hgr6 (by omega) (fun k hk => by simp at hk; omega)
      have hsz6 := hgr6.size
      go_wp2_with fail
      go_roundw
      case rel => exact ⟨hbel6, by omega, Or.inr ⟨by simp, HO6⟩⟩
      case measure => simp [intOf]
    · go_wp2_with fail
      go_ret
      exact ⟨_, rfl, Nat.le_refl _, HM.out, hbel⟩
end Go.Proofs.YtlllcifehellpaaGreatDoor
set_option linter.unusedSimpArgs false
set_option linter.unusedVariables false
namespace Go.Proofs.YtlllcifehellpaaGreatDoor
open Go.RowKit Go.Maps Go.WideMaps Go.Proofs

theorem snoc_ind {α : Type} {P : List α → Prop} (h0 : P []) (h1 : ∀ L e, P L → P (L ++ [e])) (L : List α) : P L := by
  have h : ∀ R : List α, P R.reverse := fun R => by
    induction R with
    | nil => exact h0
    | cons a r ih => rw [List.reverse_cons]; exact h1 _ _ ih
  have h2 := h L.reverse
  rwa [List.reverse_reverse] at h2

namespace Sp
def wh (e : En) : Int := if e.folder = true then 1 else 2
def tx (e : En) : ByteArray := if e.folder = true then ⟨#[]⟩ else e.text
def put (m : DataW Unit) (e : En) : DataW Unit := m.put (key e.path) (dat (wh e) (tx e) e.ver)
/-- The map of a tree. -/
def D (L : List En) : DataW Unit := L.foldl put (.map [])
theorem D_snoc (L : List En) (e : En) : D (L ++ [e]) = put (D L) e := by simp [D]
theorem key_inj {p q : ByteArray} (h : key p = key q) : p.data.toList = q.data.toList := by simpa [key] using h
theorem D_map (L : List En) : IsMap (D L) := by
  have : ∀ (L : List En) (m : DataW Unit), IsMap m → IsMap (L.foldl put m) := by
    intro L
    induction L with
    | nil => intro m h; exact h
    | cons e r ih => intro m h; exact ih _ (h.put _ _)
  exact this L _ isMap_empty
/-- No two paths are the same. -/
def Apart (L : List En) : Prop := L.Pairwise (fun x y => x.path.data.toList ≠ y.path.data.toList)
theorem Apart.snoc {L : List En} {e : En} (h : Apart (L ++ [e])) : Apart L ∧ ∀ x ∈ L, x.path.data.toList ≠ e.path.data.toList := by
  rw [Apart, List.pairwise_append] at h
  exact ⟨h.1, fun x hx => h.2.2 x hx e (by simp)⟩
def at_ (L : List En) (p : List UInt8) : Option En := L.find? (Pp.atB p)
theorem atB_iff {p : List UInt8} {e : En} : Pp.atB p e = true ↔ e.path.data.toList = p := by simp [Pp.atB]
theorem D_at {L : List En} (h : Apart L) (p : ByteArray) (z : DataW Unit) : (D L).atKey (key p) z = match at_ L p.data.toList with | some e => dat (wh e) (tx e) e.ver | none => z := by
  revert h
  refine snoc_ind (P := fun L => Apart L → (D L).atKey (key p) z = match at_ L p.data.toList with | some e => dat (wh e) (tx e) e.ver | none => z) (fun _ => rfl) ?_ L
  · intro L e ih h
    obtain ⟨h1, h2⟩ := h.snoc
    rw [D_snoc, put]
    by_cases hk : key p = key e.path
    · have hp := key_inj hk
      rw [hk, atKey_put_same (D_map L) (by simp [key, WideAt.IsKeyLit])]
      have hnone : L.find? (Pp.atB p.data.toList) = none := by
        rw [List.find?_eq_none]
        intro x hx hh
        exact h2 x hx ((atB_iff.1 hh).trans hp)
      have hyes : Pp.atB p.data.toList e = true := atB_iff.2 hp.symm
      rw [at_, List.find?_append, hnone]
      simp [hyes]
    · rw [atKey_put_other hk, ih h1]
      have hno : Pp.atB p.data.toList e = false := by
        cases hh : Pp.atB p.data.toList e with
        | false => rfl
        | true =>
          have := atB_iff.1 hh
          exact absurd (by rw [key, key, this]) hk
      rw [at_, at_, List.find?_append]
      simp [hno]
theorem keys_put {m : DataW Unit} (hm : IsMap m) {e : En} (hne : ∀ x ∈ strKeys m, x ≠ e.path.data.toList) (hs : ∃ es, m = .map es ∧ ∀ q ∈ es, ∃ b, q.1 = .string b) : (strKeys (put m e)).Perm (e.path.data.toList :: strKeys m) := by
  obtain ⟨es, rfl, hes⟩ := hs
  have hf : (es.filter fun q => !q.1.sameKey (key e.path)) = es := by
    rw [List.filter_eq_self]
    intro q hq
    obtain ⟨b, hb⟩ := hes q hq
    have h1 : b ∈ strKeys (DataW.map es) := List.mem_map.2 ⟨q, hq, by rw [hb]; rfl⟩
    have h2 := hne b h1
    rw [hb]
    simp [Lit.sameKey, key, h2]
  show (List.map _ (DataW.insert (key e.path, _) (es.filter fun q => !q.1.sameKey (key e.path)))).Perm _
  rw [hf]
  exact ((WideShapes.insert_perm _ es).map _).trans (by simp [strKeys, key, strOf])
theorem D_strs (L : List En) : ∃ es, D L = .map es ∧ ∀ q ∈ es, ∃ b, q.1 = .string b := by
  refine snoc_ind (P := fun L => ∃ es, D L = .map es ∧ ∀ q ∈ es, ∃ b, q.1 = .string b) ⟨[], rfl, fun q hq => by cases hq⟩ ?_ L
  · intro L e ih
    obtain ⟨es, h1, h2⟩ := ih
    rw [D_snoc, h1]
    refine ⟨_, rfl, fun q hq => ?_⟩
    rcases List.mem_cons.1 ((WideShapes.insert_perm _ _).mem_iff.1 hq) with h | h
    · exact ⟨_, by rw [h]; rfl⟩
    · exact h2 q (List.mem_filter.1 h).1
theorem D_keys {L : List En} (h : Apart L) : (strKeys (D L)).Perm (L.map (fun e => e.path.data.toList)) := by
  revert h
  refine snoc_ind (P := fun L => Apart L → (strKeys (D L)).Perm (L.map (fun e => e.path.data.toList))) (fun _ => List.Perm.refl _) ?_ L
  · intro L e ih h
    obtain ⟨h1, h2⟩ := h.snoc
    have ih1 := ih h1
    rw [D_snoc, List.map_append]
    refine (keys_put (D_map L) (fun x hx => ?_) (D_strs L)).trans ?_
    · obtain ⟨y, hy, rfl⟩ := List.mem_map.1 (ih1.mem_iff.1 hx)
      exact h2 y hy
    · exact (ih1.cons _).trans (List.perm_append_comm (l₁ := [e.path.data.toList]))
theorem D_size {L : List En} (h : Apart L) : Maps.size (D L) = L.length := by
  obtain ⟨es, h1, _⟩ := D_strs L
  have := (D_keys h).length_eq
  rw [h1] at this ⊢
  simpa [strKeys, Maps.size] using this
theorem apart_rise {L : List En} (h : L.Pairwise (fun x y => Pp.lt x y = true)) : Apart L := by
  refine List.Pairwise.imp ?_ h
  intro x y hxy e
  rw [Pp.lt, Lib.toList_data, Lib.toList_data, e, bytesLess_eq] at hxy
  exact List.lt_irrefl _ (of_decide_eq_true hxy)
/-- Keys, sorted: the paths as they rise. -/
theorem D_sorted {L : List En} (h : L.Pairwise (fun x y => Pp.lt x y = true)) {ss : List (List UInt8)} (hs : ss.Perm (strKeys (D L))) : ss.mergeSort (fun x y => decide (x ≤ y)) = L.map (fun e => e.path.data.toList) := by
  have hp : (ss.mergeSort (fun x y => decide (x ≤ y))).Perm (L.map (fun e => e.path.data.toList)) := (List.mergeSort_perm _ _).trans (hs.trans (D_keys (apart_rise h)))
  have h1 : (ss.mergeSort (fun x y => decide (x ≤ y))).Pairwise (fun x y => x ≤ y) := by
    have := List.pairwise_mergeSort (le := fun (x y : List UInt8) => decide (x ≤ y)) (fun a b c h1 h2 => by simpa using List.le_trans (by simpa using h1) (by simpa using h2)) (fun a b => by simpa using List.le_total a b) ss
    exact this.imp (fun h => by simpa using h)
  have h2 : (L.map (fun e => e.path.data.toList)).Pairwise (fun x y => x ≤ y) := by
    rw [List.pairwise_map]
    refine List.Pairwise.imp ?_ h
    intro x y hxy
    rw [Pp.lt, Lib.toList_data, Lib.toList_data, bytesLess_eq, decide_eq_true_eq] at hxy
    exact List.le_of_lt hxy
  exact hp.eq_of_pairwise (fun a b _ _ h1 h2 => List.le_antisymm h1 h2) h1 h2
end Sp
end Go.Proofs.YtlllcifehellpaaGreatDoor
set_option linter.unusedSimpArgs false
set_option linter.unusedVariables false
namespace Go.Proofs.YtlllcifehellpaaGreatDoor
open Go.RowKit Go.Maps Go.WideMaps

set_option maxHeartbeats 1000000 in
theorem like_no (a b : Int) (s t : ByteArray) (m n : Int) (h : (a == b) = false) (w : World) :
    Calls Tryz.prog 101 #[.agg #[.int .i64 a, .string s, .int .i64 m], .agg #[.int .i64 b, .string t, .int .i64 n]] w fun e w' => e = .returned (.bool false) ∧ Below w.heap.size w w' := by
  go_enter Tryz.func101, Tryz.ntmps101
  go_wp2
  go_ret
  exact ⟨rfl, ((Below.refl _ _).alloc (Nat.le_refl _) _).alloc (by simp) _⟩
set_option maxHeartbeats 1000000 in
theorem made_file (p t : ByteArray) (n : Int) (w : World) :
    Calls Tryz.prog 111 #[.string p, .agg #[.int .i64 2, .string t, .int .i64 n]] w fun e w' => e = .returned (.agg #[.int .i64 2, .string p, .string ⟨#[]⟩, .string t, .int .i64 (-1)]) ∧ Below w.heap.size w w' := by
  go_enter Tryz.func111, Tryz.ntmps111
  go_wp2_with fail
  refine bodyPost_ret (v := .agg #[.int .i64 2, .string p, .string ⟨#[]⟩, .string t, .int .i64 (-1)]) (by simp [results, Tryz.results111, go_sem]) rfl ⟨rfl, ?_⟩
  exact ((Below.refl _ _).alloc (Nat.le_refl _) _).alloc (by simp) _

/-- No path, where there is none. -/
theorem paths_none {b n : Nat} {w : World} (h : w.ownsMap Tryz.prog 9 Sp.rd b n (.map [])) :
    Calls Tryz.prog 75 #[.map (some b)] w fun e w' => e = .returned (.slice none 0 0) ∧ Below w.heap.size w w' :=
  (Tryz.paths_any b n _ Sp.rd w h (by simp [Maps.size]) (by simp [Maps.size])).mono fun e w' ⟨v, ss, he, hp, _, hnil, hb⟩ => by
    have : ss = [] := List.Perm.eq_nil hp
    exact ⟨by rw [he, hnil.2 this], hb⟩
/-- The path, where there is one. -/
theorem paths_one {b n : Nat} {w : World} {p t : ByteArray} {a m : Int} (h : w.ownsMap Tryz.prog 9 Sp.rd b n (Sp.one p a t m)) :
    Calls Tryz.prog 75 #[.map (some b)] w fun e w' => ∃ g cap, e = .returned (.slice (some ⟨g, 0, none⟩) 1 cap) ∧ w'.cell? ⟨g, 0, none⟩ = some (.string p) ∧ 1 ≤ cap ∧ w.heap.size ≤ g ∧ g < w'.heap.size ∧ Below w.heap.size w w' :=
  (Tryz.paths_any b n _ Sp.rd w h (by rw [Sp.one_eq]; simp [Maps.size, maxLen]) (by rw [Sp.one_eq]; simp [Maps.size])).mono fun e w' ⟨v, ss, he, hp, hrow, hnil, hb⟩ => by
    rw [Sp.one_keys] at hp
    have hs : ss = [p.data.toList] := List.perm_singleton.1 hp
    subst hs
    have hrow' := hrow
    obtain ⟨hl, h2⟩ := hrow
    rcases h2 with ⟨hv, hz⟩ | ⟨g, cap, cur, hv, hg, hh, hn, hm, hz, htake⟩
    · exact absurd (hnil.1 hv) (by simp)
    · subst hv
      have hc := hrow'.cellAt 0 (by simp)
      refine ⟨g, cap, he, ?_, by simpa using hn, hg, ?_, hb⟩
      · rw [hc]; simp [encStr]
      · rcases Nat.lt_or_ge g w'.heap.size with h | h
        · exact h
        · rw [Array.getElem?_eq_none h] at hh; cases hh

theorem omap_below {b n : Nat} {w w' : World} {D : DataW Unit} {B : Nat} (h : w.ownsMap Tryz.prog 9 Sp.rd b n D) (hw : Below B w w') (hb : b < B) : w'.ownsMap Tryz.prog 9 Sp.rd b n D := by
  obtain ⟨es, clock, hh, F, hs, hD⟩ := h
  exact ⟨es, clock, (hw.block b hb).trans hh, F, hs, hD⟩

set_option maxRecDepth 100000 in
set_option maxHeartbeats 1000000 in
theorem deletes_none {b c n : Nat} {w : World} (h : w.ownsMap Tryz.prog 9 Sp.rd b n (.map [])) :
    Calls Tryz.prog 86 #[.map (some b), .map (some c)] w fun e w' => e = .returned (.slice none 0 0) ∧ Below w.heap.size w w' := by
  have HM := hid h
  clear h
  go_enter Tryz.func86, Tryz.ntmps86
  go_wp2_with fail
  refine (paths_none HM.out).mono ?_
  rintro e w1 ⟨rfl, hb1⟩
  go_wp2_with fail
  go_loopw [5, 11] (fun x i wr => x = .slice none 0 0 ∧ i = .int .i64 0 ∧ wr = w1) (fun _ _ _ => 0)
  case atStart => exact ⟨rfl, rfl, rfl⟩
  case round =>
    obtain ⟨rfl, rfl, rfl⟩ := hrel
    go_wp2_with fail
    go_ret
    exact ⟨rfl, hb1⟩

theorem Tryz.infoChg : (Tryz.prog.info? 53).map (fun i => (i.zero, i.size, i.bytes)) = some (some (.agg #[.int .i64 0, .string ⟨#[]⟩, .string ⟨#[]⟩, .string ⟨#[]⟩, .int .i64 0]), 5, 64) := by kernel_rfl
namespace Pp
def cellsC (c : Ch) : List Value := [.int .i64 c.k, .string c.p, .string c.q, .string c.t, .int .i64 c.b]
theorem cellsC_one (c : Ch) : ∀ u ∈ cellsC c, u.oneCell' = true := by
  intro u hu
  simp only [cellsC, List.mem_cons, List.not_mem_nil, or_false] at hu
  rcases hu with rfl | rfl | rfl | rfl | rfl <;> rfl
end Pp
theorem new_cellsC (w : World) (c : Pp.Ch) (T : TypeId) : ∀ j u, (Pp.cellsC c)[j]? = some u → (w.alloc (.cells #[.int .i64 c.k, .string c.p, .string c.q, .string c.t, .int .i64 c.b] T)).cell? ((⟨w.heap.size, 0, none⟩ : Addr).add j) = some u := by
  intro j u hj
  match j, hj with
  | 0, hj => simp [Pp.cellsC] at hj; subst hj; simp [Addr.add]
  | 1, hj => simp [Pp.cellsC] at hj; subst hj; simp [Addr.add]
  | 2, hj => simp [Pp.cellsC] at hj; subst hj; simp [Addr.add]
  | 3, hj => simp [Pp.cellsC] at hj; subst hj; simp [Addr.add]
  | 4, hj => simp [Pp.cellsC] at hj; subst hj; simp [Addr.add]
  | j + 5, hj => simp [Pp.cellsC] at hj

set_option maxRecDepth 100000 in
set_option maxHeartbeats 2000000 in
theorem makes_one {b c n m : Nat} {w : World} {p t : ByteArray} {k : Int} (h : w.ownsMap Tryz.prog 9 Sp.rd b n (.map [])) (ho : w.ownsMap Tryz.prog 9 Sp.rd c m (Sp.one p 2 t k)) (hp : p.size ≤ maxLen) :
    Calls Tryz.prog 87 #[.map (some b), .map (some c)] w fun e w' => ∃ v, e = .returned v ∧ w'.ownsRow w.heap.size 53 5 v 1 (Pp.cellsC ⟨2, p, ⟨#[]⟩, t, -1⟩) ∧ Below w.heap.size w w' := by
  obtain ⟨i0, hi0, hz0, hz1, hz2⟩ := info_parts Tryz.infoChg
  have HB := hid h
  have HC := hid ho
  have hblt := h.lt
  have hclt := ho.lt
  have HLK : Hid (∀ W, Below w.heap.size w W → (Instr.lookup 96 (.map (some b)) (.string p) false).run Tryz.prog W = .ok (.agg #[.int .i64 0, .string ⟨#[]⟩, .int .i64 0]) W ∧ (Instr.lookup 96 (.map (some c)) (.string p) false).run Tryz.prog W = .ok (.agg #[.int .i64 2, .string t, .int .i64 k]) W) := (fun W hW => ⟨spotAt_none (omap_below h hW hblt) p hp, spotAt_one (omap_below ho hW hclt) hp⟩ : ∀ W, Below w.heap.size w W → (Instr.lookup 96 (.map (some b)) (.string p) false).run Tryz.prog W = .ok (.agg #[.int .i64 0, .string ⟨#[]⟩, .int .i64 0]) W ∧ (Instr.lookup 96 (.map (some c)) (.string p) false).run Tryz.prog W = .ok (.agg #[.int .i64 2, .string t, .int .i64 k]) W)
  clear h ho
  go_enter Tryz.func87, Tryz.ntmps87
  go_wp2_with fail
  refine (paths_one HC.out).mono ?_
  rintro e w1 ⟨g, cap, rfl, hcell, hcap, hg1, hg2, hb1⟩
  have hsz1 := hb1.size
  go_wp2_with fail
  go_loopw [5, 11] (fun x i wr => Below w1.heap.size w1 wr ∧ ((x = .slice none 0 0 ∧ i = .int .i64 0) ∨ (i = .int .i64 1 ∧ Hid (wr.ownsRow w.heap.size 53 5 x 1 (Pp.cellsC ⟨2, p, ⟨#[]⟩, t, -1⟩))))) (fun _ i _ => 2 - (intOf i).toNat)
  case atStart => exact ⟨Below.refl _ _, Or.inl ⟨rfl, rfl⟩⟩
  case round =>
    obtain ⟨hbel, ⟨rfl, rfl⟩ | ⟨rfl, HX⟩⟩ := hrel
    · have hb0r : Below w.heap.size w wr := hb1.trans (hbel.mono hsz1)
      have c0 : wr.cell? ⟨g, 0, none⟩ = some (.string p) := (hbel.cell (p := ⟨g, 0, none⟩) hg2).trans hcell
      obtain ⟨hl1, hl2⟩ := HLK.out wr hb0r
      go_wp2_with fail
      refine (like_no 2 0 t ⟨#[]⟩ k 0 (by decide) _).mono ?_
      rintro e w2 ⟨rfl, hb2⟩
      have hb02 := below_trans hb0r hb2
      have hbel2 := below_trans hbel hb2
      clear hl1 hl2
      obtain ⟨hl1, hl2⟩ := HLK.out w2 hb02
      go_wp2_with fail
      refine (made_file p t k _).mono ?_
      rintro e w3 ⟨rfl, hb3⟩
      have hb03 := below_trans hb02 hb3
      have hbel3 := below_trans hbel2 hb3
      have hsz3 := hb03.size
      clear hl1 hl2
      go_wp2_with (at_builtin; refine wpList_append_own _ rfl _ _ 23 rfl w.heap.size 53 i0 (.agg #[.int .i64 0, .string ⟨#[]⟩, .string ⟨#[]⟩, .string ⟨#[]⟩, .int .i64 0]) 5 64 Tryz.underlying23 hi0 hz0 hz1 hz2 rfl (by decide) (.slice none 0 0) 0 [] rfl (World.ownsRow_nil _ _ _ _) ⟨w3.heap.size, 0, none⟩ 1 1 (Pp.cellsC ⟨2, p, ⟨#[]⟩, t, -1⟩) rfl rfl (new_cellsC w3 ⟨2, p, ⟨#[]⟩, t, -1⟩ _) (Pp.cellsC_one _) (by unfold maxLen; omega) (by omega) (by simp; omega) ?_)
      intro v5 w5 ho5 hgr5 hnn5
      have hbel5 : Below w1.heap.size w1 w5 := (hbel3.alloc hbel3.size _).grown hgr5 (by have := hbel3.size; simp; omega) (fun q hq => by simp [Value.ownBlock] at hq)
      have HO5 : Hid (w5.ownsRow w.heap.size 53 5 v5 1 (Pp.cellsC ⟨2, p, ⟨#[]⟩, t, -1⟩)) := (by simpa using ho5 : w5.ownsRow w.heap.size 53 5 v5 1 (Pp.cellsC ⟨2, p, ⟨#[]⟩, t, -1⟩))
      clear ho5 hgr5 hnn5
      go_wp2_with fail
      go_roundw
      case rel => exact ⟨hbel5, Or.inr ⟨by simp, HO5⟩⟩
      case measure => simp [intOf]
    · go_wp2_with fail
      go_ret
      exact ⟨_, rfl, HX.out, hb1.trans (hbel.mono hsz1)⟩
end Go.Proofs.YtlllcifehellpaaGreatDoor
set_option linter.unusedSimpArgs false
set_option linter.unusedVariables false
namespace Go.Proofs.YtlllcifehellpaaGreatDoor
open Go.RowKit Go.Maps Go.WideMaps

/-- What a map answers of a path. -/
def Sp.val (L : List En) (p : List UInt8) : Value := match Sp.at_ L p with | some e => .agg #[.int .i64 (Sp.wh e), .string (Sp.tx e), .int .i64 e.ver] | none => .agg #[.int .i64 0, .string ⟨#[]⟩, .int .i64 0]
theorem spotAt_any {b n : Nat} {w : World} {L : List En} (h : w.ownsMap Tryz.prog 9 Sp.rd b n (Sp.D L)) (hL : Sp.Apart L) (p : ByteArray) (hp : p.size ≤ maxLen) : (Instr.lookup 96 (.map (some b)) (.string p) false).run Tryz.prog w = .ok (Sp.val L p.data.toList) w := by
  obtain ⟨v, ps, hrun, hv⟩ := h.lookup (string_keyed Tryz.underlying9) Tryz.underlying96 (Tryz.zeroSpot w) (Sp.rd_mk 0 ⟨#[]⟩ 0) (keyOf_string_mk Tryz.underlying9 hp)
  have e : (Sp.D L).atKey (.string p.data.toList) (Sp.dat 0 ⟨#[]⟩ 0) = _ := Sp.D_at hL p _
  rw [e] at hv
  rw [Sp.val]
  cases hh : Sp.at_ L p.data.toList with
  | none =>
    rw [hh] at hv
    rw [Sp.rd_inv hv] at hrun
    exact hrun
  | some x =>
    rw [hh] at hv
    rw [Sp.rd_inv hv] at hrun
    exact hrun

set_option maxHeartbeats 1000000 in
theorem sof_any (x : En) (w : World) :
    Calls Tryz.prog 73 #[.agg #[.string x.path, .bool x.folder, .string x.text, .int .i64 x.ver]] w fun e w' => e = .returned (.agg #[.int .i64 (Sp.wh x), .string (Sp.tx x), .int .i64 x.ver]) ∧ Below w.heap.size w w' := by
  obtain ⟨p, f, t, n⟩ := x
  cases f with
  | false => exact sof_file p t n w
  | true =>
    show Calls Tryz.prog 73 #[.agg #[.string p, .bool true, .string t, .int .i64 n]] w fun e w' => e = .returned (.agg #[.int .i64 1, .string ⟨#[]⟩, .int .i64 n]) ∧ Below w.heap.size w w'
    go_enter Tryz.func73, Tryz.ntmps73
    go_wp2_with fail
    refine bodyPost_ret (v := .agg #[.int .i64 1, .string ⟨#[]⟩, .int .i64 n]) (by simp [results, Tryz.results73, go_sem]) rfl ⟨rfl, ?_⟩
    exact ((Below.refl _ _).alloc (Nat.le_refl _) _).alloc (by simp) _

set_option maxRecDepth 100000 in
set_option maxHeartbeats 2000000 in
theorem spotOf_any (L : List En) (v : Value) (w : World) (hv : Lies w v L) (hn : L.length ≤ 1000) (hp : ∀ e ∈ L, e.path.size ≤ maxLen) :
    Calls Tryz.prog 54 #[v] w fun e w' => ∃ b, e = .returned (.map (some b)) ∧ w.heap.size ≤ b ∧ w'.ownsMap Tryz.prog 9 Sp.rd b L.length (Sp.D L) ∧ Below w.heap.size w w' := by
  obtain ⟨a, cap, rfl, hcap, hcap2, hL⟩ := hv
  have HL : Hid (∀ i (h : i < L.length), ∃ b o, a = some ⟨b, o, none⟩ ∧ b < w.heap.size ∧ EnAt w b (o + i * 4) L[i]) := hL
  have HP := hid hp
  clear hL hp
  have hmm := Tryz.makeSpots
  have HO := hid (World.ownsMap_made w Tryz.prog 9 Sp.rd)
  have hbel0 : Below w.heap.size w (w.alloc (.map #[] 0)) := (Below.refl _ _).alloc (Nat.le_refl _) _
  go_enter Tryz.func54, Tryz.ntmps54
  go_wp2_with fail
  go_loopw [11] (fun i wr => ∃ k : Nat, k ≤ L.length ∧ i = .int .i64 k ∧ Below w.heap.size w wr ∧ w.heap.size < wr.heap.size ∧ Hid (wr.ownsMap Tryz.prog 9 Sp.rd w.heap.size k (Sp.D (L.take k)))) (fun i _ => L.length - (intOf i).toNat)
  case atStart => exact ⟨0, Nat.zero_le _, rfl, hbel0, by simp, HO⟩
  case round =>
    obtain ⟨k, hk, rfl, hbel, hszr, HM⟩ := hrel
    by_cases hlt : k < L.length
    · obtain ⟨b, o, rfl, hb, he⟩ := HL.out k hlt
      obtain ⟨c0, c1, c2, c3⟩ := he.below hb hbel
      have hpx := HP.out L[k] (List.getElem_mem hlt)
      have HSN : Hid (Sp.D (L.take (k + 1)) = Sp.put (Sp.D (L.take k)) L[k]) := (by rw [List.take_succ_eq_append_getElem hlt, Sp.D_snoc] : Sp.D (L.take (k + 1)) = Sp.put (Sp.D (L.take k)) L[k])
      clear he
      generalize L[k] = x at *
      obtain ⟨wz, hwz⟩ : ∃ wz, wz = wr.alloc (.cells #[.string x.path, .bool x.folder, .string x.text, .int .i64 x.ver] 64) := ⟨_, rfl⟩
      have hbz : Below wr.heap.size wr wz := by rw [hwz]; exact (Below.refl _ _).alloc (Nat.le_refl _) _
      have z0 : wz.cell? ⟨wr.heap.size, 0, none⟩ = some (.string x.path) := by rw [hwz]; simp
      have z1 : wz.cell? ⟨wr.heap.size, 1, none⟩ = some (.bool x.folder) := by rw [hwz]; simp
      have z2 : wz.cell? ⟨wr.heap.size, 2, none⟩ = some (.string x.text) := by rw [hwz]; simp
      have z3 : wz.cell? ⟨wr.heap.size, 3, none⟩ = some (.int .i64 x.ver) := by rw [hwz]; simp
      have hszz : wz.heap.size = wr.heap.size + 1 := by rw [hwz]; simp
      have HMZ := hid (HM.out.alloc (.cells #[.string x.path, .bool x.folder, .string x.text, .int .i64 x.ver] 64))
      rw [← hwz] at HMZ
      have hbel2 := below_trans hbel hbz
      go_wp2_with fail
      rw [← hwz]
      clear hwz c0 c1 c2 c3
      go_region_held3 (fun W => W.cell? ⟨wr.heap.size, 0, none⟩ = some (.string x.path) ∧ W.cell? ⟨wr.heap.size, 1, none⟩ = some (.bool x.folder) ∧ W.cell? ⟨wr.heap.size, 2, none⟩ = some (.string x.text) ∧ W.cell? ⟨wr.heap.size, 3, none⟩ = some (.int .i64 x.ver)) (go_keep) (first
        | (go_at_call 73; refine (sof_any x _).mono ?_; rintro e wa ⟨rfl, hba⟩; have hza : Below wz.heap.size wz wa := ((Below.refl _ _).drew).trans hba; have hma := hid (HMZ.out.kept (row := none) ⟨hza.os, hza.tape, hza.output, hza.size, fun k hk _ => hza.block k hk⟩ (by simp)); obtain ⟨w6, hrun6, hown6, hgr6⟩ := hma.out.update (string_keyed Tryz.underlying9) Tryz.underlying96 (by unfold maxLen; omega) (keyOf_string_mk Tryz.underlying9 hpx) (Sp.rd_mk (Sp.wh x) (Sp.tx x) x.ver); have HO6 := hid hown6; have j0 := (hza.cell (p := ⟨wr.heap.size, 0, none⟩) (by simp [hszz])).trans z0; have j1 := (hza.cell (p := ⟨wr.heap.size, 1, none⟩) (by simp [hszz])).trans z1; have j2 := (hza.cell (p := ⟨wr.heap.size, 2, none⟩) (by simp [hszz])).trans z2; have j3 := (hza.cell (p := ⟨wr.heap.size, 3, none⟩) (by simp [hszz])).trans z3; have hsza := hza.size; have i0 := (hgr6.cell_far ⟨wr.heap.size, 0, none⟩ (by show wr.heap.size < wa.heap.size; omega) (by simp; omega)).trans j0; have i1 := (hgr6.cell_far ⟨wr.heap.size, 1, none⟩ (by show wr.heap.size < wa.heap.size; omega) (by simp; omega)).trans j1; have i2 := (hgr6.cell_far ⟨wr.heap.size, 2, none⟩ (by show wr.heap.size < wa.heap.size; omega) (by simp; omega)).trans j2; have i3 := (hgr6.cell_far ⟨wr.heap.size, 3, none⟩ (by show wr.heap.size < wa.heap.size; omega) (by simp; omega)).trans j3; clear hown6))
      have hbel6 : Below w.heap.size w w6 := (below_trans hbel2 hza).grown hgr6 (by omega) (fun k hk => by simp at hk; omega)
      have hsz6 := hgr6.size
      have HO7 : Hid (w6.ownsMap Tryz.prog 9 Sp.rd w.heap.size (k + 1) (Sp.D (L.take (k + 1)))) := (by rw [HSN.out]; exact HO6.out : w6.ownsMap Tryz.prog 9 Sp.rd w.heap.size (k + 1) (Sp.D (L.take (k + 1))))
      clear HO6 HSN
      go_wp2_with fail
      go_roundw
      case rel => exact ⟨k + 1, by omega, by simp, hbel6, by omega, HO7⟩
      case measure => simp [intOf]; omega
    · obtain rfl : k = L.length := by omega
      have HM2 : Hid (wr.ownsMap Tryz.prog 9 Sp.rd w.heap.size L.length (Sp.D L)) := (by have h := HM.out; rw [List.take_length] at h; exact h : wr.ownsMap Tryz.prog 9 Sp.rd w.heap.size L.length (Sp.D L))
      clear HM
      go_wp2_with fail
      go_ret
      exact ⟨_, rfl, Nat.le_refl _, HM2.out, hbel⟩

/-- Texts in a slice of one's own. -/
def LiesP (B : Nat) (w : World) (v : Value) (Ps : List ByteArray) : Prop := ∃ a cap, v = .slice a Ps.length cap ∧ Ps.length ≤ cap ∧ ∀ i (h : i < Ps.length), ∃ g, a = some ⟨g, 0, none⟩ ∧ B ≤ g ∧ g < w.heap.size ∧ w.cell? ⟨g, i, none⟩ = some (.string Ps[i])
theorem paths_good {b n : Nat} {w : World} {L : List En} (h : w.ownsMap Tryz.prog 9 Sp.rd b n (Sp.D L)) (hr : L.Pairwise (fun x y => Pp.lt x y = true)) (hn : L.length ≤ 1000) :
    Calls Tryz.prog 75 #[.map (some b)] w fun e w' => ∃ v, e = .returned v ∧ LiesP w.heap.size w' v (L.map (fun e => e.path)) ∧ Below w.heap.size w w' := by
  have hsz := Sp.D_size (Sp.apart_rise hr)
  refine (Tryz.paths_any b n _ Sp.rd w h (by rw [hsz]; unfold maxLen; omega) (by rw [hsz]; omega)).mono fun e w' ⟨v, ss, he, hp, hrow, hnil, hb⟩ => ?_
  have hl : ss.length = L.length := by
    have h1 := hp.length_eq
    have h2 := (Sp.D_keys (Sp.apart_rise hr)).length_eq
    rw [List.length_map] at h2
    omega
  rw [Sp.D_sorted hr hp, hl] at hrow
  refine ⟨v, he, ?_, hb⟩
  have hrow' := hrow
  obtain ⟨_, h2⟩ := hrow
  rcases h2 with ⟨hv, hz⟩ | ⟨g, cap, cur, hv, hg, hh, hn2, hm, hz, htake⟩
  · subst hv
    have : L = [] := List.length_eq_zero_iff.1 hz
    subst this
    exact ⟨none, 0, rfl, Nat.le_refl _, fun i hi => absurd hi (by simp)⟩
  · subst hv
    refine ⟨some ⟨g, 0, none⟩, cap, by rw [List.length_map], by rw [List.length_map]; exact hn2, fun i hi => ⟨g, rfl, hg, ?_, ?_⟩⟩
    · rcases Nat.lt_or_ge g w'.heap.size with h | h
      · exact h
      · rw [Array.getElem?_eq_none h] at hh; cases hh
    · rw [List.length_map] at hi
      rw [hrow'.cellAt i (by omega)]
      simp only [List.map_map, List.getElem?_map, List.getElem?_eq_getElem hi, Option.map_some, List.getElem_map, Function.comp]
end Go.Proofs.YtlllcifehellpaaGreatDoor
set_option linter.unusedSimpArgs false
set_option linter.unusedVariables false
namespace Go.Proofs.YtlllcifehellpaaGreatDoor
open Go.RowKit Go.Maps Go.WideMaps

namespace Sp
def wAt (L : List En) (p : List UInt8) : Int := match at_ L p with | some e => wh e | none => 0
def tAt (L : List En) (p : List UInt8) : ByteArray := match at_ L p with | some e => tx e | none => ⟨#[]⟩
def vAt (L : List En) (p : List UInt8) : Int := match at_ L p with | some e => e.ver | none => 0
theorem val_eq (L : List En) (p : List UInt8) : val L p = .agg #[.int .i64 (wAt L p), .string (tAt L p), .int .i64 (vAt L p)] := by
  rw [val, wAt, tAt, vAt]
  cases at_ L p <;> rfl
theorem at_self {L : List En} (h : Apart L) {e : En} (he : e ∈ L) : at_ L e.path.data.toList = some e := by
  induction L with
  | nil => cases he
  | cons a r ih =>
    rw [Apart, List.pairwise_cons] at h
    rcases List.mem_cons.1 he with rfl | he'
    · rw [at_, List.find?_cons_of_pos (atB_iff.2 rfl)]
    · have hne : ¬ Pp.atB e.path.data.toList a = true := fun hh => h.1 e he' (atB_iff.1 hh)
      rw [at_, List.find?_cons_of_neg hne]
      exact ih h.2 he'
theorem wAt_self {L : List En} (h : Apart L) {e : En} (he : e ∈ L) : wAt L e.path.data.toList = wh e := by rw [wAt, at_self h he]
theorem tAt_self {L : List En} (h : Apart L) {e : En} (he : e ∈ L) : tAt L e.path.data.toList = tx e := by rw [tAt, at_self h he]
/-- Is there a folder to be in? -/
def hasP (M : List En) (p : List UInt8) : Bool := (Pp.par p == []) || (wAt M (Pp.par p) == 1)
theorem hasP_eq {M : List En} {p q : List UInt8} {a : Int} (h1 : Pp.par p = q) (h2 : wAt M q = a) : hasP M p = ((q == []) || (a == 1)) := by rw [hasP, h1, h2]
def goes (M : List En) (e : En) : Bool := (wh e != wAt M e.path.data.toList) && hasP M e.path.data.toList
def delC (e : En) : Pp.Ch := ⟨4, e.path, ⟨#[]⟩, ⟨#[]⟩, -1⟩
def dels (L M : List En) : List Pp.Ch := (L.filter (goes M)).map delC
def newB (L : List En) (e : En) : Bool := !((wh e == wAt L e.path.data.toList) && ((tx e).toList == (tAt L e.path.data.toList).toList))
def mkC (e : En) : Pp.Ch := if e.folder = true then ⟨1, e.path, ⟨#[]⟩, ⟨#[]⟩, -1⟩ else ⟨2, e.path, ⟨#[]⟩, e.text, -1⟩
def mks (L M : List En) : List Pp.Ch := (M.filter (newB L)).map mkC
end Sp
theorem ownsRow_low {w : World} {B B' : Nat} {e : TypeId} {size : Nat} {v : Value} {n : Nat} {xs : List Value} (h : w.ownsRow B e size v n xs) (hB : B' ≤ B) : w.ownsRow B' e size v n xs := by
  obtain ⟨h1, h2⟩ := h
  refine ⟨h1, ?_⟩
  rcases h2 with h2 | ⟨g, cap, cur, hv, hg, r⟩
  · exact .inl h2
  · exact .inr ⟨g, cap, cur, hv, Nat.le_trans hB hg, r⟩
theorem _root_.Go.World.ownsRow.kept9 {w w' : World} {B : Nat} {e : TypeId} {size : Nat} {v : Value} {n : Nat} {xs : List Value} (h : w.ownsRow B e size v n xs) (hw : Below w.heap.size w w') : w'.ownsRow B e size v n xs := by
  obtain ⟨h1, h2⟩ := h
  refine ⟨h1, ?_⟩
  rcases h2 with h2 | ⟨g, cap, cur, hv, hg, hh, r⟩
  · exact .inl h2
  · have hlt : g < w.heap.size := by
      rcases Nat.lt_or_ge g w.heap.size with h | h
      · exact h
      · rw [Array.getElem?_eq_none h] at hh; cases hh
    exact .inr ⟨g, cap, cur, hv, hg, (hw.block g hlt).trans hh, r⟩
namespace Pp
def flatC (l : List Ch) : List Value := l.flatMap cellsC
theorem flatC_snoc (l : List Ch) (c : Ch) : flatC l ++ cellsC c = flatC (l ++ [c]) := by simp [flatC]
theorem filter_hitE {L : List En} {k : Nat} (h : k < L.length) {pr : En → Bool} (hp : pr L[k] = true) : (L.take (k + 1)).filter pr = (L.take k).filter pr ++ [L[k]] := by
  rw [List.take_succ_eq_append_getElem h, List.filter_append]; simp [hp]
theorem filter_missE {L : List En} {k : Nat} (h : k < L.length) {pr : En → Bool} (hp : pr L[k] = false) : (L.take (k + 1)).filter pr = (L.take k).filter pr := by
  rw [List.take_succ_eq_append_getElem h, List.filter_append]; simp [hp]
end Pp

theorem Tryz.fieldWhat (a : Int) (s : ByteArray) (n : Int) (W : World) : (Instr.field 114 (.agg #[.int .i64 a, .string s, .int .i64 n]) 0).run Tryz.prog W = .ok (.int .i64 a) W := by
  have h : (Instr.field 114 (.agg #[.int .i64 a, .string s, .int .i64 n]) 0).run Tryz.prog W = .ok (#[Value.int .i64 a, Value.string s, Value.int .i64 n][0]) W := by
    simp [Instr.field, run_underlying Tryz.underlying114, asAgg, part, go_sem]
    try rfl
  exact h

set_option maxHeartbeats 1000000 in
theorem like_any (a b : Int) (s t : ByteArray) (m n : Int) (w : World) :
    Calls Tryz.prog 101 #[.agg #[.int .i64 a, .string s, .int .i64 m], .agg #[.int .i64 b, .string t, .int .i64 n]] w fun e w' => e = .returned (.bool ((a == b) && (s.toList == t.toList))) ∧ Below w.heap.size w w' := by
  cases h : (a == b) with
  | false => exact like_no a b s t m n h w
  | true =>
    go_enter Tryz.func101, Tryz.ntmps101
    go_wp2
    go_ret
    exact ⟨by simp, ((Below.refl _ _).alloc (Nat.le_refl _) _).alloc (by simp) _⟩

theorem made_any (x : En) (w : World) :
    Calls Tryz.prog 111 #[.string x.path, .agg #[.int .i64 (Sp.wh x), .string (Sp.tx x), .int .i64 x.ver]] w fun e w' => e = .returned (.agg #[.int .i64 (Sp.mkC x).k, .string (Sp.mkC x).p, .string (Sp.mkC x).q, .string (Sp.mkC x).t, .int .i64 (Sp.mkC x).b]) ∧ Below w.heap.size w w' := by
  obtain ⟨p, f, t, n⟩ := x
  cases f with
  | false => exact made_file p t n w
  | true =>
    show Calls Tryz.prog 111 #[.string p, .agg #[.int .i64 1, .string ⟨#[]⟩, .int .i64 n]] w fun e w' => e = .returned (.agg #[.int .i64 1, .string p, .string ⟨#[]⟩, .string ⟨#[]⟩, .int .i64 (-1)]) ∧ Below w.heap.size w w'
    go_enter Tryz.func111, Tryz.ntmps111
    go_wp2_with fail
    refine bodyPost_ret (v := .agg #[.int .i64 1, .string p, .string ⟨#[]⟩, .string ⟨#[]⟩, .int .i64 (-1)]) (by simp [results, Tryz.results111, go_sem]) rfl ⟨rfl, ?_⟩
    exact ((Below.refl _ _).alloc (Nat.le_refl _) _).alloc (by simp) _

set_option maxRecDepth 100000 in
set_option maxHeartbeats 1000000 in
theorem hasParent_any {c n : Nat} {w : World} {M : List En} (h : w.ownsMap Tryz.prog 9 Sp.rd c n (Sp.D M)) (hM : Sp.Apart M) (p : ByteArray) (hp : p.size ≤ 1000000000) (hc : Pp.chk p.data.toList = 0) (hl : (Pp.par p.data.toList).length ≤ p.size) :
    Calls Tryz.prog 110 #[.map (some c), .string p] w fun e w' => e = .returned (.bool (Sp.hasP M p.data.toList)) ∧ Below w.heap.size w w' := by
  have hclt := h.lt
  have hsz : (⟨(Pp.par p.data.toList).toArray⟩ : ByteArray).size ≤ maxLen := by
    show (Pp.par p.data.toList).toArray.size ≤ _
    rw [List.size_toArray]; unfold maxLen; omega
  have HLK : Hid (∀ W, Below w.heap.size w W → (Instr.lookup 96 (.map (some c)) (.string ⟨(Pp.par p.data.toList).toArray⟩) false).run Tryz.prog W = .ok (.agg #[.int .i64 (Sp.wAt M (Pp.par p.data.toList)), .string (Sp.tAt M (Pp.par p.data.toList)), .int .i64 (Sp.vAt M (Pp.par p.data.toList))]) W) := (fun W hW => by
    have := spotAt_any (omap_below h hW hclt) hM ⟨(Pp.par p.data.toList).toArray⟩ hsz
    rw [Sp.val_eq] at this
    exact this : ∀ W, Below w.heap.size w W → (Instr.lookup 96 (.map (some c)) (.string ⟨(Pp.par p.data.toList).toArray⟩) false).run Tryz.prog W = .ok (.agg #[.int .i64 (Sp.wAt M (Pp.par p.data.toList)), .string (Sp.tAt M (Pp.par p.data.toList)), .int .i64 (Sp.vAt M (Pp.par p.data.toList))]) W)
  have HC := hid hc
  clear h hc
  have hfd := Tryz.fieldWhat
  go_enter Tryz.func110, Tryz.ntmps110
  go_wp2_with fail
  refine (parent_any p _ (by omega)).mono ?_
  rintro e w1 ⟨rfl, hb1⟩
  rw [HC.out, Pp.ifc_yes rfl]
  have hlk := HLK.out w1 hb1
  generalize hqq : Pp.par p.data.toList = q at *
  generalize haa : Sp.wAt M q = a at *
  have HQQ := hid (Sp.hasP_eq hqq haa)
  clear hqq haa
  cases hq : (q == ([] : List UInt8)) with
  | true =>
    have hq2 : ((⟨q.toArray⟩ : ByteArray).toList == (⟨#[]⟩ : ByteArray).toList) = true := by
      have : q = [] := by simpa using hq
      subst this; simp
    go_wp2
    go_ret
    exact ⟨by rw [HQQ.out, hq]; simp, hb1⟩
  | false =>
    have hq2 : ((⟨q.toArray⟩ : ByteArray).toList == (⟨#[]⟩ : ByteArray).toList) = false := by
      rw [Lib.toList_data, Lib.toList_data]
      simpa using hq
    go_wp2
    go_ret
    exact ⟨by rw [HQQ.out, hq]; simp, hb1⟩

set_option maxRecDepth 100000 in
set_option maxHeartbeats 4000000 in
theorem deletes_any {b c n m : Nat} {w : World} {L M : List En} (h : w.ownsMap Tryz.prog 9 Sp.rd b n (Sp.D L)) (ho : w.ownsMap Tryz.prog 9 Sp.rd c m (Sp.D M)) (hL : L.Pairwise (fun x y => Pp.lt x y = true)) (hM : Sp.Apart M) (hn : L.length ≤ 1000) (hp : ∀ e ∈ L, e.path.size ≤ 1000000000 ∧ Pp.chk e.path.data.toList = 0 ∧ (Pp.par e.path.data.toList).length ≤ e.path.size) :
    Calls Tryz.prog 86 #[.map (some b), .map (some c)] w fun e w' => ∃ v, e = .returned v ∧ w'.ownsRow w.heap.size 53 5 v (Sp.dels L M).length (Pp.flatC (Sp.dels L M)) ∧ Below w.heap.size w w' := by
  obtain ⟨i0, hi0, hz0, hz1, hz2⟩ := info_parts Tryz.infoChg
  have hblt := h.lt
  have hclt := ho.lt
  have hap := Sp.apart_rise hL
  have HB := hid h
  have HLK : Hid (∀ x ∈ L, ∀ W, Below w.heap.size w W → (Instr.lookup 96 (.map (some b)) (.string x.path) false).run Tryz.prog W = .ok (.agg #[.int .i64 (Sp.wh x), .string (Sp.tx x), .int .i64 x.ver]) W ∧ (Instr.lookup 96 (.map (some c)) (.string x.path) false).run Tryz.prog W = .ok (.agg #[.int .i64 (Sp.wAt M x.path.data.toList), .string (Sp.tAt M x.path.data.toList), .int .i64 (Sp.vAt M x.path.data.toList)]) W) := (fun x hx W hW => by
    have hs : x.path.size ≤ maxLen := by have := (hp x hx).1; unfold maxLen; omega
    have h1 := spotAt_any (omap_below h hW hblt) hap x.path hs
    have h2 := spotAt_any (omap_below ho hW hclt) hM x.path hs
    rw [Sp.val, Sp.at_self hap hx] at h1
    rw [Sp.val_eq] at h2
    exact ⟨h1, h2⟩ : ∀ x ∈ L, ∀ W, Below w.heap.size w W → (Instr.lookup 96 (.map (some b)) (.string x.path) false).run Tryz.prog W = .ok (.agg #[.int .i64 (Sp.wh x), .string (Sp.tx x), .int .i64 x.ver]) W ∧ (Instr.lookup 96 (.map (some c)) (.string x.path) false).run Tryz.prog W = .ok (.agg #[.int .i64 (Sp.wAt M x.path.data.toList), .string (Sp.tAt M x.path.data.toList), .int .i64 (Sp.vAt M x.path.data.toList)]) W)
  have HHP : Hid (∀ x ∈ L, ∀ W, Below w.heap.size w W → Calls Tryz.prog 110 #[.map (some c), .string x.path] W fun e w' => e = .returned (.bool (Sp.hasP M x.path.data.toList)) ∧ Below W.heap.size W w') := (fun x hx W hW => hasParent_any (omap_below ho hW hclt) hM x.path (hp x hx).1 (hp x hx).2.1 (hp x hx).2.2 : ∀ x ∈ L, ∀ W, Below w.heap.size w W → Calls Tryz.prog 110 #[.map (some c), .string x.path] W fun e w' => e = .returned (.bool (Sp.hasP M x.path.data.toList)) ∧ Below W.heap.size W w')
  have HL := hid hL
  clear h ho hp hap hL
  have hfd := Tryz.fieldWhat
  go_enter Tryz.func86, Tryz.ntmps86
  go_wp2_with fail
  refine (paths_good HB.out HL.out hn).mono ?_
  rintro e w1 ⟨v1, rfl, ⟨a1, cap1, rfl, hcap1, hcells⟩, hb1⟩
  have HCL := hid hcells
  rw [List.length_map] at hcap1 ⊢
  have hsz1 := hb1.size
  clear hcells
  go_wp2_with fail
  go_loopw [5, 11] (fun x i wr => ∃ k : Nat, k ≤ L.length ∧ i = .int .i64 k ∧ Below w1.heap.size w1 wr ∧ wr.ownsRow w1.heap.size 53 5 x (Sp.dels (L.take k) M).length (Pp.flatC (Sp.dels (L.take k) M))) (fun _ i _ => L.length - (intOf i).toNat)
  case atStart => exact ⟨0, Nat.zero_le _, rfl, Below.refl _ _, World.ownsRow_nil _ _ _ _⟩
  case round =>
    obtain ⟨k, hk, rfl, hbel, hown⟩ := hrel
    have hb0r : Below w.heap.size w wr := hb1.trans (hbel.mono hsz1)
    by_cases hlt : k < L.length
    · obtain ⟨g, rfl, hg1, hg2, hcell⟩ := HCL.out k (by rw [List.length_map]; exact hlt)
      rw [List.getElem_map] at hcell
      have c0 := (hbel.cell (p := ⟨g, k, none⟩) hg2).trans hcell
      have hmem : L[k] ∈ L := List.getElem_mem hlt
      obtain ⟨hl1, hl2⟩ := HLK.out L[k] hmem wr hb0r
      have HHK := hid (HHP.out L[k] hmem)
      have HHIT : Hid (Sp.goes M L[k] = true → Sp.dels (L.take (k + 1)) M = Sp.dels (L.take k) M ++ [Sp.delC L[k]]) := (fun hh => by rw [Sp.dels, Pp.filter_hitE hlt hh, List.map_append]; rfl : Sp.goes M L[k] = true → Sp.dels (L.take (k + 1)) M = Sp.dels (L.take k) M ++ [Sp.delC L[k]])
      have HMISS : Hid (Sp.goes M L[k] = false → Sp.dels (L.take (k + 1)) M = Sp.dels (L.take k) M) := (fun hh => by rw [Sp.dels, Pp.filter_missE hlt hh]; rfl : Sp.goes M L[k] = false → Sp.dels (L.take (k + 1)) M = Sp.dels (L.take k) M)
      have hXl : (Sp.dels (L.take k) M).length ≤ 1000 := by
        have h1 : (Sp.dels (L.take k) M).length ≤ (L.take k).length := by rw [Sp.dels, List.length_map]; exact List.length_filter_le _ _
        have h2 := List.length_take_le k L
        omega
      have hrsz := hbel.size
      have HO := hid hown
      clear hown hcell hmem
      generalize L[k] = x at *
      generalize Sp.dels (L.take k) M = X at *
      cases hne : (Sp.wh x != Sp.wAt M x.path.data.toList) with
      | false =>
        have HX := hid (HMISS.out (by rw [Sp.goes, hne]; rfl))
        clear HHIT HMISS HHK
        generalize Sp.wAt M x.path.data.toList = wm at *
        generalize Sp.wh x = wx at *
        go_wp2_with fail
        go_roundw
        case rel => exact ⟨k + 1, by omega, by simp, hbel, by rw [HX.out]; exact HO.out⟩
        case measure => simp [intOf]; omega
      | true =>
        cases hhp : Sp.hasP M x.path.data.toList with
        | false =>
          have HX := hid (HMISS.out (by rw [Sp.goes, hne, hhp]; rfl))
          have HHPX := hid hhp
          clear HHIT HMISS hhp
          generalize Sp.wAt M x.path.data.toList = wm at *
          generalize Sp.wh x = wx at *
          go_wp2_with fail
          refine (HHK.out _ hb0r).mono ?_
          rintro e w2 ⟨rfl, hb2⟩
          rw [HHPX.out]
          have hbel2 := below_trans hbel hb2
          have HO2 := hid (HO.out.kept9 hb2)
          clear hb2 hl1 hl2 c0
          go_wp2_with fail
          go_roundw
          case rel => exact ⟨k + 1, by omega, by simp, hbel2, by rw [HX.out]; exact HO2.out⟩
          case measure => simp [intOf]; omega
        | true =>
          have HX := hid (HHIT.out (by rw [Sp.goes, hne, hhp]; rfl))
          have HHPX := hid hhp
          clear HHIT HMISS hhp
          generalize Sp.wAt M x.path.data.toList = wm at *
          generalize Sp.wh x = wx at *
          go_wp2_with fail
          refine (HHK.out _ hb0r).mono ?_
          rintro e w2 ⟨rfl, hb2⟩
          rw [HHPX.out]
          have hbel2 := below_trans hbel hb2
          have hO2 := HO.out.kept9 hb2
          have hsz2 := hbel2.size
          clear hb2 hl1 hl2 c0
          go_wp2_with (at_builtin; refine wpList_append_own _ rfl _ _ 23 rfl w1.heap.size 53 i0 (.agg #[.int .i64 0, .string ⟨#[]⟩, .string ⟨#[]⟩, .string ⟨#[]⟩, .int .i64 0]) 5 64 Tryz.underlying23 hi0 hz0 hz1 hz2 rfl (by decide) _ _ _ rfl (hO2.alloc _) ⟨w2.heap.size, 0, none⟩ 1 1 (Pp.cellsC (Sp.delC x)) rfl rfl (new_cellsC w2 (Sp.delC x) _) (Pp.cellsC_one _) (by unfold maxLen; omega) (by omega) (by simp; omega) ?_)
          intro v5 w5 ho5 hgr5 hnn5
          have hbel5 : Below w1.heap.size w1 w5 := (hbel2.alloc hbel2.size _).grown hgr5 (by simp; omega) (fun q hq => (hO2.lt q hq).1)
          rw [Pp.flatC_snoc] at ho5
          have HO5 : Hid (w5.ownsRow w1.heap.size 53 5 v5 (X ++ [Sp.delC x]).length (Pp.flatC (X ++ [Sp.delC x]))) := (by rw [List.length_append]; exact ho5 : w5.ownsRow w1.heap.size 53 5 v5 (X ++ [Sp.delC x]).length (Pp.flatC (X ++ [Sp.delC x])))
          clear ho5 hgr5 hnn5 hO2
          go_wp2_with fail
          go_roundw
          case rel => exact ⟨k + 1, by omega, by simp, hbel5, by rw [HX.out]; exact HO5.out⟩
          case measure => simp [intOf]; omega
    · obtain rfl : k = L.length := by omega
      rw [List.take_length] at hown
      have HO := hid (ownsRow_low hown hsz1)
      clear hown
      go_wp2_with fail
      go_ret
      exact ⟨_, rfl, HO.out, hb0r⟩
end Go.Proofs.YtlllcifehellpaaGreatDoor
