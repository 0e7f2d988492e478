/- The map of what is at the paths of a tree, as plain mathematics. What package spot answers of a tree. What package delta's parts answer of two trees: which paths go, which are made. What delta.makes and delta.Diff answer of two trees. What delta.Diff answers, for every two trees. What delta.Same answers of two trees. When two trees are alike, as plain mathematics: just when nothing is to be done. When delta.Same says yes. A row of changes of one's own, as changes that lie in memory. What stays of a tree while deletes are worked out one by one, as plain mathematics. Who works out what parts a tree from another one has that one, as plain mathematics. What the laws' choose answers, of a thousand times a thousand and one things. What the law DeltaBack answers: true, for every two trees and every version. -/
import Derived.Test.YtogbahkoijkclaaGreatD2
import Derived.Test.YtogbahkoijkclaaGreatTPure3
import Derived.Sort.Walk0
import Derived.Test.YtogbahkoijkclaaGreatD4
import Derived.Laws.OwnMore
import Derived.Test.YtogbahkoijkclaaGreatTLiesC
import Derived.Test.YtogbahkoijkclaaGreatTPure4
import Derived.Test.YtogbahkoijkclaaGreatTRun
import Derived.Test.YtogbahkoijkclaaGreatProg
import Derived.WalkKit
import Derived.Carry
import Derived.Test.YtogbahkoijkclaaGreatD3
import Derived.Test.YtogbahkoijkclaaGreatD5
set_option linter.unusedSimpArgs false
set_option linter.unusedVariables false
namespace Go.Proofs.YtogbahkoijkclaaGreat
open Go.RowKit Go.Maps Go.WideMaps Go.Proofs

theorem snoc_ind {α : Type} {P : List α → Prop} (h0 : P []) (h1 : ∀ L e, P L → P (L ++ [e])) (L : List α) : P L := by
  have h : ∀ R : List α, P R.reverse := fun R => by
    induction R with
    | nil => exact h0
    | cons a r ih => rw [List.reverse_cons]; exact h1 _ _ ih
  have h2 := h L.reverse
  rwa [List.reverse_reverse] at h2

namespace Sp
def wh (e : En) : Int := if e.folder = true then 1 else 2
def tx (e : En) : ByteArray := if e.folder = true then ⟨#[]⟩ else e.text
def put (m : DataW Unit) (e : En) : DataW Unit := m.put (key e.path) (dat (wh e) (tx e) e.ver)
/-- The map of a tree. -/
def D (L : List En) : DataW Unit := L.foldl put (.map [])
theorem D_snoc (L : List En) (e : En) : D (L ++ [e]) = put (D L) e := by simp [D]
theorem key_inj {p q : ByteArray} (h : key p = key q) : p.data.toList = q.data.toList := by simpa [key] using h
theorem D_map (L : List En) : IsMap (D L) := by
  have : ∀ (L : List En) (m : DataW Unit), IsMap m → IsMap (L.foldl put m) := by
    intro L
    induction L with
    | nil => intro m h; exact h
    | cons e r ih => intro m h; exact ih _ (h.put _ _)
  exact this L _ isMap_empty
/-- No two paths are the same. -/
def Apart (L : List En) : Prop := L.Pairwise (fun x y => x.path.data.toList ≠ y.path.data.toList)
theorem Apart.snoc {L : List En} {e : En} (h : Apart (L ++ [e])) : Apart L ∧ ∀ x ∈ L, x.path.data.toList ≠ e.path.data.toList := by
  rw [Apart, List.pairwise_append] at h
  exact ⟨h.1, fun x hx => h.2.2 x hx e (by simp)⟩
def at_ (L : List En) (p : List UInt8) : Option En := L.find? (Pp.atB p)
theorem atB_iff {p : List UInt8} {e : En} : Pp.atB p e = true ↔ e.path.data.toList = p := by simp [Pp.atB]
theorem D_at {L : List En} (h : Apart L) (p : ByteArray) (z : DataW Unit) : (D L).atKey (key p) z = match at_ L p.data.toList with | some e => dat (wh e) (tx e) e.ver | none => z := by
  revert h
  refine snoc_ind (P := fun L => Apart L → (D L).atKey (key p) z = match at_ L p.data.toList with | some e => dat (wh e) (tx e) e.ver | none => z) (fun _ => rfl) ?_ L
  · intro L e ih h
    obtain ⟨h1, h2⟩ := h.snoc
    rw [D_snoc, put]
    by_cases hk : key p = key e.path
    · have hp := key_inj hk
      rw [hk, atKey_put_same (D_map L) (by simp [key, WideAt.IsKeyLit])]
      have hnone : L.find? (Pp.atB p.data.toList) = none := by
        rw [List.find?_eq_none]
        intro x hx hh
        exact h2 x hx ((atB_iff.1 hh).trans hp)
      have hyes : Pp.atB p.data.toList e = true := atB_iff.2 hp.symm
      rw [at_, List.find?_append, hnone]
      simp [hyes]
    · rw [atKey_put_other hk, ih h1]
      have hno : Pp.atB p.data.toList e = false := by
        cases hh : Pp.atB p.data.toList e with
        | false => rfl
        | true =>
          have := atB_iff.1 hh
          exact absurd (by rw [key, key, this]) hk
      rw [at_, at_, List.find?_append]
      simp [hno]
theorem keys_put {m : DataW Unit} (hm : IsMap m) {e : En} (hne : ∀ x ∈ strKeys m, x ≠ e.path.data.toList) (hs : ∃ es, m = .map es ∧ ∀ q ∈ es, ∃ b, q.1 = .string b) : (strKeys (put m e)).Perm (e.path.data.toList :: strKeys m) := by
  obtain ⟨es, rfl, hes⟩ := hs
  have hf : (es.filter fun q => !q.1.sameKey (key e.path)) = es := by
    rw [List.filter_eq_self]
    intro q hq
    obtain ⟨b, hb⟩ := hes q hq
    have h1 : b ∈ strKeys (DataW.map es) := List.mem_map.2 ⟨q, hq, by rw [hb]; rfl⟩
    have h2 := hne b h1
    rw [hb]
    simp [Lit.sameKey, key, h2]
  show (List.map _ (DataW.insert (key e.path, _) (es.filter fun q => !q.1.sameKey (key e.path)))).Perm _
  rw [hf]
  exact ((WideShapes.insert_perm _ es).map _).trans (by simp [strKeys, key, strOf])
theorem D_strs (L : List En) : ∃ es, D L = .map es ∧ ∀ q ∈ es, ∃ b, q.1 = .string b := by
  refine snoc_ind (P := fun L => ∃ es, D L = .map es ∧ ∀ q ∈ es, ∃ b, q.1 = .string b) ⟨[], rfl, fun q hq => by cases hq⟩ ?_ L
  · intro L e ih
    obtain ⟨es, h1, h2⟩ := ih
    rw [D_snoc, h1]
    refine ⟨_, rfl, fun q hq => ?_⟩
    rcases List.mem_cons.1 ((WideShapes.insert_perm _ _).mem_iff.1 hq) with h | h
    · exact ⟨_, by rw [h]; rfl⟩
    · exact h2 q (List.mem_filter.1 h).1
theorem D_keys {L : List En} (h : Apart L) : (strKeys (D L)).Perm (L.map (fun e => e.path.data.toList)) := by
  revert h
  refine snoc_ind (P := fun L => Apart L → (strKeys (D L)).Perm (L.map (fun e => e.path.data.toList))) (fun _ => List.Perm.refl _) ?_ L
  · intro L e ih h
    obtain ⟨h1, h2⟩ := h.snoc
    have ih1 := ih h1
    rw [D_snoc, List.map_append]
    refine (keys_put (D_map L) (fun x hx => ?_) (D_strs L)).trans ?_
    · obtain ⟨y, hy, rfl⟩ := List.mem_map.1 (ih1.mem_iff.1 hx)
      exact h2 y hy
    · exact (ih1.cons _).trans (List.perm_append_comm (l₁ := [e.path.data.toList]))
theorem D_size {L : List En} (h : Apart L) : Maps.size (D L) = L.length := by
  obtain ⟨es, h1, _⟩ := D_strs L
  have := (D_keys h).length_eq
  rw [h1] at this ⊢
  simpa [strKeys, Maps.size] using this
theorem apart_rise {L : List En} (h : L.Pairwise (fun x y => Pp.lt x y = true)) : Apart L := by
  refine List.Pairwise.imp ?_ h
  intro x y hxy e
  rw [Pp.lt, Lib.toList_data, Lib.toList_data, e, bytesLess_eq] at hxy
  exact List.lt_irrefl _ (of_decide_eq_true hxy)
/-- Keys, sorted: the paths as they rise. -/
theorem D_sorted {L : List En} (h : L.Pairwise (fun x y => Pp.lt x y = true)) {ss : List (List UInt8)} (hs : ss.Perm (strKeys (D L))) : ss.mergeSort (fun x y => decide (x ≤ y)) = L.map (fun e => e.path.data.toList) := by
  have hp : (ss.mergeSort (fun x y => decide (x ≤ y))).Perm (L.map (fun e => e.path.data.toList)) := (List.mergeSort_perm _ _).trans (hs.trans (D_keys (apart_rise h)))
  have h1 : (ss.mergeSort (fun x y => decide (x ≤ y))).Pairwise (fun x y => x ≤ y) := by
    have := List.pairwise_mergeSort (le := fun (x y : List UInt8) => decide (x ≤ y)) (fun a b c h1 h2 => by simpa using List.le_trans (by simpa using h1) (by simpa using h2)) (fun a b => by simpa using List.le_total a b) ss
    exact this.imp (fun h => by simpa using h)
  have h2 : (L.map (fun e => e.path.data.toList)).Pairwise (fun x y => x ≤ y) := by
    rw [List.pairwise_map]
    refine List.Pairwise.imp ?_ h
    intro x y hxy
    rw [Pp.lt, Lib.toList_data, Lib.toList_data, bytesLess_eq, decide_eq_true_eq] at hxy
    exact List.le_of_lt hxy
  exact hp.eq_of_pairwise (fun a b _ _ h1 h2 => List.le_antisymm h1 h2) h1 h2
end Sp
end Go.Proofs.YtogbahkoijkclaaGreat
namespace Go.Proofs.YtogbahkoijkclaaGreat
open Go.RowKit Go.Maps Go.WideMaps

/-- What a map answers of a path. -/
def Sp.val (L : List En) (p : List UInt8) : Value := match Sp.at_ L p with | some e => .agg #[.int .i64 (Sp.wh e), .string (Sp.tx e), .int .i64 e.ver] | none => .agg #[.int .i64 0, .string ⟨#[]⟩, .int .i64 0]
theorem spotAt_any {b n : Nat} {w : World} {L : List En} (h : w.ownsMap Tryz.prog 9 Sp.rd b n (Sp.D L)) (hL : Sp.Apart L) (p : ByteArray) (hp : p.size ≤ maxLen) : (Instr.lookup 40 (.map (some b)) (.string p) false).run Tryz.prog w = .ok (Sp.val L p.data.toList) w := by
  obtain ⟨v, ps, hrun, hv⟩ := h.lookup (string_keyed Tryz.underlying9) Tryz.underlying40 (Tryz.zeroSpot w) (Sp.rd_mk 0 ⟨#[]⟩ 0) (keyOf_string_mk Tryz.underlying9 hp)
  have e : (Sp.D L).atKey (.string p.data.toList) (Sp.dat 0 ⟨#[]⟩ 0) = _ := Sp.D_at hL p _
  rw [e] at hv
  rw [Sp.val]
  cases hh : Sp.at_ L p.data.toList with
  | none =>
    rw [hh] at hv
    rw [Sp.rd_inv hv] at hrun
    exact hrun
  | some x =>
    rw [hh] at hv
    rw [Sp.rd_inv hv] at hrun
    exact hrun

set_option maxHeartbeats 1000000 in
theorem sof_any (x : En) (w : World) :
    Calls Tryz.prog 18 #[.agg #[.string x.path, .bool x.folder, .string x.text, .int .i64 x.ver]] w fun e w' => e = .returned (.agg #[.int .i64 (Sp.wh x), .string (Sp.tx x), .int .i64 x.ver]) ∧ Below w.heap.size w w' := by
  obtain ⟨p, f, t, n⟩ := x
  cases f with
  | false => exact sof_file p t n w
  | true =>
    show Calls Tryz.prog 18 #[.agg #[.string p, .bool true, .string t, .int .i64 n]] w fun e w' => e = .returned (.agg #[.int .i64 1, .string ⟨#[]⟩, .int .i64 n]) ∧ Below w.heap.size w w'
    go_enter Tryz.func18, Tryz.ntmps18
    go_wp2_with fail
    refine bodyPost_ret (v := .agg #[.int .i64 1, .string ⟨#[]⟩, .int .i64 n]) (by simp [results, Tryz.results18, go_sem]) rfl ⟨rfl, ?_⟩
    exact ((Below.refl _ _).alloc (Nat.le_refl _) _).alloc (by simp) _

set_option maxRecDepth 100000 in
set_option maxHeartbeats 2000000 in
theorem spotOf_any (L : List En) (v : Value) (w : World) (hv : Lies w v L) (hn : L.length ≤ 1000) (hp : ∀ e ∈ L, e.path.size ≤ maxLen) :
    Calls Tryz.prog 10 #[v] w fun e w' => ∃ b, e = .returned (.map (some b)) ∧ w.heap.size ≤ b ∧ w'.ownsMap Tryz.prog 9 Sp.rd b L.length (Sp.D L) ∧ Below w.heap.size w w' := by
  obtain ⟨a, cap, rfl, hcap, hcap2, hL⟩ := hv
  have HL : Hid (∀ i (h : i < L.length), ∃ b o, a = some ⟨b, o, none⟩ ∧ b < w.heap.size ∧ EnAt w b (o + i * 4) L[i]) := hL
  have HP := hid hp
  clear hL hp
  have hmm := Tryz.makeSpots
  have HO := hid (World.ownsMap_made w Tryz.prog 9 Sp.rd)
  have hbel0 : Below w.heap.size w (w.alloc (.map #[] 0)) := (Below.refl _ _).alloc (Nat.le_refl _) _
  go_enter Tryz.func10, Tryz.ntmps10
  go_wp2_with fail
  go_loopw [11] (fun i wr => ∃ k : Nat, k ≤ L.length ∧ i = .int .i64 k ∧ Below w.heap.size w wr ∧ w.heap.size < wr.heap.size ∧ Hid (wr.ownsMap Tryz.prog 9 Sp.rd w.heap.size k (Sp.D (L.take k)))) (fun i _ => L.length - (intOf i).toNat)
  case atStart => exact ⟨0, Nat.zero_le _, rfl, hbel0, by simp, HO⟩
  case round =>
    obtain ⟨k, hk, rfl, hbel, hszr, HM⟩ := hrel
    by_cases hlt : k < L.length
    · obtain ⟨b, o, rfl, hb, he⟩ := HL.out k hlt
      obtain ⟨c0, c1, c2, c3⟩ := he.below hb hbel
      have hpx := HP.out L[k] (List.getElem_mem hlt)
      have HSN : Hid (Sp.D (L.take (k + 1)) = Sp.put (Sp.D (L.take k)) L[k]) := (by rw [List.take_succ_eq_append_getElem hlt, Sp.D_snoc] : Sp.D (L.take (k + 1)) = Sp.put (Sp.D (L.take k)) L[k])
      clear he
      generalize L[k] = x at *
      obtain ⟨wz, hwz⟩ : ∃ wz, wz = wr.alloc (.cells #[.string x.path, .bool x.folder, .string x.text, .int .i64 x.ver] 35) := ⟨_, rfl⟩
      have hbz : Below wr.heap.size wr wz := by rw [hwz]; exact (Below.refl _ _).alloc (Nat.le_refl _) _
      have z0 : wz.cell? ⟨wr.heap.size, 0, none⟩ = some (.string x.path) := by rw [hwz]; simp
      have z1 : wz.cell? ⟨wr.heap.size, 1, none⟩ = some (.bool x.folder) := by rw [hwz]; simp
      have z2 : wz.cell? ⟨wr.heap.size, 2, none⟩ = some (.string x.text) := by rw [hwz]; simp
      have z3 : wz.cell? ⟨wr.heap.size, 3, none⟩ = some (.int .i64 x.ver) := by rw [hwz]; simp
      have hszz : wz.heap.size = wr.heap.size + 1 := by rw [hwz]; simp
      have HMZ := hid (HM.out.alloc (.cells #[.string x.path, .bool x.folder, .string x.text, .int .i64 x.ver] 35))
      rw [← hwz] at HMZ
      have hbel2 := below_trans hbel hbz
      go_wp2_with fail
      rw [← hwz]
      clear hwz c0 c1 c2 c3
      go_region_held3 (fun W => W.cell? ⟨wr.heap.size, 0, none⟩ = some (.string x.path) ∧ W.cell? ⟨wr.heap.size, 1, none⟩ = some (.bool x.folder) ∧ W.cell? ⟨wr.heap.size, 2, none⟩ = some (.string x.text) ∧ W.cell? ⟨wr.heap.size, 3, none⟩ = some (.int .i64 x.ver)) (go_keep) (first
        | (go_at_call 18; refine (sof_any x _).mono ?_; rintro e wa ⟨rfl, hba⟩; have hza : Below wz.heap.size wz wa := ((Below.refl _ _).drew).trans hba; have hma := hid (HMZ.out.kept (row := none) ⟨hza.os, hza.tape, hza.output, hza.size, fun k hk _ => hza.block k hk⟩ (by simp)); obtain ⟨w6, hrun6, hown6, hgr6⟩ := hma.out.update (string_keyed Tryz.underlying9) Tryz.underlying40 (by unfold maxLen; omega) (keyOf_string_mk Tryz.underlying9 hpx) (Sp.rd_mk (Sp.wh x) (Sp.tx x) x.ver); have HO6 := hid hown6; have j0 := (hza.cell (p := ⟨wr.heap.size, 0, none⟩) (by simp [hszz])).trans z0; have j1 := (hza.cell (p := ⟨wr.heap.size, 1, none⟩) (by simp [hszz])).trans z1; have j2 := (hza.cell (p := ⟨wr.heap.size, 2, none⟩) (by simp [hszz])).trans z2; have j3 := (hza.cell (p := ⟨wr.heap.size, 3, none⟩) (by simp [hszz])).trans z3; have hsza := hza.size; have i0 := (hgr6.cell_far ⟨wr.heap.size, 0, none⟩ (by show wr.heap.size < wa.heap.size; omega) (by simp; omega)).trans j0; have i1 := (hgr6.cell_far ⟨wr.heap.size, 1, none⟩ (by show wr.heap.size < wa.heap.size; omega) (by simp; omega)).trans j1; have i2 := (hgr6.cell_far ⟨wr.heap.size, 2, none⟩ (by show wr.heap.size < wa.heap.size; omega) (by simp; omega)).trans j2; have i3 := (hgr6.cell_far ⟨wr.heap.size, 3, none⟩ (by show wr.heap.size < wa.heap.size; omega) (by simp; omega)).trans j3; clear hown6))
      have hbel6 : Below w.heap.size w w6 := (below_trans hbel2 hza).grown hgr6 (by omega) (fun k hk => by simp at hk; omega)
      have hsz6 := hgr6.size
      have HO7 : Hid (w6.ownsMap Tryz.prog 9 Sp.rd w.heap.size (k + 1) (Sp.D (L.take (k + 1)))) := (by rw [HSN.out]; exact HO6.out : w6.ownsMap Tryz.prog 9 Sp.rd w.heap.size (k + 1) (Sp.D (L.take (k + 1))))
      clear HO6 HSN
      go_wp2_with fail
      go_roundw
      case rel => exact ⟨k + 1, by omega, by simp, hbel6, by omega, HO7⟩
      case measure => simp [intOf]; omega
    · obtain rfl : k = L.length := by omega
      have HM2 : Hid (wr.ownsMap Tryz.prog 9 Sp.rd w.heap.size L.length (Sp.D L)) := (by have h := HM.out; rw [List.take_length] at h; exact h : wr.ownsMap Tryz.prog 9 Sp.rd w.heap.size L.length (Sp.D L))
      clear HM
      go_wp2_with fail
      go_ret
      exact ⟨_, rfl, Nat.le_refl _, HM2.out, hbel⟩

/-- Texts in a slice of one's own. -/
def LiesP (B : Nat) (w : World) (v : Value) (Ps : List ByteArray) : Prop := ∃ a cap, v = .slice a Ps.length cap ∧ Ps.length ≤ cap ∧ ∀ i (h : i < Ps.length), ∃ g, a = some ⟨g, 0, none⟩ ∧ B ≤ g ∧ g < w.heap.size ∧ w.cell? ⟨g, i, none⟩ = some (.string Ps[i])
theorem paths_good {b n : Nat} {w : World} {L : List En} (h : w.ownsMap Tryz.prog 9 Sp.rd b n (Sp.D L)) (hr : L.Pairwise (fun x y => Pp.lt x y = true)) (hn : L.length ≤ 1000) :
    Calls Tryz.prog 19 #[.map (some b)] w fun e w' => ∃ v, e = .returned v ∧ LiesP w.heap.size w' v (L.map (fun e => e.path)) ∧ Below w.heap.size w w' := by
  have hsz := Sp.D_size (Sp.apart_rise hr)
  refine (Tryz.paths_any b n _ Sp.rd w h (by rw [hsz]; unfold maxLen; omega) (by rw [hsz]; omega)).mono fun e w' ⟨v, ss, he, hp, hrow, hnil, hb⟩ => ?_
  have hl : ss.length = L.length := by
    have h1 := hp.length_eq
    have h2 := (Sp.D_keys (Sp.apart_rise hr)).length_eq
    rw [List.length_map] at h2
    omega
  rw [Sp.D_sorted hr hp, hl] at hrow
  refine ⟨v, he, ?_, hb⟩
  have hrow' := hrow
  obtain ⟨_, h2⟩ := hrow
  rcases h2 with ⟨hv, hz⟩ | ⟨g, cap, cur, hv, hg, hh, hn2, hm, hz, htake⟩
  · subst hv
    have : L = [] := List.length_eq_zero_iff.1 hz
    subst this
    exact ⟨none, 0, rfl, Nat.le_refl _, fun i hi => absurd hi (by simp)⟩
  · subst hv
    refine ⟨some ⟨g, 0, none⟩, cap, by rw [List.length_map], by rw [List.length_map]; exact hn2, fun i hi => ⟨g, rfl, hg, ?_, ?_⟩⟩
    · rcases Nat.lt_or_ge g w'.heap.size with h | h
      · exact h
      · rw [Array.getElem?_eq_none h] at hh; cases hh
    · rw [List.length_map] at hi
      rw [hrow'.cellAt i (by omega)]
      simp only [List.map_map, List.getElem?_map, List.getElem?_eq_getElem hi, Option.map_some, List.getElem_map, Function.comp]
end Go.Proofs.YtogbahkoijkclaaGreat
namespace Go.Proofs.YtogbahkoijkclaaGreat
open Go.RowKit Go.Maps Go.WideMaps

namespace Sp
def wAt (L : List En) (p : List UInt8) : Int := match at_ L p with | some e => wh e | none => 0
def tAt (L : List En) (p : List UInt8) : ByteArray := match at_ L p with | some e => tx e | none => ⟨#[]⟩
def vAt (L : List En) (p : List UInt8) : Int := match at_ L p with | some e => e.ver | none => 0
theorem val_eq (L : List En) (p : List UInt8) : val L p = .agg #[.int .i64 (wAt L p), .string (tAt L p), .int .i64 (vAt L p)] := by
  rw [val, wAt, tAt, vAt]
  cases at_ L p <;> rfl
theorem at_self {L : List En} (h : Apart L) {e : En} (he : e ∈ L) : at_ L e.path.data.toList = some e := by
  induction L with
  | nil => cases he
  | cons a r ih =>
    rw [Apart, List.pairwise_cons] at h
    rcases List.mem_cons.1 he with rfl | he'
    · rw [at_, List.find?_cons_of_pos (atB_iff.2 rfl)]
    · have hne : ¬ Pp.atB e.path.data.toList a = true := fun hh => h.1 e he' (atB_iff.1 hh)
      rw [at_, List.find?_cons_of_neg hne]
      exact ih h.2 he'
theorem wAt_self {L : List En} (h : Apart L) {e : En} (he : e ∈ L) : wAt L e.path.data.toList = wh e := by rw [wAt, at_self h he]
theorem tAt_self {L : List En} (h : Apart L) {e : En} (he : e ∈ L) : tAt L e.path.data.toList = tx e := by rw [tAt, at_self h he]
/-- Is there a folder to be in? -/
def hasP (M : List En) (p : List UInt8) : Bool := (Pp.par p == []) || (wAt M (Pp.par p) == 1)
theorem hasP_eq {M : List En} {p q : List UInt8} {a : Int} (h1 : Pp.par p = q) (h2 : wAt M q = a) : hasP M p = ((q == []) || (a == 1)) := by rw [hasP, h1, h2]
def goes (M : List En) (e : En) : Bool := (wh e != wAt M e.path.data.toList) && hasP M e.path.data.toList
def delC (e : En) : Pp.Ch := ⟨4, e.path, ⟨#[]⟩, ⟨#[]⟩, -1⟩
def dels (L M : List En) : List Pp.Ch := (L.filter (goes M)).map delC
def newB (L : List En) (e : En) : Bool := !((wh e == wAt L e.path.data.toList) && ((tx e).toList == (tAt L e.path.data.toList).toList))
def mkC (e : En) : Pp.Ch := if e.folder = true then ⟨1, e.path, ⟨#[]⟩, ⟨#[]⟩, -1⟩ else ⟨2, e.path, ⟨#[]⟩, e.text, -1⟩
def mks (L M : List En) : List Pp.Ch := (M.filter (newB L)).map mkC
end Sp
theorem ownsRow_low {w : World} {B B' : Nat} {e : TypeId} {size : Nat} {v : Value} {n : Nat} {xs : List Value} (h : w.ownsRow B e size v n xs) (hB : B' ≤ B) : w.ownsRow B' e size v n xs := by
  obtain ⟨h1, h2⟩ := h
  refine ⟨h1, ?_⟩
  rcases h2 with h2 | ⟨g, cap, cur, hv, hg, r⟩
  · exact .inl h2
  · exact .inr ⟨g, cap, cur, hv, Nat.le_trans hB hg, r⟩
theorem _root_.Go.World.ownsRow.kept9 {w w' : World} {B : Nat} {e : TypeId} {size : Nat} {v : Value} {n : Nat} {xs : List Value} (h : w.ownsRow B e size v n xs) (hw : Below w.heap.size w w') : w'.ownsRow B e size v n xs := by
  obtain ⟨h1, h2⟩ := h
  refine ⟨h1, ?_⟩
  rcases h2 with h2 | ⟨g, cap, cur, hv, hg, hh, r⟩
  · exact .inl h2
  · have hlt : g < w.heap.size := by
      rcases Nat.lt_or_ge g w.heap.size with h | h
      · exact h
      · rw [Array.getElem?_eq_none h] at hh; cases hh
    exact .inr ⟨g, cap, cur, hv, hg, (hw.block g hlt).trans hh, r⟩
namespace Pp
def flatC (l : List Ch) : List Value := l.flatMap cellsC
theorem flatC_snoc (l : List Ch) (c : Ch) : flatC l ++ cellsC c = flatC (l ++ [c]) := by simp [flatC]
theorem filter_hitE {L : List En} {k : Nat} (h : k < L.length) {pr : En → Bool} (hp : pr L[k] = true) : (L.take (k + 1)).filter pr = (L.take k).filter pr ++ [L[k]] := by
  rw [List.take_succ_eq_append_getElem h, List.filter_append]; simp [hp]
theorem filter_missE {L : List En} {k : Nat} (h : k < L.length) {pr : En → Bool} (hp : pr L[k] = false) : (L.take (k + 1)).filter pr = (L.take k).filter pr := by
  rw [List.take_succ_eq_append_getElem h, List.filter_append]; simp [hp]
end Pp

theorem Tryz.fieldWhat (a : Int) (s : ByteArray) (n : Int) (W : World) : (Instr.field 49 (.agg #[.int .i64 a, .string s, .int .i64 n]) 0).run Tryz.prog W = .ok (.int .i64 a) W := by
  have h : (Instr.field 49 (.agg #[.int .i64 a, .string s, .int .i64 n]) 0).run Tryz.prog W = .ok (#[Value.int .i64 a, Value.string s, Value.int .i64 n][0]) W := by
    simp [Instr.field, run_underlying Tryz.underlying49, asAgg, part, go_sem]
    try rfl
  exact h

set_option maxHeartbeats 1000000 in
theorem like_any (a b : Int) (s t : ByteArray) (m n : Int) (w : World) :
    Calls Tryz.prog 21 #[.agg #[.int .i64 a, .string s, .int .i64 m], .agg #[.int .i64 b, .string t, .int .i64 n]] w fun e w' => e = .returned (.bool ((a == b) && (s.toList == t.toList))) ∧ Below w.heap.size w w' := by
  cases h : (a == b) with
  | false => exact like_no a b s t m n h w
  | true =>
    go_enter Tryz.func21, Tryz.ntmps21
    go_wp2
    go_ret
    exact ⟨by simp, ((Below.refl _ _).alloc (Nat.le_refl _) _).alloc (by simp) _⟩

theorem made_any (x : En) (w : World) :
    Calls Tryz.prog 22 #[.string x.path, .agg #[.int .i64 (Sp.wh x), .string (Sp.tx x), .int .i64 x.ver]] w fun e w' => e = .returned (.agg #[.int .i64 (Sp.mkC x).k, .string (Sp.mkC x).p, .string (Sp.mkC x).q, .string (Sp.mkC x).t, .int .i64 (Sp.mkC x).b]) ∧ Below w.heap.size w w' := by
  obtain ⟨p, f, t, n⟩ := x
  cases f with
  | false => exact made_file p t n w
  | true =>
    show Calls Tryz.prog 22 #[.string p, .agg #[.int .i64 1, .string ⟨#[]⟩, .int .i64 n]] w fun e w' => e = .returned (.agg #[.int .i64 1, .string p, .string ⟨#[]⟩, .string ⟨#[]⟩, .int .i64 (-1)]) ∧ Below w.heap.size w w'
    go_enter Tryz.func22, Tryz.ntmps22
    go_wp2_with fail
    refine bodyPost_ret (v := .agg #[.int .i64 1, .string p, .string ⟨#[]⟩, .string ⟨#[]⟩, .int .i64 (-1)]) (by simp [results, Tryz.results22, go_sem]) rfl ⟨rfl, ?_⟩
    exact ((Below.refl _ _).alloc (Nat.le_refl _) _).alloc (by simp) _

set_option maxRecDepth 100000 in
set_option maxHeartbeats 1000000 in
theorem hasParent_any {c n : Nat} {w : World} {M : List En} (h : w.ownsMap Tryz.prog 9 Sp.rd c n (Sp.D M)) (hM : Sp.Apart M) (p : ByteArray) (hp : p.size ≤ 1000000000) (hc : Pp.chk p.data.toList = 0) (hl : (Pp.par p.data.toList).length ≤ p.size) :
    Calls Tryz.prog 20 #[.map (some c), .string p] w fun e w' => e = .returned (.bool (Sp.hasP M p.data.toList)) ∧ Below w.heap.size w w' := by
  have hclt := h.lt
  have hsz : (⟨(Pp.par p.data.toList).toArray⟩ : ByteArray).size ≤ maxLen := by
    show (Pp.par p.data.toList).toArray.size ≤ _
    rw [List.size_toArray]; unfold maxLen; omega
  have HLK : Hid (∀ W, Below w.heap.size w W → (Instr.lookup 40 (.map (some c)) (.string ⟨(Pp.par p.data.toList).toArray⟩) false).run Tryz.prog W = .ok (.agg #[.int .i64 (Sp.wAt M (Pp.par p.data.toList)), .string (Sp.tAt M (Pp.par p.data.toList)), .int .i64 (Sp.vAt M (Pp.par p.data.toList))]) W) := (fun W hW => by
    have := spotAt_any (omap_below h hW hclt) hM ⟨(Pp.par p.data.toList).toArray⟩ hsz
    rw [Sp.val_eq] at this
    exact this : ∀ W, Below w.heap.size w W → (Instr.lookup 40 (.map (some c)) (.string ⟨(Pp.par p.data.toList).toArray⟩) false).run Tryz.prog W = .ok (.agg #[.int .i64 (Sp.wAt M (Pp.par p.data.toList)), .string (Sp.tAt M (Pp.par p.data.toList)), .int .i64 (Sp.vAt M (Pp.par p.data.toList))]) W)
  have HC := hid hc
  clear h hc
  have hfd := Tryz.fieldWhat
  go_enter Tryz.func20, Tryz.ntmps20
  go_wp2_with fail
  refine (parent_any p _ (by omega)).mono ?_
  rintro e w1 ⟨rfl, hb1⟩
  rw [HC.out, Pp.ifc_yes rfl]
  have hlk := HLK.out w1 hb1
  generalize hqq : Pp.par p.data.toList = q at *
  generalize haa : Sp.wAt M q = a at *
  have HQQ := hid (Sp.hasP_eq hqq haa)
  clear hqq haa
  cases hq : (q == ([] : List UInt8)) with
  | true =>
    have hq2 : ((⟨q.toArray⟩ : ByteArray).toList == (⟨#[]⟩ : ByteArray).toList) = true := by
      have : q = [] := by simpa using hq
      subst this; simp
    go_wp2
    go_ret
    exact ⟨by rw [HQQ.out, hq]; simp, hb1⟩
  | false =>
    have hq2 : ((⟨q.toArray⟩ : ByteArray).toList == (⟨#[]⟩ : ByteArray).toList) = false := by
      rw [Lib.toList_data, Lib.toList_data]
      simpa using hq
    go_wp2
    go_ret
    exact ⟨by rw [HQQ.out, hq]; simp, hb1⟩

set_option maxRecDepth 100000 in
set_option maxHeartbeats 4000000 in
theorem deletes_any {b c n m : Nat} {w : World} {L M : List En} (h : w.ownsMap Tryz.prog 9 Sp.rd b n (Sp.D L)) (ho : w.ownsMap Tryz.prog 9 Sp.rd c m (Sp.D M)) (hL : L.Pairwise (fun x y => Pp.lt x y = true)) (hM : Sp.Apart M) (hn : L.length ≤ 1000) (hp : ∀ e ∈ L, e.path.size ≤ 1000000000 ∧ Pp.chk e.path.data.toList = 0 ∧ (Pp.par e.path.data.toList).length ≤ e.path.size) :
    Calls Tryz.prog 11 #[.map (some b), .map (some c)] w fun e w' => ∃ v, e = .returned v ∧ w'.ownsRow w.heap.size 37 5 v (Sp.dels L M).length (Pp.flatC (Sp.dels L M)) ∧ Below w.heap.size w w' := by
  obtain ⟨i0, hi0, hz0, hz1, hz2⟩ := info_parts Tryz.infoChg
  have hblt := h.lt
  have hclt := ho.lt
  have hap := Sp.apart_rise hL
  have HB := hid h
  have HLK : Hid (∀ x ∈ L, ∀ W, Below w.heap.size w W → (Instr.lookup 40 (.map (some b)) (.string x.path) false).run Tryz.prog W = .ok (.agg #[.int .i64 (Sp.wh x), .string (Sp.tx x), .int .i64 x.ver]) W ∧ (Instr.lookup 40 (.map (some c)) (.string x.path) false).run Tryz.prog W = .ok (.agg #[.int .i64 (Sp.wAt M x.path.data.toList), .string (Sp.tAt M x.path.data.toList), .int .i64 (Sp.vAt M x.path.data.toList)]) W) := (fun x hx W hW => by
    have hs : x.path.size ≤ maxLen := by have := (hp x hx).1; unfold maxLen; omega
    have h1 := spotAt_any (omap_below h hW hblt) hap x.path hs
    have h2 := spotAt_any (omap_below ho hW hclt) hM x.path hs
    rw [Sp.val, Sp.at_self hap hx] at h1
    rw [Sp.val_eq] at h2
    exact ⟨h1, h2⟩ : ∀ x ∈ L, ∀ W, Below w.heap.size w W → (Instr.lookup 40 (.map (some b)) (.string x.path) false).run Tryz.prog W = .ok (.agg #[.int .i64 (Sp.wh x), .string (Sp.tx x), .int .i64 x.ver]) W ∧ (Instr.lookup 40 (.map (some c)) (.string x.path) false).run Tryz.prog W = .ok (.agg #[.int .i64 (Sp.wAt M x.path.data.toList), .string (Sp.tAt M x.path.data.toList), .int .i64 (Sp.vAt M x.path.data.toList)]) W)
  have HHP : Hid (∀ x ∈ L, ∀ W, Below w.heap.size w W → Calls Tryz.prog 20 #[.map (some c), .string x.path] W fun e w' => e = .returned (.bool (Sp.hasP M x.path.data.toList)) ∧ Below W.heap.size W w') := (fun x hx W hW => hasParent_any (omap_below ho hW hclt) hM x.path (hp x hx).1 (hp x hx).2.1 (hp x hx).2.2 : ∀ x ∈ L, ∀ W, Below w.heap.size w W → Calls Tryz.prog 20 #[.map (some c), .string x.path] W fun e w' => e = .returned (.bool (Sp.hasP M x.path.data.toList)) ∧ Below W.heap.size W w')
  have HL := hid hL
  clear h ho hp hap hL
  have hfd := Tryz.fieldWhat
  go_enter Tryz.func11, Tryz.ntmps11
  go_wp2_with fail
  refine (paths_good HB.out HL.out hn).mono ?_
  rintro e w1 ⟨v1, rfl, ⟨a1, cap1, rfl, hcap1, hcells⟩, hb1⟩
  have HCL := hid hcells
  rw [List.length_map] at hcap1 ⊢
  have hsz1 := hb1.size
  clear hcells
  go_wp2_with fail
  go_loopw [5, 11] (fun x i wr => ∃ k : Nat, k ≤ L.length ∧ i = .int .i64 k ∧ Below w1.heap.size w1 wr ∧ wr.ownsRow w1.heap.size 37 5 x (Sp.dels (L.take k) M).length (Pp.flatC (Sp.dels (L.take k) M))) (fun _ i _ => L.length - (intOf i).toNat)
  case atStart => exact ⟨0, Nat.zero_le _, rfl, Below.refl _ _, World.ownsRow_nil _ _ _ _⟩
  case round =>
    obtain ⟨k, hk, rfl, hbel, hown⟩ := hrel
    have hb0r : Below w.heap.size w wr := hb1.trans (hbel.mono hsz1)
    by_cases hlt : k < L.length
    · obtain ⟨g, rfl, hg1, hg2, hcell⟩ := HCL.out k (by rw [List.length_map]; exact hlt)
      rw [List.getElem_map] at hcell
      have c0 := (hbel.cell (p := ⟨g, k, none⟩) hg2).trans hcell
      have hmem : L[k] ∈ L := List.getElem_mem hlt
      obtain ⟨hl1, hl2⟩ := HLK.out L[k] hmem wr hb0r
      have HHK := hid (HHP.out L[k] hmem)
      have HHIT : Hid (Sp.goes M L[k] = true → Sp.dels (L.take (k + 1)) M = Sp.dels (L.take k) M ++ [Sp.delC L[k]]) := (fun hh => by rw [Sp.dels, Pp.filter_hitE hlt hh, List.map_append]; rfl : Sp.goes M L[k] = true → Sp.dels (L.take (k + 1)) M = Sp.dels (L.take k) M ++ [Sp.delC L[k]])
      have HMISS : Hid (Sp.goes M L[k] = false → Sp.dels (L.take (k + 1)) M = Sp.dels (L.take k) M) := (fun hh => by rw [Sp.dels, Pp.filter_missE hlt hh]; rfl : Sp.goes M L[k] = false → Sp.dels (L.take (k + 1)) M = Sp.dels (L.take k) M)
      have hXl : (Sp.dels (L.take k) M).length ≤ 1000 := by
        have h1 : (Sp.dels (L.take k) M).length ≤ (L.take k).length := by rw [Sp.dels, List.length_map]; exact List.length_filter_le _ _
        have h2 := List.length_take_le k L
        omega
      have hrsz := hbel.size
      have HO := hid hown
      clear hown hcell hmem
      generalize L[k] = x at *
      generalize Sp.dels (L.take k) M = X at *
      cases hne : (Sp.wh x != Sp.wAt M x.path.data.toList) with
      | false =>
        have HX := hid (HMISS.out (by rw [Sp.goes, hne]; rfl))
        clear HHIT HMISS HHK
        generalize Sp.wAt M x.path.data.toList = wm at *
        generalize Sp.wh x = wx at *
        go_wp2_with fail
        go_roundw
        case rel => exact ⟨k + 1, by omega, by simp, hbel, by rw [HX.out]; exact HO.out⟩
        case measure => simp [intOf]; omega
      | true =>
        cases hhp : Sp.hasP M x.path.data.toList with
        | false =>
          have HX := hid (HMISS.out (by rw [Sp.goes, hne, hhp]; rfl))
          have HHPX := hid hhp
          clear HHIT HMISS hhp
          generalize Sp.wAt M x.path.data.toList = wm at *
          generalize Sp.wh x = wx at *
          go_wp2_with fail
          refine (HHK.out _ hb0r).mono ?_
          rintro e w2 ⟨rfl, hb2⟩
          rw [HHPX.out]
          have hbel2 := below_trans hbel hb2
          have HO2 := hid (HO.out.kept9 hb2)
          clear hb2 hl1 hl2 c0
          go_wp2_with fail
          go_roundw
          case rel => exact ⟨k + 1, by omega, by simp, hbel2, by rw [HX.out]; exact HO2.out⟩
          case measure => simp [intOf]; omega
        | true =>
          have HX := hid (HHIT.out (by rw [Sp.goes, hne, hhp]; rfl))
          have HHPX := hid hhp
          clear HHIT HMISS hhp
          generalize Sp.wAt M x.path.data.toList = wm at *
          generalize Sp.wh x = wx at *
          go_wp2_with fail
          refine (HHK.out _ hb0r).mono ?_
          rintro e w2 ⟨rfl, hb2⟩
          rw [HHPX.out]
          have hbel2 := below_trans hbel hb2
          have hO2 := HO.out.kept9 hb2
          have hsz2 := hbel2.size
          clear hb2 hl1 hl2 c0
          go_wp2_with (at_builtin; refine wpList_append_own _ rfl _ _ 24 rfl w1.heap.size 37 i0 (.agg #[.int .i64 0, .string ⟨#[]⟩, .string ⟨#[]⟩, .string ⟨#[]⟩, .int .i64 0]) 5 64 Tryz.underlying24 hi0 hz0 hz1 hz2 rfl (by decide) _ _ _ rfl (hO2.alloc _) ⟨w2.heap.size, 0, none⟩ 1 1 (Pp.cellsC (Sp.delC x)) rfl rfl (new_cellsC w2 (Sp.delC x) _) (Pp.cellsC_one _) (by unfold maxLen; omega) (by omega) (by simp; omega) ?_)
          intro v5 w5 ho5 hgr5 hnn5
          have hbel5 : Below w1.heap.size w1 w5 := (hbel2.alloc hbel2.size _).grown hgr5 (by simp; omega) (fun q hq => (hO2.lt q hq).1)
          rw [Pp.flatC_snoc] at ho5
          have HO5 : Hid (w5.ownsRow w1.heap.size 37 5 v5 (X ++ [Sp.delC x]).length (Pp.flatC (X ++ [Sp.delC x]))) := (by rw [List.length_append]; exact ho5 : w5.ownsRow w1.heap.size 37 5 v5 (X ++ [Sp.delC x]).length (Pp.flatC (X ++ [Sp.delC x])))
          clear ho5 hgr5 hnn5 hO2
          go_wp2_with fail
          go_roundw
          case rel => exact ⟨k + 1, by omega, by simp, hbel5, by rw [HX.out]; exact HO5.out⟩
          case measure => simp [intOf]; omega
    · obtain rfl : k = L.length := by omega
      rw [List.take_length] at hown
      have HO := hid (ownsRow_low hown hsz1)
      clear hown
      go_wp2_with fail
      go_ret
      exact ⟨_, rfl, HO.out, hb0r⟩
end Go.Proofs.YtogbahkoijkclaaGreat
namespace Go.Proofs.YtogbahkoijkclaaGreat
open Go.RowKit Go.Maps Go.WideMaps

set_option maxRecDepth 100000 in
set_option maxHeartbeats 4000000 in
theorem makes_any {b c n m : Nat} {w : World} {L M : List En} (h : w.ownsMap Tryz.prog 9 Sp.rd b n (Sp.D L)) (ho : w.ownsMap Tryz.prog 9 Sp.rd c m (Sp.D M)) (hM : M.Pairwise (fun x y => Pp.lt x y = true)) (hL : Sp.Apart L) (hn : M.length ≤ 1000) (hp : ∀ e ∈ M, e.path.size ≤ 1000000000) :
    Calls Tryz.prog 12 #[.map (some b), .map (some c)] w fun e w' => ∃ v, e = .returned v ∧ w'.ownsRow w.heap.size 37 5 v (Sp.mks L M).length (Pp.flatC (Sp.mks L M)) ∧ Below w.heap.size w w' := by
  obtain ⟨i0, hi0, hz0, hz1, hz2⟩ := info_parts Tryz.infoChg
  have hblt := h.lt
  have hclt := ho.lt
  have hap := Sp.apart_rise hM
  have HC := hid ho
  have HLK : Hid (∀ x ∈ M, ∀ W, Below w.heap.size w W → (Instr.lookup 40 (.map (some c)) (.string x.path) false).run Tryz.prog W = .ok (.agg #[.int .i64 (Sp.wh x), .string (Sp.tx x), .int .i64 x.ver]) W ∧ (Instr.lookup 40 (.map (some b)) (.string x.path) false).run Tryz.prog W = .ok (.agg #[.int .i64 (Sp.wAt L x.path.data.toList), .string (Sp.tAt L x.path.data.toList), .int .i64 (Sp.vAt L x.path.data.toList)]) W) := (fun x hx W hW => by
    have hs : x.path.size ≤ maxLen := by have := hp x hx; unfold maxLen; omega
    have h1 := spotAt_any (omap_below ho hW hclt) hap x.path hs
    have h2 := spotAt_any (omap_below h hW hblt) hL x.path hs
    rw [Sp.val, Sp.at_self hap hx] at h1
    rw [Sp.val_eq] at h2
    exact ⟨h1, h2⟩ : ∀ x ∈ M, ∀ W, Below w.heap.size w W → (Instr.lookup 40 (.map (some c)) (.string x.path) false).run Tryz.prog W = .ok (.agg #[.int .i64 (Sp.wh x), .string (Sp.tx x), .int .i64 x.ver]) W ∧ (Instr.lookup 40 (.map (some b)) (.string x.path) false).run Tryz.prog W = .ok (.agg #[.int .i64 (Sp.wAt L x.path.data.toList), .string (Sp.tAt L x.path.data.toList), .int .i64 (Sp.vAt L x.path.data.toList)]) W)
  have HM := hid hM
  clear h ho hp hap hM
  have hfd := Tryz.fieldWhat
  go_enter Tryz.func12, Tryz.ntmps12
  go_wp2_with fail
  refine (paths_good HC.out HM.out hn).mono ?_
  rintro e w1 ⟨v1, rfl, ⟨a1, cap1, rfl, hcap1, hcells⟩, hb1⟩
  have HCL := hid hcells
  rw [List.length_map] at hcap1 ⊢
  have hsz1 := hb1.size
  clear hcells
  go_wp2_with fail
  go_loopw [5, 11] (fun x i wr => ∃ k : Nat, k ≤ M.length ∧ i = .int .i64 k ∧ Below w1.heap.size w1 wr ∧ wr.ownsRow w1.heap.size 37 5 x (Sp.mks L (M.take k)).length (Pp.flatC (Sp.mks L (M.take k)))) (fun _ i _ => M.length - (intOf i).toNat)
  case atStart => exact ⟨0, Nat.zero_le _, rfl, Below.refl _ _, World.ownsRow_nil _ _ _ _⟩
  case round =>
    obtain ⟨k, hk, rfl, hbel, hown⟩ := hrel
    have hb0r : Below w.heap.size w wr := hb1.trans (hbel.mono hsz1)
    by_cases hlt : k < M.length
    · obtain ⟨g, rfl, hg1, hg2, hcell⟩ := HCL.out k (by rw [List.length_map]; exact hlt)
      rw [List.getElem_map] at hcell
      have c0 := (hbel.cell (p := ⟨g, k, none⟩) hg2).trans hcell
      have hmem : M[k] ∈ M := List.getElem_mem hlt
      obtain ⟨hl1, hl2⟩ := HLK.out M[k] hmem wr hb0r
      have HLX := hid (HLK.out M[k] hmem)
      have HHIT : Hid (Sp.newB L M[k] = true → Sp.mks L (M.take (k + 1)) = Sp.mks L (M.take k) ++ [Sp.mkC M[k]]) := (fun hh => by rw [Sp.mks, Pp.filter_hitE hlt hh, List.map_append]; rfl : Sp.newB L M[k] = true → Sp.mks L (M.take (k + 1)) = Sp.mks L (M.take k) ++ [Sp.mkC M[k]])
      have HMISS : Hid (Sp.newB L M[k] = false → Sp.mks L (M.take (k + 1)) = Sp.mks L (M.take k)) := (fun hh => by rw [Sp.mks, Pp.filter_missE hlt hh]; rfl : Sp.newB L M[k] = false → Sp.mks L (M.take (k + 1)) = Sp.mks L (M.take k))
      have hXl : (Sp.mks L (M.take k)).length ≤ 1000 := by
        have h1 : (Sp.mks L (M.take k)).length ≤ (M.take k).length := by rw [Sp.mks, List.length_map]; exact List.length_filter_le _ _
        have h2 := List.length_take_le k M
        omega
      have hrsz := hbel.size
      have HO := hid hown
      clear hown hcell hmem
      generalize M[k] = x at *
      generalize Sp.mks L (M.take k) = X at *
      cases hlk : ((Sp.wh x == Sp.wAt L x.path.data.toList) && ((Sp.tx x).toList == (Sp.tAt L x.path.data.toList).toList)) with
      | true =>
        have HX := hid (HMISS.out (by rw [Sp.newB, hlk]; rfl))
        have HLI := hid hlk
        clear HHIT HMISS hlk
        go_wp2_with fail
        refine (like_any _ _ _ _ _ _ _).mono ?_
        rintro e w2 ⟨rfl, hb2⟩
        rw [HLI.out]
        have hbel2 := below_trans hbel hb2
        have HO2 := hid (HO.out.kept9 hb2)
        clear hb2 hl1 hl2 c0
        go_wp2_with fail
        go_roundw
        case rel => exact ⟨k + 1, by omega, by simp, hbel2, by rw [HX.out]; exact HO2.out⟩
        case measure => simp [intOf]; omega
      | false =>
        have HX := hid (HHIT.out (by rw [Sp.newB, hlk]; rfl))
        have HLI := hid hlk
        clear HHIT HMISS hlk
        go_wp2_with fail
        refine (like_any _ _ _ _ _ _ _).mono ?_
        rintro e w2 ⟨rfl, hb2⟩
        rw [HLI.out]
        have hbel2 := below_trans hbel hb2
        have hb02 := below_trans hb0r hb2
        have HO2 := hid (HO.out.kept9 hb2)
        clear hb2 hl1 hl2
        obtain ⟨hl1, hl2⟩ := HLX.out w2 hb02
        go_wp2_with fail
        refine (made_any x _).mono ?_
        rintro e w3 ⟨rfl, hb3⟩
        have hbel3 := below_trans hbel2 hb3
        have hO3 := HO2.out.kept9 hb3
        have hsz3 := hbel3.size
        clear hb3 hl1 hl2 c0
        go_wp2_with (at_builtin; refine wpList_append_own _ rfl _ _ 24 rfl w1.heap.size 37 i0 (.agg #[.int .i64 0, .string ⟨#[]⟩, .string ⟨#[]⟩, .string ⟨#[]⟩, .int .i64 0]) 5 64 Tryz.underlying24 hi0 hz0 hz1 hz2 rfl (by decide) _ _ _ rfl (hO3.alloc _) ⟨w3.heap.size, 0, none⟩ 1 1 (Pp.cellsC (Sp.mkC x)) rfl rfl (new_cellsC w3 (Sp.mkC x) _) (Pp.cellsC_one _) (by unfold maxLen; omega) (by omega) (by simp; omega) ?_)
        intro v5 w5 ho5 hgr5 hnn5
        have hbel5 : Below w1.heap.size w1 w5 := (hbel3.alloc hbel3.size _).grown hgr5 (by simp; omega) (fun q hq => (hO3.lt q hq).1)
        rw [Pp.flatC_snoc] at ho5
        have HO5 : Hid (w5.ownsRow w1.heap.size 37 5 v5 (X ++ [Sp.mkC x]).length (Pp.flatC (X ++ [Sp.mkC x]))) := (by rw [List.length_append]; exact ho5 : w5.ownsRow w1.heap.size 37 5 v5 (X ++ [Sp.mkC x]).length (Pp.flatC (X ++ [Sp.mkC x])))
        clear ho5 hgr5 hnn5 hO3
        go_wp2_with fail
        go_roundw
        case rel => exact ⟨k + 1, by omega, by simp, hbel5, by rw [HX.out]; exact HO5.out⟩
        case measure => simp [intOf]; omega
    · obtain rfl : k = M.length := by omega
      rw [List.take_length] at hown
      have HO := hid (ownsRow_low hown hsz1)
      clear hown
      go_wp2_with fail
      go_ret
      exact ⟨_, rfl, HO.out, hb0r⟩
end Go.Proofs.YtogbahkoijkclaaGreat
namespace Go.Proofs.YtogbahkoijkclaaGreat
open Go.RowKit Go.Maps Go.WideMaps

/-- What may be appended: nil, or so many records that lie at an address. -/
def SrcC (w : World) (sx : Value) (m size : Nat) (news : List Value) : Prop := (sx = .slice none 0 0 ∧ m = 0 ∧ news = []) ∨ ∃ ad c, sx = .slice (some ad) m c ∧ news.length = m * size ∧ (∀ j u, news[j]? = some u → w.cell? (ad.add j) = some u)
theorem SrcC.own {w : World} {B : Nat} {e : TypeId} {size : Nat} {v : Value} {n : Nat} {xs : List Value} (h : w.ownsRow B e size v n xs) : SrcC w v n size xs := by
  have h' := h
  obtain ⟨hl, h2⟩ := h
  rcases h2 with ⟨rfl, rfl⟩ | ⟨g, cap, cur, rfl, hg, hh, hn, hm, hz, htake⟩
  · exact Or.inl ⟨rfl, rfl, List.length_eq_zero_iff.1 (by rw [hl]; simp)⟩
  · refine Or.inr ⟨⟨g, 0, none⟩, cap, rfl, hl, fun j u hj => ?_⟩
    have hadd : (⟨g, 0, none⟩ : Addr).add j = ⟨g, j, none⟩ := by unfold Addr.add; split <;> simp_all
    have hlt : j < n * size := by
      have := (List.getElem?_eq_some_iff.1 hj).1
      omega
    rw [hadd, h'.cellAt j hlt]
    exact hj
theorem wpList_append_may {P : Program} {w : World} {ops : Array Oper} {rest : List Oper} {o : Oper} {a : Act} {Q : Exit → Act → World → Prop} (hgd : o.guard = none)
    (s x : Operand) (t : TypeId) (hop : o.op = Op.call { callee := Callee.builtin Builtin.append, args := #[s, x], argTypes := #[t, t] })
    (base : Nat) (e : TypeId) (i : TypeInfo) (z : Value) (size bytes : Nat) (ht : P.underlying t = some (.slice e)) (hi : P.info? e = some i) (hz : i.zero = some z)
    (hsize : i.size = size) (hby : i.bytes = bytes) (hzs : z.cells.size = size) (hsz : 0 < size)
    (v : Value) (n : Nat) (xs : List Value) (hs : a.eval s = v) (hown : w.ownsRow base e size v n xs)
    (sx : Value) (m : Nat) (news : List Value) (hx : a.eval x = sx) (hsx : SrcC w sx m size news) (h1 : ∀ u ∈ news, u.oneCell' = true)
    (h63 : n + m ≤ maxLen) (hbytes : (n + m) * bytes ≤ 140737488355328) (hbase : base ≤ w.heap.size)
    (h : ∀ v' w', w'.ownsRow base e size v' (n + m) (xs ++ news) → w.grownBy w' v.ownBlock → wpList P ops Q rest (a.put o.dst v') w') :
    wpList P ops Q (o :: rest) a w := by
  rcases hsx with ⟨rfl, rfl, rfl⟩ | ⟨ad, c, rfl, hl, hnews⟩
  · refine wpList_plain hgd fun K hK => ?_
    have hrun := run_append_owned_none (P := P) (w := w) base t o.type e i size ht hi v n xs hown
    unfold Oper.wp
    simp [execOp, hop, resolve, invoke, builtin, hs, hx, hrun, Result.andThen]
    exact hK _ _ (h v w (by simpa using hown) (World.grownBy.refl _ _))
  · exact wpList_append_own w hgd s x t hop base e i z size bytes ht hi hz hsize hby hzs hsz v n xs hs hown ad m c news hx hl hnews h1 h63 hbytes hbase fun v' w' h1 h2 _ => h v' w' h1 h2

namespace Sp
def dfE (A B : List En) : Int := if Pp.treeE A = 0 then Pp.treeE B else Pp.treeE A
def dfL (A B : List En) : List Pp.Ch := if dfE A B = 0 then dels A B ++ mks A B else []
theorem flatC_one (l : List Pp.Ch) : ∀ u ∈ Pp.flatC l, u.oneCell' = true := by
  intro u hu
  obtain ⟨s, _, hs⟩ := List.mem_flatMap.1 hu
  exact Pp.cellsC_one s u hs
theorem flatC_app (a b : List Pp.Ch) : Pp.flatC (a ++ b) = Pp.flatC a ++ Pp.flatC b := by simp [Pp.flatC]
theorem dels_len (A B : List En) : (dels A B).length ≤ A.length := by rw [dels, List.length_map]; exact List.length_filter_le _ _
theorem mks_len (A B : List En) : (mks A B).length ≤ B.length := by rw [mks, List.length_map]; exact List.length_filter_le _ _
theorem par_le {p : List UInt8} : (Pp.par p).length ≤ p.length := Pp.len_par p
end Sp

set_option maxRecDepth 100000 in
set_option maxHeartbeats 2000000 in
theorem diff_any (A B : List En) (va vb : Value) (w : World) (hA : Lies w va A) (hB : Lies w vb B) (hsA : Sized A) (hsB : Sized B) :
    Calls Tryz.prog 5 #[va, vb] w fun e w' => ∃ u, e = .returned (.tuple #[u, .int .i64 (Sp.dfE A B)]) ∧ w'.ownsRow w.heap.size 37 5 u (Sp.dfL A B).length (Pp.flatC (Sp.dfL A B)) ∧ Below w.heap.size w w' := by
  obtain ⟨i0, hi0, hz0, hz1, hz2⟩ := info_parts Tryz.infoChg
  have HVA := hid hA
  have HVB := hid hB
  have HSA := hid hsA
  have HSB := hid hsB
  clear hA hB hsA hsB
  by_cases ha : Pp.treeE A = 0
  · by_cases hb : Pp.treeE B = 0
    · have hdz : Sp.dfE A B = 0 := by rw [Sp.dfE, if_pos ha, hb]
      have HDL : Hid (Sp.dfL A B = Sp.dels A B ++ Sp.mks A B) := (by rw [Sp.dfL, if_pos hdz] : Sp.dfL A B = Sp.dels A B ++ Sp.mks A B)
      have HDZ := hid hdz
      have hgA := (Pp.good_iff A).1 ha
      have hgB := (Pp.good_iff B).1 hb
      have HGA := hid hgA
      have HGB := hid hgB
      have hlA := hgA.len
      have hlB := hgB.len
      have hdl := Sp.dels_len A B
      have hml := Sp.mks_len A B
      have HPA : Hid (∀ e ∈ A, e.path.size ≤ 1000000000 ∧ Pp.chk e.path.data.toList = 0 ∧ (Pp.par e.path.data.toList).length ≤ e.path.size) := (fun e he => by
        have h1 := Pp.chk_len (Pp.entE_path (hgA.ents e he))
        have h2 : e.path.data.toList.length = e.path.size := by rw [Lib.size_eq]
        exact ⟨by omega, Pp.entE_path (hgA.ents e he), by rw [← h2]; exact Sp.par_le⟩ : ∀ e ∈ A, e.path.size ≤ 1000000000 ∧ Pp.chk e.path.data.toList = 0 ∧ (Pp.par e.path.data.toList).length ≤ e.path.size)
      have HPB : Hid (∀ e ∈ B, e.path.size ≤ 1000000000) := (fun e he => by
        have h1 := Pp.chk_len (Pp.entE_path (hgB.ents e he))
        have h2 : e.path.data.toList.length = e.path.size := by rw [Lib.size_eq]
        omega : ∀ e ∈ B, e.path.size ≤ 1000000000)
      have HTA := hid ha
      have HTB := hid hb
      clear ha hb hdz hgA hgB
      go_enter Tryz.func5, Tryz.ntmps5
      go_wp2_with fail
      refine (tcheck_all A _ _ HVA.out HSA.out).mono ?_
      rintro e w1 ⟨rfl, hb1⟩
      rw [HTA.out]
      go_wp2_with fail
      refine (tcheck_all B _ _ (HVB.out.below hb1) HSB.out).mono ?_
      rintro e w2 ⟨rfl, hb2⟩
      rw [HTB.out]
      have hb02 := below_trans hb1 hb2
      clear hb1 hb2
      go_wp2_with fail
      refine (spotOf_any A _ _ (HVA.out.below hb02) (by omega) (fun e he => by have := (HPA.out e he).1; unfold maxLen; omega)).mono ?_
      rintro e w3 ⟨b, rfl, hbb, hob, hb3⟩
      have HOB := hid hob
      have hb03 := below_trans hb02 hb3
      clear hb3 hob
      go_wp2_with fail
      refine (spotOf_any B _ _ (HVB.out.below hb03) (by omega) (fun e he => by have := HPB.out e he; unfold maxLen; omega)).mono ?_
      rintro e w4 ⟨c, rfl, hcc, hoc, hb4⟩
      have HOC := hid hoc
      have HOB4 := hid (omap_below HOB.out hb4 HOB.out.lt)
      have hb04 := below_trans hb03 hb4
      clear hb4 hoc
      go_wp2_with fail
      refine (deletes_any HOB4.out HOC.out HGA.out.rise (Sp.apart_rise HGB.out.rise) (by omega) HPA.out).mono ?_
      rintro e w5 ⟨v5, rfl, hr5, hb5⟩
      have HOB5 := hid (omap_below HOB4.out hb5 HOB4.out.lt)
      have HOC5 := hid (omap_below HOC.out hb5 HOC.out.lt)
      have HR5 := hid hr5
      have hb05 := below_trans hb04 hb5
      clear hb5 hr5
      go_wp2_with fail
      refine (makes_any HOB5.out HOC5.out HGB.out.rise (Sp.apart_rise HGA.out.rise) (by omega) HPB.out).mono ?_
      rintro e w6 ⟨v6, rfl, hr6, hb6⟩
      have HR56 := hid (HR5.out.kept9 hb6)
      have HR6 := hid (SrcC.own hr6)
      have hb06 := below_trans hb05 hb6
      have hsz6 := hb06.size
      have hsz4 := hb04.size
      clear hb6 hr6
      go_wp2_with (at_builtin; refine wpList_append_may rfl _ _ 24 rfl w.heap.size 37 i0 (.agg #[.int .i64 0, .string ⟨#[]⟩, .string ⟨#[]⟩, .string ⟨#[]⟩, .int .i64 0]) 5 64 Tryz.underlying24 hi0 hz0 hz1 hz2 rfl (by decide) v5 (Sp.dels A B).length (Pp.flatC (Sp.dels A B)) rfl (ownsRow_low HR56.out hsz4) v6 (Sp.mks A B).length (Pp.flatC (Sp.mks A B)) rfl HR6.out (Sp.flatC_one _) (by unfold maxLen; omega) (by omega) hsz6 ?_)
      intro v7 w7 ho7 hgr7
      have hb07 : Below w.heap.size w w7 := hb06.grown hgr7 hsz6 (fun q hq => Nat.le_trans hsz4 (HR56.out.lt q hq).1)
      rw [← Sp.flatC_app] at ho7
      have HO7 : Hid (w7.ownsRow w.heap.size 37 5 v7 (Sp.dfL A B).length (Pp.flatC (Sp.dfL A B))) := (by rw [HDL.out, List.length_append]; exact ho7 : w7.ownsRow w.heap.size 37 5 v7 (Sp.dfL A B).length (Pp.flatC (Sp.dfL A B)))
      clear ho7 hgr7
      go_wp2_with fail
      go_ret2
      exact ⟨_, by rw [HDZ.out]; rfl, HO7.out, hb07⟩
    · have hE : Sp.dfE A B = Pp.treeE B := by rw [Sp.dfE, if_pos ha]
      have HE := hid hE
      have HL : Hid (Sp.dfL A B = []) := (by rw [Sp.dfL, if_neg (by rw [hE]; exact hb)] : Sp.dfL A B = [])
      have HTA := hid ha
      have hz : (Pp.treeE B == 0) = false := by simpa using hb
      clear ha hb hE
      go_enter Tryz.func5, Tryz.ntmps5
      go_wp2_with fail
      refine (tcheck_all A _ _ HVA.out HSA.out).mono ?_
      rintro e w1 ⟨rfl, hb1⟩
      rw [HTA.out]
      go_wp2_with fail
      refine (tcheck_all B _ _ (HVB.out.below hb1) HSB.out).mono ?_
      rintro e w2 ⟨rfl, hb2⟩
      have hb02 := below_trans hb1 hb2
      generalize hy : Pp.treeE B = y at *
      go_wp2_with fail
      go_ret2
      exact ⟨_, by rw [HE.out]; rfl, by rw [HL.out]; exact World.ownsRow_nil _ _ _ _, hb02⟩
  · have hE : Sp.dfE A B = Pp.treeE A := by rw [Sp.dfE, if_neg ha]
    have HE := hid hE
    have HL : Hid (Sp.dfL A B = []) := (by rw [Sp.dfL, if_neg (by rw [hE]; exact ha)] : Sp.dfL A B = [])
    have hz : (Pp.treeE A == 0) = false := by simpa using ha
    clear ha hE
    go_enter Tryz.func5, Tryz.ntmps5
    go_wp2_with fail
    refine (tcheck_all A _ _ HVA.out HSA.out).mono ?_
    rintro e w1 ⟨rfl, hb1⟩
    generalize hy : Pp.treeE A = y at *
    go_wp2_with fail
    go_ret2
    exact ⟨_, by rw [HE.out]; rfl, by rw [HL.out]; exact World.ownsRow_nil _ _ _ _, hb1⟩
end Go.Proofs.YtogbahkoijkclaaGreat
namespace Go.Proofs.YtogbahkoijkclaaGreat
open Go.RowKit

theorem own_slice {w : World} {B : Nat} {e : TypeId} {size : Nat} {v : Value} {n : Nat} {xs : List Value} (h : w.ownsRow B e size v n xs) : ∃ a cap, v = .slice a n cap := by
  obtain ⟨_, h2⟩ := h
  rcases h2 with ⟨rfl, rfl⟩ | ⟨g, cap, cur, rfl, _⟩
  · exact ⟨none, 0, rfl⟩
  · exact ⟨_, _, rfl⟩

def Sp.sameB (A B : List En) : Bool := (Sp.dfE A B == 0) && ((Sp.dfL A B).length == 0)

set_option maxRecDepth 100000 in
set_option maxHeartbeats 2000000 in
theorem same_any (A B : List En) (va vb : Value) (w : World) (hA : Lies w va A) (hB : Lies w vb B) (hsA : Sized A) (hsB : Sized B) :
    Calls Tryz.prog 6 #[va, vb] w fun e w' => e = .returned (.tuple #[.bool (Sp.sameB A B), .int .i64 (Sp.dfE A B)]) ∧ Below w.heap.size w w' := by
  have HVA := hid hA
  have HVB := hid hB
  have HSA := hid hsA
  have HSB := hid hsB
  clear hA hB hsA hsB
  obtain ⟨s, hs⟩ : ∃ s, s = Sp.sameB A B := ⟨_, rfl⟩
  obtain ⟨x, hx⟩ : ∃ x, x = Sp.dfE A B := ⟨_, rfl⟩
  obtain ⟨n, hn⟩ : ∃ n, n = (Sp.dfL A B).length := ⟨_, rfl⟩
  rw [← hs, ← hx]
  have HX : Hid (s = ((x == 0) && (n == 0))) := (by rw [hs, Sp.sameB, ← hx, ← hn] : s = ((x == 0) && (n == 0)))
  have HXE := hid hx
  have HNE := hid hn
  clear hs hx hn
  go_enter Tryz.func6, Tryz.ntmps6
  go_wp2_with fail
  refine (diff_any A B _ _ _ HVA.out HVB.out HSA.out HSB.out).mono ?_
  rintro e w1 ⟨u, rfl, hou, hb1⟩
  obtain ⟨au, capu, rfl⟩ := own_slice hou
  rw [← HXE.out, ← HNE.out]
  clear hou
  cases hx : (x == 0) with
  | false =>
    go_wp2_with fail
    go_ret2
    exact ⟨by rw [HX.out, hx]; rfl, hb1⟩
  | true =>
    have hn : (n == 0) = ((n : Int) == 0) := by
      cases n with
      | zero => rfl
      | succ n => simp; omega
    go_wp2_with fail
    go_ret2
    exact ⟨by rw [HX.out, hx, hn]; rfl, hb1⟩
end Go.Proofs.YtogbahkoijkclaaGreat
namespace Go.Proofs.YtogbahkoijkclaaGreat
open Go.RowKit Go.Maps Go.WideMaps

namespace Sp
def likeE (x y : En) : Bool := (x.path.toList == y.path.toList) && ((x.folder == y.folder) && (x.text.toList == y.text.toList))
def likeP (A B : List En) : Prop := A.length = B.length ∧ ∀ j (h : j < A.length) (h2 : j < B.length), likeE A[j] B[j] = true
theorem likeE_iff {x y : En} : likeE x y = true ↔ x.path.data.toList = y.path.data.toList ∧ x.folder = y.folder ∧ x.text.data.toList = y.text.data.toList := by
  rw [likeE, Lib.toList_data, Lib.toList_data, Lib.toList_data, Lib.toList_data]
  simp
theorem rise_eq {A B : List (List UInt8)} (hA : A.Pairwise (fun x y => x < y)) (hB : B.Pairwise (fun x y => x < y)) (h : ∀ x, x ∈ A ↔ x ∈ B) : A = B := by
  induction A generalizing B with
  | nil =>
    cases B with
    | nil => rfl
    | cons b r => exact absurd ((h b).2 (by simp)) (by simp)
  | cons a A ih =>
    cases B with
    | nil => exact absurd ((h a).1 (by simp)) (by simp)
    | cons b B =>
      rw [List.pairwise_cons] at hA hB
      have hab : a = b := by
        rcases List.mem_cons.1 ((h a).1 (by simp)) with e | h1
        · exact e
        · rcases List.mem_cons.1 ((h b).2 (by simp)) with e | h2
          · exact e.symm
          · exact absurd (List.lt_trans (hA.1 b h2) (hB.1 a h1)) (List.lt_irrefl _)
      subst hab
      congr 1
      refine ih hA.2 hB.2 fun x => ⟨fun hx => ?_, fun hx => ?_⟩
      · rcases List.mem_cons.1 ((h x).1 (by simp [hx])) with e | h1
        · subst e; exact absurd (hA.1 _ hx) (List.lt_irrefl _)
        · exact h1
      · rcases List.mem_cons.1 ((h x).2 (by simp [hx])) with e | h1
        · subst e; exact absurd (hB.1 _ hx) (List.lt_irrefl _)
        · exact h1
theorem rise_map {L : List En} (h : L.Pairwise (fun x y => Pp.lt x y = true)) : (L.map (fun e => e.path.data.toList)).Pairwise (fun x y => x < y) := by
  rw [List.pairwise_map]
  refine List.Pairwise.imp ?_ h
  intro x y hxy
  rwa [Pp.lt, Lib.toList_data, Lib.toList_data, bytesLess_eq, decide_eq_true_eq] at hxy
theorem wh_cases (e : En) : (e.folder = true ∧ wh e = 1) ∨ (e.folder = false ∧ wh e = 2) := by
  unfold wh
  cases e.folder <;> simp
theorem wh_eq {x y : En} : wh x = wh y ↔ x.folder = y.folder := by
  rcases wh_cases x with ⟨h1, h2⟩ | ⟨h1, h2⟩ <;> rcases wh_cases y with ⟨h3, h4⟩ | ⟨h3, h4⟩ <;> simp [h1, h2, h3, h4]
theorem at_mem {L : List En} {p : List UInt8} {x : En} (h : at_ L p = some x) : x ∈ L ∧ x.path.data.toList = p := ⟨List.mem_of_find?_eq_some h, atB_iff.1 (List.find?_some h)⟩
theorem wAt_some {L : List En} {p : List UInt8} {e : En} (h : wh e = wAt L p) : ∃ x, at_ L p = some x ∧ x ∈ L ∧ x.path.data.toList = p ∧ x.folder = e.folder := by
  rw [wAt] at h
  cases hx : at_ L p with
  | none =>
    rw [hx] at h
    simp only at h
    rcases wh_cases e with ⟨_, h2⟩ | ⟨_, h2⟩ <;> omega
  | some x =>
    rw [hx] at h
    exact ⟨x, rfl, (at_mem hx).1, (at_mem hx).2, (wh_eq.1 h).symm⟩
theorem par_lt {p : List UInt8} (h : Pp.par p ≠ []) : (Pp.par p).length < p.length := by
  by_cases hs : 47 ∈ p
  · obtain ⟨a, b, hb, rfl⟩ := Pp.last_split hs
    rw [Pp.par_cut a hb]
    simp
  · exact absurd (Pp.par_none hs) h
theorem entE_text {e : En} (h : Pp.entE e = 0) (hf : e.folder = true) : e.text.data.toList = [] := by
  rw [Pp.entE, if_pos (Pp.entE_path h)] at h
  by_cases ht : e.text.data.toList = []
  · exact ht
  · rw [if_pos ⟨hf, ht⟩] at h; cases h
/-- What is not gone is there. -/
theorem stays {A B : List En} (hA : Pp.Good A) (hd : dels A B = []) : ∀ (n : Nat) (e : En), e ∈ A → e.path.data.toList.length ≤ n → wh e = wAt B e.path.data.toList := by
  have hno : ∀ e ∈ A, goes B e = false := by
    rw [dels, List.map_eq_nil_iff, List.filter_eq_nil_iff] at hd
    intro e he
    simpa using hd e he
  intro n
  induction n with
  | zero =>
    intro e he hl
    have h1 : e.path.data.toList = [] := List.length_eq_zero_iff.1 (by omega)
    have h2 := hno e he
    have h3 : hasP B e.path.data.toList = true := by
      rw [hasP, h1, Pp.par_none (by simp)]; rfl
    rw [goes, h3, Bool.and_true] at h2
    simpa using h2
  | succ n ih =>
    intro e he hl
    have h2 := hno e he
    have h3 : hasP B e.path.data.toList = true := by
      by_cases hp : Pp.par e.path.data.toList = []
      · rw [hasP, hp]; rfl
      · obtain ⟨x, hx, hxp, hxf, _⟩ := Pp.fold_zero (hA.pars e he) hp
        have h4 := ih x hx (by rw [hxp]; have := par_lt hp; omega)
        rw [hxp] at h4
        rw [hasP, ← h4]
        simp [wh, hxf]
    rw [goes, h3, Bool.and_true] at h2
    simpa using h2
theorem none_like {A B : List En} (hA : Pp.Good A) (hB : Pp.Good B) : dels A B ++ mks A B = [] ↔ likeP A B := by
  constructor
  · intro h
    obtain ⟨hd, hm⟩ := List.append_eq_nil_iff.1 h
    have h1 : ∀ e ∈ A, wh e = wAt B e.path.data.toList := fun e he => stays hA hd _ e he (Nat.le_refl _)
    have h2 : ∀ e ∈ B, newB A e = false := by
      rw [mks, List.map_eq_nil_iff, List.filter_eq_nil_iff] at hm
      intro e he
      simpa using hm e he
    have h3 : ∀ e ∈ B, wh e = wAt A e.path.data.toList ∧ (tx e).toList = (tAt A e.path.data.toList).toList := fun e he => by
      have := h2 e he
      rw [newB] at this
      simpa using this
    have hpe : A.map (fun e => e.path.data.toList) = B.map (fun e => e.path.data.toList) := by
      refine rise_eq (rise_map hA.rise) (rise_map hB.rise) fun x => ⟨fun hx => ?_, fun hx => ?_⟩
      · obtain ⟨e, he, rfl⟩ := List.mem_map.1 hx
        obtain ⟨y, _, hy, hyp, _⟩ := wAt_some (h1 e he)
        exact List.mem_map.2 ⟨y, hy, hyp⟩
      · obtain ⟨e, he, rfl⟩ := List.mem_map.1 hx
        obtain ⟨y, _, hy, hyp, _⟩ := wAt_some (h3 e he).1
        exact List.mem_map.2 ⟨y, hy, hyp⟩
    refine ⟨by simpa using congrArg List.length hpe, fun j hj hj2 => likeE_iff.2 ?_⟩
    have hp : A[j].path.data.toList = B[j].path.data.toList := by
      have := congrArg (fun l => l[j]?) hpe
      simpa [hj, hj2] using this
    obtain ⟨h4, h5⟩ := h3 B[j] (List.getElem_mem hj2)
    obtain ⟨x, hx, hxm, hxp, hxf⟩ := wAt_some h4
    have hxe : x = A[j] := hA.uniq hxm (List.getElem_mem hj) (hxp.trans hp.symm)
    rw [tAt, hx] at h5
    subst hxe
    refine ⟨hp, hxf, ?_⟩
    replace h5 : (tx B[j]).toList = (tx A[j]).toList := h5
    unfold tx at h5
    rw [hxf] at h5
    cases hf : B[j].folder with
    | true =>
      rw [entE_text (hA.ents _ (List.getElem_mem hj)) (hxf.trans hf), entE_text (hB.ents _ (List.getElem_mem hj2)) hf]
    | false =>
      rw [hf] at h5
      simp only [Bool.false_eq_true, if_false] at h5
      rw [Lib.toList_data, Lib.toList_data] at h5
      exact h5.symm
  · intro ⟨hl, h⟩
    have aA := apart_rise hA.rise
    have aB := apart_rise hB.rise
    rw [List.append_eq_nil_iff]
    constructor
    · rw [dels, List.map_eq_nil_iff, List.filter_eq_nil_iff]
      intro e he
      obtain ⟨j, hj, rfl⟩ := List.getElem_of_mem he
      obtain ⟨h1, h2, h3⟩ := likeE_iff.1 (h j hj (by omega))
      rw [goes, h1, wAt_self aB (List.getElem_mem _), wh_eq.2 h2]
      simp
    · rw [mks, List.map_eq_nil_iff, List.filter_eq_nil_iff]
      intro e he
      obtain ⟨j, hj, rfl⟩ := List.getElem_of_mem he
      obtain ⟨h1, h2, h3⟩ := likeE_iff.1 (h j (by omega) hj)
      have h4 : (tx B[j]).toList = (tx (A[j]'(by omega))).toList := by
        unfold tx
        rw [h2]
        split
        · rfl
        · rw [Lib.toList_data, Lib.toList_data]; exact h3.symm
      rw [newB, ← h1, wAt_self aA (List.getElem_mem _), tAt_self aA (List.getElem_mem _), wh_eq.2 h2, h4]
      simp
end Sp
end Go.Proofs.YtogbahkoijkclaaGreat
namespace Go.Proofs.YtogbahkoijkclaaGreat
open Go.RowKit

theorem Sp.sameB_no {A B : List En} (h : ¬ Sp.dfE A B = 0) : Sp.sameB A B = false := by
  have : (Sp.dfE A B == 0) = false := by simpa using h
  rw [Sp.sameB, this]; rfl
theorem Sp.sameB_iff {A B : List En} (h : Sp.dfE A B = 0) : Sp.sameB A B = true ↔ Sp.likeP A B := by
  have hab : Pp.treeE A = 0 ∧ Pp.treeE B = 0 := by
    by_cases ha : Pp.treeE A = 0
    · rw [Sp.dfE, if_pos ha] at h; exact ⟨ha, h⟩
    · rw [Sp.dfE, if_neg ha] at h; exact absurd h ha
  rw [← Sp.none_like ((Pp.good_iff A).1 hab.1) ((Pp.good_iff B).1 hab.2), Sp.sameB, Sp.dfL, if_pos h, h]
  simp
end Go.Proofs.YtogbahkoijkclaaGreat
namespace Go.Proofs.YtogbahkoijkclaaGreat
open Go.RowKit

namespace Pp
theorem flatC_at : ∀ (L : List Ch) (i : Nat) (h : i < L.length) (c : Nat), c < 5 → (flatC L)[i * 5 + c]? = (cellsC L[i])[c]?
  | [], i, h, _, _ => absurd h (by simp)
  | a :: r, 0, _, c, hc => by
    show (cellsC a ++ flatC r)[0 * 5 + c]? = _
    rw [List.getElem?_append_left (by simp [cellsC]; omega)]
    simp
  | a :: r, i + 1, h, c, hc => by
    show (cellsC a ++ flatC r)[(i + 1) * 5 + c]? = _
    rw [List.getElem?_append_right (by simp [cellsC]; omega)]
    have e : (i + 1) * 5 + c - (cellsC a).length = i * 5 + c := by simp [cellsC]; omega
    rw [e, flatC_at r i (by simpa using h) c hc]
    simp
end Pp
theorem liesC_row {w : World} {base : Nat} {T : TypeId} {v : Value} {L : List Pp.Ch} (h : w.ownsRow base T 5 v L.length (Pp.flatC L)) (hn : L.length ≤ 1000000000000000) : LiesC w v L := by
  have h' := h
  obtain ⟨_, h2⟩ := h
  rcases h2 with ⟨rfl, hz⟩ | ⟨g, cap, cur, rfl, hg, hh, hc, hm, hz, htake⟩
  · have : L = [] := List.length_eq_zero_iff.1 hz
    subst this
    exact ⟨none, 0, rfl, Nat.le_refl _, by simp, fun i hi => absurd hi (by simp)⟩
  · have hlt : g < w.heap.size := by
      rcases Nat.lt_or_ge g w.heap.size with h | h
      · exact h
      · rw [Array.getElem?_eq_none h] at hh; cases hh
    refine ⟨some ⟨g, 0, none⟩, cap, rfl, hc, hn, fun i hi => ⟨g, 0, rfl, hlt, ?_⟩⟩
    have k : ∀ c, c < 5 → w.cell? ⟨g, 0 + i * 5 + c, none⟩ = (Pp.cellsC L[i])[c]? := fun c hc => by
      rw [Nat.zero_add, h'.cellAt (i * 5 + c) (by omega), Pp.flatC_at L i hi c hc]
    exact ⟨k 0 (by decide), k 1 (by decide), k 2 (by decide), k 3 (by decide), k 4 (by decide)⟩
end Go.Proofs.YtogbahkoijkclaaGreat
namespace Go.Proofs.YtogbahkoijkclaaGreat
open Go.RowKit Go.Maps Go.WideMaps

namespace Sp
/-- Is an entry at or within one that goes? -/
def inB (D : List En) (e : En) : Bool := D.any (fun d => Pp.wi d.path.data.toList e)
def stay (A B : List En) (k : Nat) : List En := A.filter (fun e => !inB ((A.take k).filter (goes B)) e)
theorem isIn_cases {p q : List UInt8} (h : Pp.isInB p q = true) : p = q ∨ (q.length < p.length ∧ (q ≠ [] → Pp.par p ≠ [] ∧ Pp.isInB (Pp.par p) q = true)) := by
  rcases (Pp.isIn_of p q).1 h with h | ⟨r, h⟩
  · exact Or.inl h
  · refine Or.inr ⟨by rw [h]; simp, fun hq => ?_⟩
    obtain ⟨a, b, hb, e, hi, hp⟩ := Pp.par_down (p := q) (r := r)
    rw [h, hp]
    refine ⟨?_, hi⟩
    rcases (Pp.isIn_of a q).1 hi with h2 | ⟨r2, h2⟩
    · rw [h2]; exact hq
    · rw [h2]; simp
theorem wAt_fold {L : List En} {p : List UInt8} (hp : p ≠ []) (h : Pp.foldE L p = 0) : wAt L p = 1 := by
  obtain ⟨x, hx, hxp, hxf, hf⟩ := Pp.fold_zero h hp
  rw [wAt, show at_ L p = some x from hf]
  show wh x = 1
  simp [wh, hxf]
theorem wAt_one {L : List En} {p : List UInt8} (h : wAt L p = 1) : ∃ x, x ∈ L ∧ x.path.data.toList = p ∧ x.folder = true := by
  rw [wAt] at h
  cases hx : at_ L p with
  | none => rw [hx] at h; cases h
  | some x =>
    rw [hx] at h
    refine ⟨x, (at_mem hx).1, (at_mem hx).2, ?_⟩
    rcases wh_cases x with ⟨h1, _⟩ | ⟨_, h2⟩
    · exact h1
    · simp only at h; omega
/-- Above a folder are folders. -/
theorem up {L : List En} (hL : Pp.Good L) {q : List UInt8} (hq : q ≠ []) : ∀ (n : Nat) (p : List UInt8), p.length ≤ n → wAt L p = 1 → Pp.isInB p q = true → wAt L q = 1 := by
  intro n
  induction n with
  | zero =>
    intro p hl h1 h2
    rcases isIn_cases h2 with e | ⟨h3, _⟩
    · rw [← e]; exact h1
    · omega
  | succ n ih =>
    intro p hl h1 h2
    rcases isIn_cases h2 with e | ⟨h3, h4⟩
    · rw [← e]; exact h1
    · obtain ⟨h5, h6⟩ := h4 hq
      obtain ⟨x, hx, hxp, _⟩ := wAt_one h1
      have h7 := hL.pars x hx
      rw [hxp] at h7
      have h8 := par_lt h5
      exact ih _ (by omega) (wAt_fold h5 h7) h6
theorem path_ne {L : List En} (hL : Pp.Good L) {e : En} (he : e ∈ L) : e.path.data.toList ≠ [] := by
  intro h
  have := Pp.entE_path (hL.ents e he)
  rw [h] at this
  exact absurd this (by decide)
theorem hasP_no {M : List En} {p : List UInt8} : hasP M p = false ↔ Pp.par p ≠ [] ∧ wAt M (Pp.par p) ≠ 1 := by
  rw [hasP]; simp
theorem hasP_yes {M : List En} {p : List UInt8} : hasP M p = true ↔ Pp.par p = [] ∨ wAt M (Pp.par p) = 1 := by
  rw [hasP]; simp
/-- What has no folder to be in is below one that goes. -/
theorem above {A B : List En} (hA : Pp.Good A) : ∀ (n : Nat) (p : List UInt8), p.length ≤ n → wAt A p = 1 → wAt B p ≠ 1 → ∃ d ∈ A, goes B d = true ∧ Pp.isInB p d.path.data.toList = true := by
  intro n
  induction n with
  | zero =>
    intro p hl h1 _
    obtain ⟨x, hx, hxp, _⟩ := wAt_one h1
    exact absurd (List.length_eq_zero_iff.1 (by omega : p.length = 0)) (hxp ▸ path_ne hA hx)
  | succ n ih =>
    intro p hl h1 h2
    obtain ⟨x, hx, hxp, hxf⟩ := wAt_one h1
    cases hh : hasP B p with
    | true =>
      refine ⟨x, hx, ?_, by rw [hxp]; exact Pp.isIn_refl p⟩
      have : wh x = 1 := by simp [wh, hxf]
      rw [goes, hxp, hh, this, Bool.and_true]
      simpa using fun e => h2 e.symm
    | false =>
      obtain ⟨h3, h4⟩ := hasP_no.1 hh
      have h5 := hA.pars x hx
      rw [hxp] at h5
      have h6 := par_lt h3
      obtain ⟨d, hd, hg, hi⟩ := ih _ (by omega) (wAt_fold h3 h5) h4
      exact ⟨d, hd, hg, Pp.par_in hi h3⟩
/-- Below one that goes there is no folder to be in. -/
theorem below {A B : List En} (hA : Pp.Good A) (hB : Pp.Good B) {e d : En} (he : e ∈ A) (hd : d ∈ A) (hg : goes B d = true) (hi : Pp.isInB e.path.data.toList d.path.data.toList = true) (hne : e.path.data.toList ≠ d.path.data.toList) : hasP B e.path.data.toList = false := by
  cases hh : hasP B e.path.data.toList with
  | false => rfl
  | true =>
    exfalso
    have hq := path_ne hA hd
    rcases isIn_cases hi with h | ⟨_, h⟩
    · exact hne h
    · obtain ⟨h1, h2⟩ := h hq
      have h3 : wAt B d.path.data.toList = 1 := by
        rcases hasP_yes.1 hh with h4 | h4
        · exact absurd h4 h1
        · exact up hB hq _ _ (Nat.le_refl _) h4 h2
      have h5 : wAt A d.path.data.toList = 1 := up hA hq _ _ (Nat.le_refl _) (wAt_fold h1 (hA.pars e he)) h2
      rw [wAt_self (apart_rise hA.rise) hd] at h5
      rw [goes, h3, h5] at hg
      simp at hg
theorem mem_take {A : List En} {k : Nat} (hk : k < A.length) (hr : A.Pairwise (fun x y => Pp.lt x y = true)) {d : En} (hd : d ∈ A) (hl : Pp.lt d A[k] = true) : d ∈ A.take k := by
  obtain ⟨i, hi, rfl⟩ := List.getElem_of_mem hd
  rw [List.pairwise_iff_getElem] at hr
  have : i < k := by
    rcases Nat.lt_trichotomy i k with h | h | h
    · exact h
    · subst h; rw [Pp.lt_irrefl] at hl; cases hl
    · have h2 := Pp.lt_trans _ _ _ hl (hr k i hk hi h)
      rw [Pp.lt_irrefl] at h2; cases h2
  rw [List.mem_take_iff_getElem]
  exact ⟨i, by omega, rfl⟩
theorem lt_in {e d : En} (hi : Pp.isInB e.path.data.toList d.path.data.toList = true) (hne : e.path.data.toList ≠ d.path.data.toList) : Pp.lt d e = true := by
  rcases (Pp.isIn_of _ _).1 hi with h | ⟨r, h⟩
  · exact absurd h hne
  · rw [Pp.lt, Lib.toList_data, Lib.toList_data, bytesLess_eq, decide_eq_true_eq, h]
    generalize d.path.data.toList = q
    induction q with
    | nil => exact List.nil_lt_cons _ _
    | cons a r ih => rw [List.cons_append, List.cons_lt_cons_iff]; exact Or.inr ⟨rfl, ih⟩
theorem take_ne {A : List En} {k : Nat} (hk : k < A.length) (hr : A.Pairwise (fun x y => Pp.lt x y = true)) {d : En} (hd : d ∈ A.take k) : A[k].path.data.toList ≠ d.path.data.toList := by
  obtain ⟨i, hi, rfl⟩ := List.mem_take_iff_getElem.1 hd
  have := apart_rise hr
  rw [Apart, List.pairwise_iff_getElem] at this
  exact fun e => this i k (by omega) hk (by omega) e.symm
theorem inB_iff {D : List En} {e : En} : inB D e = true ↔ ∃ d ∈ D, Pp.isInB e.path.data.toList d.path.data.toList = true := by
  rw [inB, List.any_eq_true]; rfl
/-- Has the next one gone already? Just when there is no folder to be in. -/
theorem gone {A B : List En} (hA : Pp.Good A) (hB : Pp.Good B) {k : Nat} (hk : k < A.length) : inB ((A.take k).filter (goes B)) A[k] = !hasP B A[k].path.data.toList := by
  cases hh : hasP B A[k].path.data.toList with
  | true =>
    rw [Bool.not_true, ← Bool.not_eq_true]
    intro h
    obtain ⟨d, hd, hi⟩ := inB_iff.1 h
    obtain ⟨hd1, hd2⟩ := List.mem_filter.1 hd
    have := below hA hB (List.getElem_mem hk) (List.mem_of_mem_take hd1) hd2 hi (take_ne hk hA.rise hd1)
    rw [hh] at this; cases this
  | false =>
    rw [Bool.not_false]
    obtain ⟨h1, h2⟩ := hasP_no.1 hh
    obtain ⟨d, hd, hg, hi⟩ := above (B := B) hA _ _ (Nat.le_refl _) (wAt_fold h1 (hA.pars _ (List.getElem_mem hk))) h2
    have hi2 := Pp.par_in hi h1
    have hne : A[k].path.data.toList ≠ d.path.data.toList := fun e => by
      obtain ⟨s, hs⟩ := Pp.isIn_pre hi
      have h3 := par_lt h1
      have h4 := congrArg List.length hs
      have h5 := congrArg List.length e
      rw [List.length_append] at h4
      omega
    exact inB_iff.2 ⟨d, List.mem_filter.2 ⟨mem_take hk hA.rise hd (lt_in hi2 hne), hg⟩, hi2⟩
theorem stay_zero (A B : List En) : stay A B 0 = A := by
  rw [stay, List.filter_eq_self]
  intro e _; rfl
theorem stay_mem {A B : List En} (hA : Pp.Good A) (hB : Pp.Good B) {k : Nat} (hk : k < A.length) : A[k] ∈ stay A B k ↔ hasP B A[k].path.data.toList = true := by
  rw [stay, List.mem_filter, gone hA hB hk]
  simp
theorem stay_hit {A B : List En} {k : Nat} (hk : k < A.length) (hg : goes B A[k] = true) : stay A B (k + 1) = (stay A B k).filter (fun e => !Pp.wi A[k].path.data.toList e) := by
  rw [stay, stay, Pp.filter_hitE hk hg, List.filter_filter]
  congr 1
  funext e
  rw [inB, inB, List.any_append]
  cases (List.filter (goes B) (List.take k A)).any (fun d => Pp.wi d.path.data.toList e) <;> simp
theorem stay_miss {A B : List En} {k : Nat} (hk : k < A.length) (hg : goes B A[k] = false) : stay A B (k + 1) = stay A B k := by
  rw [stay, stay, Pp.filter_missE hk hg]
theorem dels_hit {A B : List En} {k : Nat} (hk : k < A.length) (hg : goes B A[k] = true) : dels (A.take (k + 1)) B = dels (A.take k) B ++ [delC A[k]] := by
  rw [dels, Pp.filter_hitE hk hg, List.map_append]; rfl
theorem dels_miss {A B : List En} {k : Nat} (hk : k < A.length) (hg : goes B A[k] = false) : dels (A.take (k + 1)) B = dels (A.take k) B := by
  rw [dels, Pp.filter_missE hk hg]; rfl
theorem goes_eq {M : List En} {e : En} (h : hasP M e.path.data.toList = true) : goes M e = (wh e != wAt M e.path.data.toList) := by rw [goes, h, Bool.and_true]
theorem mks_hit {A B : List En} {k : Nat} (hk : k < B.length) (h : newB A B[k] = true) : mks A (B.take (k + 1)) = mks A (B.take k) ++ [mkC B[k]] := by
  rw [mks, Pp.filter_hitE hk h, List.map_append]; rfl
theorem mks_miss {A B : List En} {k : Nat} (hk : k < B.length) (h : newB A B[k] = false) : mks A (B.take (k + 1)) = mks A (B.take k) := by
  rw [mks, Pp.filter_missE hk h]; rfl
/-- What stays is a tree. -/
theorem stay_good {A B : List En} (hA : Pp.Good A) (k : Nat) : Pp.Good (stay A B k) := by
  have hr : (stay A B k).Pairwise (fun x y => Pp.lt x y = true) := hA.rise.filter _
  refine ⟨Nat.le_trans (List.length_filter_le _ _) hA.len, fun e he => hA.ents e (List.mem_filter.1 he).1, hr, fun e he => ?_⟩
  obtain ⟨h1, h2⟩ := List.mem_filter.1 he
  by_cases hp : Pp.par e.path.data.toList = []
  · rw [hp]; exact Pp.fold_nil _
  · obtain ⟨x, hx, hxp, hxf, _⟩ := Pp.fold_zero (hA.pars e h1) hp
    refine Pp.fold_mem hr (List.mem_filter.2 ⟨hx, ?_⟩) hxp hxf
    cases hh : inB ((A.take k).filter (goes B)) x with
    | false => rfl
    | true =>
      obtain ⟨d, hd, hi⟩ := inB_iff.1 hh
      rw [hxp] at hi
      have := inB_iff.2 ⟨d, hd, Pp.par_in hi hp⟩
      rw [this] at h2; cases h2
/-- What there is at a path of the other tree, behind the deletes: what there was, if it is of the same kind. -/
theorem stay_at {A B : List En} (hA : Pp.Good A) (hB : Pp.Good B) {b : En} (hb : b ∈ B) :
    (∀ x, at_ (stay A B A.length) b.path.data.toList = some x → at_ A b.path.data.toList = some x ∧ x.folder = b.folder) ∧
    (at_ (stay A B A.length) b.path.data.toList = none → wh b ≠ wAt A b.path.data.toList) := by
  have hbp : hasP B b.path.data.toList = true := by
    rw [hasP_yes]
    by_cases hp : Pp.par b.path.data.toList = []
    · exact Or.inl hp
    · exact Or.inr (wAt_fold hp (hB.pars b hb))
  have aA := apart_rise hA.rise
  have aB := apart_rise hB.rise
  constructor
  · intro x hx
    obtain ⟨h1, h2⟩ := at_mem hx
    obtain ⟨h3, h4⟩ := List.mem_filter.1 h1
    refine ⟨by rw [← h2]; exact at_self aA h3, ?_⟩
    by_cases hf : x.folder = b.folder
    · exact hf
    · exfalso
      have hg : goes B x = true := by
        rw [goes, h2, hbp, wAt_self aB hb, Bool.and_true]
        simpa using fun e => hf (wh_eq.1 e)
      have : inB ((A.take A.length).filter (goes B)) x = true := inB_iff.2 ⟨x, List.mem_filter.2 ⟨by rw [List.take_length]; exact h3, hg⟩, Pp.isIn_refl _⟩
      rw [this] at h4; cases h4
  · intro hn hw
    obtain ⟨x, hx, hxm, hxp, hxf⟩ := wAt_some hw
    have hst : x ∈ stay A B A.length := by
      refine List.mem_filter.2 ⟨hxm, ?_⟩
      cases hh : inB ((A.take A.length).filter (goes B)) x with
      | false => rfl
      | true =>
        obtain ⟨d, hd, hi⟩ := inB_iff.1 hh
        obtain ⟨hd1, hd2⟩ := List.mem_filter.1 hd
        rw [List.take_length] at hd1
        by_cases he : x.path.data.toList = d.path.data.toList
        · have : x = d := hA.uniq hxm hd1 he
          subst this
          rw [goes, hxp, wAt_self aB hb, wh_eq.2 hxf] at hd2
          simp at hd2
        · have := below hA hB hxm hd1 hd2 hi he
          rw [hxp, hbp] at this; cases this
    have := at_self (apart_rise (stay_good (B := B) hA A.length).rise) hst
    rw [hxp, hn] at this; cases this
/-- Is nothing to be made of it? -/
theorem newB_some {A : List En} {b x : En} (h : at_ A b.path.data.toList = some x) (hf : x.folder = b.folder) : newB A b = !(b.folder || (x.text.toList == b.text.toList)) := by
  have h1 : wAt A b.path.data.toList = wh b := by rw [wAt, h]; exact wh_eq.2 hf
  have h2 : tAt A b.path.data.toList = tx x := by rw [tAt, h]
  rw [newB, h1, h2]
  unfold tx
  rw [hf]
  cases b.folder with
  | true => simp
  | false =>
    simp
    rw [Bool.eq_iff_iff, beq_iff_eq, beq_iff_eq]
    exact eq_comm
theorem newB_none {A : List En} {b : En} (h : wh b ≠ wAt A b.path.data.toList) : newB A b = true := by
  have : (wh b == wAt A b.path.data.toList) = false := by simpa using h
  rw [newB, this]; rfl
theorem mkC_good {b : En} (h : Pp.entE b = 0) : mkC b = ⟨if b.folder = true then 1 else 2, b.path, ⟨#[]⟩, b.text, -1⟩ := by
  rw [mkC]
  by_cases hf : b.folder = true
  · rw [if_pos hf, if_pos hf]
    have h1 := entE_text h hf
    have h2 : b.text = ⟨#[]⟩ := by
      cases hb : b.text with
      | mk d => rw [hb] at h1; cases d; simp_all
    rw [h2]
  · rw [if_neg hf, if_neg hf]
end Sp
end Go.Proofs.YtogbahkoijkclaaGreat
namespace Go.Proofs.YtogbahkoijkclaaGreat
open Go.RowKit

namespace Sp
theorem len_le {α : Type} [DecidableEq α] : ∀ {l M : List α}, l.Nodup → (∀ x ∈ l, x ∈ M) → l.length ≤ M.length
  | [], M, _, _ => Nat.zero_le _
  | a :: r, M, hn, hs => by
    rw [List.nodup_cons] at hn
    have ha := hs a (by simp)
    have h1 : r.length ≤ (M.erase a).length := len_le hn.2 fun x hx => (List.mem_erase_of_ne (by rintro rfl; exact hn.1 hx)).2 (hs x (by simp [hx]))
    have h2 := List.length_erase_of_mem ha
    have h3 : 0 < M.length := List.length_pos_of_mem ha
    rw [List.length_cons]
    omega
theorem del_chg {e : En} (h : Pp.chk e.path.data.toList = 0) : Pp.chgE (delC e) = 0 := by
  rw [delC, Pp.chgE, if_neg (show ¬ ((4 : Int) < 1 ∨ 4 < (4 : Int)) by decide), if_neg (fun x => x h), if_neg (fun x => absurd (show (4 : Int) = 3 from x.1) (by decide)), if_neg (by simp), if_neg (show ¬ 300 < (⟨#[]⟩ : ByteArray).size by decide), if_neg (show ¬ ((-1 : Int) < -1 ∨ 1000000 < (-1 : Int)) by decide)]
theorem stl_any {L : List En} {c : Pp.Ch} (h : c.b = -1) : Pp.stl L c = false := by rw [Pp.stl, h]; rfl
theorem del_app {L : List En} (hL : Pp.Good L) {e : En} (he : e ∈ L) {n : Int} (hv : Pp.verE n = 0) : Pp.appE L (delC e) n = 0 ∧ Pp.chdR L (delC e) n = L.filter (fun x => !Pp.wi e.path.data.toList x) := by
  have h1 := del_chg (Pp.entE_path (hL.ents e he))
  have h2 : Pp.plcE L (delC e) = 0 := by
    have hg : Pp.goal (delC e) = e.path.data.toList := rfl
    rw [Pp.plcE, hg, if_neg (fun x => x (hL.pars e he))]
    show (match L.find? (Pp.atB e.path.data.toList) with | none => _ | some x => _) = _
    rw [Pp.sorted_find hL.rise he]
    rfl
  refine ⟨?_, rfl⟩
  rw [Pp.appE, if_neg (fun x => x hv), if_neg (fun x => x h1), if_neg (fun x => x h2), if_neg (by rw [stl_any rfl]; decide)]
  rfl
theorem runs_dels {A B : List En} (hA : Pp.Good A) (hB : Pp.Good B) {n : Int} (hv : Pp.verE n = 0) : ∀ k, k ≤ A.length → Pp.Runs n A (dels (A.take k) B) (stay A B k) := by
  intro k
  induction k with
  | zero => intro _; rw [stay_zero]; exact Pp.runs_nil n A
  | succ k ih =>
    intro hk
    have hlt : k < A.length := by omega
    cases hg : goes B A[k] with
    | false => rw [dels_miss hlt hg, stay_miss hlt hg]; exact ih (by omega)
    | true =>
      have hm : A[k] ∈ stay A B k := (stay_mem hA hB hlt).2 (by
        rw [goes] at hg
        exact (Bool.and_eq_true_iff.1 hg).2)
      obtain ⟨h1, h2⟩ := del_app (stay_good (B := B) hA k) hm hv
      rw [dels_hit hlt hg, stay_hit hlt hg, ← h2]
      exact Pp.runs_snoc h1 (ih (by omega))
/-- What stays is at a path of the other tree, and of its kind. -/
theorem stay_in {A B : List En} (hA : Pp.Good A) (hB : Pp.Good B) {t : En} (ht : t ∈ stay A B A.length) : ∃ b ∈ B, b.path.data.toList = t.path.data.toList ∧ b.folder = t.folder := by
  obtain ⟨h1, h2⟩ := List.mem_filter.1 ht
  rw [List.take_length] at h2
  have hno : inB (A.filter (goes B)) t = false := by simpa using h2
  have hg : goes B t = false := by
    cases hg : goes B t with
    | false => rfl
    | true =>
      have := inB_iff.2 ⟨t, List.mem_filter.2 ⟨h1, hg⟩, Pp.isIn_refl _⟩
      rw [hno] at this; cases this
  obtain ⟨i, hi, rfl⟩ := List.getElem_of_mem h1
  have hp : hasP B A[i].path.data.toList = true := by
    cases hp : hasP B A[i].path.data.toList with
    | true => rfl
    | false =>
      have h3 := gone hA hB hi
      rw [hp, Bool.not_false] at h3
      obtain ⟨d, hd, hdi⟩ := inB_iff.1 h3
      obtain ⟨hd1, hd2⟩ := List.mem_filter.1 hd
      have := inB_iff.2 ⟨d, List.mem_filter.2 ⟨List.mem_of_mem_take hd1, hd2⟩, hdi⟩
      rw [hno] at this; cases this
  rw [goes_eq hp] at hg
  have hw : wh A[i] = wAt B A[i].path.data.toList := by simpa using hg
  obtain ⟨x, _, hx, hxp, hxf⟩ := wAt_some hw
  exact ⟨x, hx, hxp, hxf⟩
/-- How it stands behind the first makes. -/
structure Mid (A B : List En) (n : Int) (m : Nat) (T : List En) : Prop where
  runs : Pp.Runs n A (dels A B ++ mks A (B.take m)) T
  good : Pp.Good T
  kin : ∀ t ∈ T, ∃ b ∈ B, b.path.data.toList = t.path.data.toList ∧ b.folder = t.folder
  done : ∀ j (h : j < B.length), j < m → ∃ t ∈ T, likeE t B[j] = true
  rest : ∀ j (h : j < B.length), m ≤ j → ∀ x : En, x.path.data.toList = B[j].path.data.toList → (x ∈ T ↔ x ∈ stay A B A.length)
theorem mid_zero {A B : List En} (hA : Pp.Good A) (hB : Pp.Good B) {n : Int} (hv : Pp.verE n = 0) : Mid A B n 0 (stay A B A.length) := by
  refine ⟨?_, stay_good hA _, fun t ht => stay_in hA hB ht, fun j _ h => absurd h (Nat.not_lt_zero _), fun _ _ _ _ _ => Iff.rfl⟩
  have h := runs_dels hA hB hv A.length (Nat.le_refl _)
  rw [List.take_length] at h
  have e : mks A (B.take 0) = [] := rfl
  rw [e, List.append_nil]
  exact h
theorem mk_chg {b : En} (h : Pp.entE b = 0) : Pp.chgE (mkC b) = 0 := by
  have hc := Pp.entE_path h
  have h300 : b.text.size ≤ 300 := by
    rw [Pp.entE, if_pos hc] at h
    split at h
    · cases h
    · split at h
      · cases h
      · omega
  rw [mkC]
  by_cases hf : b.folder = true
  · rw [if_pos hf, Pp.chgE, if_neg (show ¬ ((1 : Int) < 1 ∨ 4 < (1 : Int)) by decide), if_neg (fun x => x hc), if_neg (fun x => absurd (show (1 : Int) = 3 from x.1) (by decide)), if_neg (by simp), if_neg (show ¬ 300 < (⟨#[]⟩ : ByteArray).size by decide), if_neg (show ¬ ((-1 : Int) < -1 ∨ 1000000 < (-1 : Int)) by decide)]
  · rw [if_neg hf, Pp.chgE, if_neg (show ¬ ((2 : Int) < 1 ∨ 4 < (2 : Int)) by decide), if_neg (fun x => x hc), if_neg (fun x => absurd (show (2 : Int) = 3 from x.1) (by decide)), if_neg (by simp), if_neg (show ¬ 300 < b.text.size by omega), if_neg (show ¬ ((-1 : Int) < -1 ∨ 1000000 < (-1 : Int)) by decide)]
theorem mkC_p (b : En) : (mkC b).p = b.path := by rw [mkC]; split <;> rfl
theorem mkC_b (b : En) : (mkC b).b = -1 := by rw [mkC]; split <;> rfl
theorem mkC_k (b : En) : (b.folder = true ∧ (mkC b).k = 1) ∨ (b.folder = false ∧ (mkC b).k = 2) := by
  rw [mkC]
  cases b.folder <;> simp
theorem new_like {b : En} (h : Pp.entE b = 0) (n : Int) : likeE (Pp.newE (mkC b) n) b = true ∧ (Pp.newE (mkC b) n).path.data.toList = b.path.data.toList ∧ (Pp.newE (mkC b) n).folder = b.folder := by
  have h1 : (Pp.newE (mkC b) n).folder = b.folder := by
    rcases mkC_k b with ⟨e1, e2⟩ | ⟨e1, e2⟩
    · show decide ((mkC b).k = 1) = _; rw [e1, e2]; rfl
    · show decide ((mkC b).k = 1) = _; rw [e1, e2]; rfl
  have h2 : (Pp.newE (mkC b) n).path = b.path := mkC_p b
  have h3 : (Pp.newE (mkC b) n).text = b.text := by
    show (mkC b).t = _
    rw [mkC_good h]
  exact ⟨likeE_iff.2 ⟨by rw [h2], h1, by rw [h3]⟩, by rw [h2], h1⟩
theorem mid_next {A B : List En} (hA : Pp.Good A) (hB : Pp.Good B) {n : Int} (hv : Pp.verE n = 0) {m : Nat} (hm : m < B.length) {T : List En} (h : Mid A B n m T) : ∃ T', Mid A B n (m + 1) T' := by
  have hb : B[m] ∈ B := List.getElem_mem hm
  obtain ⟨s1, s2⟩ := stay_at hA hB hb
  have aS := apart_rise (stay_good (B := B) hA A.length).rise
  have aB := apart_rise hB.rise
  have apj : ∀ j (hj : j < B.length), j ≠ m → B[j].path.data.toList ≠ B[m].path.data.toList := fun j hj hne e => by
    have := aB
    rw [Apart, List.pairwise_iff_getElem] at this
    rcases Nat.lt_or_gt_of_ne hne with h1 | h1
    · exact this j m hj hm h1 e
    · exact this m j hm hj h1 e.symm
  cases hn : newB A B[m] with
  | false =>
    refine ⟨T, by rw [mks_miss hm hn]; exact h.runs, h.good, h.kin, fun j hj hjm => ?_, fun j hj hjm => h.rest j hj (by omega)⟩
    by_cases e : j = m
    · subst e
      cases hs : at_ (stay A B A.length) B[j].path.data.toList with
      | none => rw [newB_none (s2 hs)] at hn; cases hn
      | some x =>
        obtain ⟨h1, h2⟩ := s1 x hs
        obtain ⟨h3, h4⟩ := at_mem hs
        rw [newB_some h1 h2] at hn
        refine ⟨x, (h.rest j hj (Nat.le_refl _) x h4).2 h3, likeE_iff.2 ⟨h4, h2, ?_⟩⟩
        cases hf : B[j].folder with
        | true => rw [entE_text (hA.ents x (at_mem h1).1) (h2.trans hf), entE_text (hB.ents _ hb) hf]
        | false =>
          rw [hf] at hn
          have : x.text.toList = B[j].text.toList := by simpa using hn
          rwa [Lib.toList_data, Lib.toList_data] at this
    · exact h.done j hj (by omega)
  | true =>
    obtain ⟨l1, l2, l3⟩ := new_like (hB.ents _ hb) n
    -- what is there
    have hat : ∀ x, x ∈ T → x.path.data.toList = B[m].path.data.toList → x.folder = B[m].folder ∧ B[m].folder = false := fun x hx hxp => by
      have h1 := (h.rest m hm (Nat.le_refl _) x hxp).1 hx
      have h2 := at_self aS h1
      rw [hxp] at h2
      obtain ⟨h3, h4⟩ := s1 x h2
      rw [newB_some h3 h4] at hn
      refine ⟨h4, ?_⟩
      cases hf : B[m].folder with
      | false => rfl
      | true => rw [hf] at hn; simp at hn
    have hchg := mk_chg (hB.ents _ hb)
    have hgoal : Pp.goal (mkC B[m]) = B[m].path.data.toList := by
      rw [Pp.goal, if_neg (by rcases mkC_k B[m] with ⟨_, e⟩ | ⟨_, e⟩ <;> rw [e] <;> decide), mkC_p]
    have hfold : Pp.foldE T (Pp.par B[m].path.data.toList) = 0 := by
      by_cases hp : Pp.par B[m].path.data.toList = []
      · rw [hp]; exact Pp.fold_nil _
      · obtain ⟨x, hx, hxp, hxf, _⟩ := Pp.fold_zero (hB.pars _ hb) hp
        have hin : Pp.isInB B[m].path.data.toList x.path.data.toList = true := by
          rw [hxp]; exact Pp.par_in (Pp.isIn_refl _) hp
        have hne : B[m].path.data.toList ≠ x.path.data.toList := fun e => by
          have h1 := par_lt hp
          rw [← hxp, ← e] at h1
          omega
        have hxt := mem_take hm hB.rise hx (lt_in hin hne)
        obtain ⟨j, hj, rfl⟩ := List.mem_take_iff_getElem.1 hxt
        obtain ⟨t, ht, hl⟩ := h.done j (by omega) (by omega)
        obtain ⟨k1, k2, _⟩ := likeE_iff.1 hl
        exact Pp.fold_mem h.good.rise ht (k1.trans hxp) (k2.trans hxf)
    have hplc : Pp.plcE T (mkC B[m]) = 0 := by
      rw [Pp.plcE, hgoal, if_neg (fun x => x hfold), mkC_p]
      cases hf : T.find? (Pp.atB B[m].path.data.toList) with
      | none =>
        simp only
        rw [if_neg (by rcases mkC_k B[m] with ⟨_, e⟩ | ⟨_, e⟩ <;> rw [e] <;> decide)]
      | some x =>
        obtain ⟨k1, k2⟩ := at_mem (L := T) hf
        obtain ⟨k3, k4⟩ := hat x k1 k2
        rcases mkC_k B[m] with ⟨e, _⟩ | ⟨_, e⟩
        · rw [k4] at e; cases e
        · simp only
          rw [e, if_neg (by decide), if_pos rfl, if_neg (by rw [k3, k4]; decide)]
    have hk12 : (mkC B[m]).k = 1 ∨ (mkC B[m]).k = 2 := by rcases mkC_k B[m] with ⟨_, e⟩ | ⟨_, e⟩ <;> simp [e]
    have hroom : ¬ 60 < (Pp.outE (Pp.newE (mkC B[m]) n) T).length + 1 := by
      have hle : (B[m].path.data.toList :: (Pp.outE (Pp.newE (mkC B[m]) n) T).map (fun e => e.path.data.toList)).length ≤ (B.map (fun e => e.path.data.toList)).length := by
        refine len_le ?_ ?_
        · rw [List.nodup_cons]
          refine ⟨fun hmem => ?_, ?_⟩
          · obtain ⟨y, hy, hyp⟩ := List.mem_map.1 hmem
            exact (Pp.mem_outE.1 hy).2 (hyp.trans l2.symm)
          · have := (apart_rise h.good.rise).filter (fun e => !Pp.atB (Pp.newE (mkC B[m]) n).path.data.toList e)
            exact List.pairwise_map.2 this
        · intro x hx
          rcases List.mem_cons.1 hx with e | hx
          · rw [e]; exact List.mem_map.2 ⟨_, hb, rfl⟩
          · obtain ⟨y, hy, rfl⟩ := List.mem_map.1 hx
            obtain ⟨b, hb2, hbp, _⟩ := h.kin y (Pp.mem_outE.1 hy).1
            exact List.mem_map.2 ⟨b, hb2, hbp⟩
      rw [List.length_cons, List.length_map, List.length_map] at hle
      have := hB.len
      omega
    have happ : Pp.appE T (mkC B[m]) n = 0 := by
      rw [Pp.appE, if_neg (fun x => x hv), if_neg (fun x => x hchg), if_neg (fun x => x hplc), if_neg (by rw [stl_any (mkC_b _)]; decide), Pp.chdE, if_pos hk12, if_neg hroom]
    have hR : Pp.chdR T (mkC B[m]) n = Pp.ins (Pp.newE (mkC B[m]) n) (Pp.outE (Pp.newE (mkC B[m]) n) T) := by rw [Pp.chdR, if_pos hk12]
    have hmem : ∀ y, y ∈ Pp.chdR T (mkC B[m]) n ↔ y = Pp.newE (mkC B[m]) n ∨ (y ∈ T ∧ y.path.data.toList ≠ B[m].path.data.toList) := fun y => by
      rw [hR, (Pp.ins_perm _ _).mem_iff, List.mem_cons, Pp.mem_outE, l2]
    refine ⟨Pp.chdR T (mkC B[m]) n, ?_, Pp.app_good h.good happ, fun t ht => ?_, fun j hj hjm => ?_, fun j hj hjm x hxp => ?_⟩
    · rw [mks_hit hm hn, ← List.append_assoc]
      exact Pp.runs_snoc happ h.runs
    · rcases (hmem t).1 ht with e | ⟨e, _⟩
      · subst e; exact ⟨_, hb, l2.symm, l3.symm⟩
      · exact h.kin t e
    · by_cases e : j = m
      · subst e; exact ⟨_, (hmem _).2 (Or.inl rfl), l1⟩
      · obtain ⟨t, ht, hl⟩ := h.done j hj (by omega)
        exact ⟨t, (hmem t).2 (Or.inr ⟨ht, by rw [(likeE_iff.1 hl).1]; exact apj j hj e⟩), hl⟩
    · have hne : x.path.data.toList ≠ B[m].path.data.toList := by rw [hxp]; exact apj j hj (by omega)
      rw [← h.rest j hj (by omega) x hxp, hmem]
      constructor
      · rintro (e | e)
        · exact absurd (by rw [e]; exact l2) hne
        · exact e.1
      · exact fun e => Or.inr ⟨e, hne⟩
theorem mid_all {A B : List En} (hA : Pp.Good A) (hB : Pp.Good B) {n : Int} (hv : Pp.verE n = 0) : ∀ m, m ≤ B.length → ∃ T, Mid A B n m T := by
  intro m
  induction m with
  | zero => intro _; exact ⟨_, mid_zero hA hB hv⟩
  | succ m ih =>
    intro hm
    obtain ⟨T, hT⟩ := ih (by omega)
    exact mid_next hA hB hv (by omega) hT
/-- All changes made: a tree like the other one. -/
theorem back {A B : List En} (hA : Pp.Good A) (hB : Pp.Good B) {n : Int} (hv : Pp.verE n = 0) : ∃ T, Pp.Runs n A (dels A B ++ mks A B) T ∧ Pp.Good T ∧ likeP T B := by
  obtain ⟨T, h⟩ := mid_all hA hB hv B.length (Nat.le_refl _)
  have hr := h.runs
  rw [List.take_length] at hr
  have hpe : T.map (fun e => e.path.data.toList) = B.map (fun e => e.path.data.toList) := by
    refine rise_eq (rise_map h.good.rise) (rise_map hB.rise) fun x => ⟨fun hx => ?_, fun hx => ?_⟩
    · obtain ⟨e, he, rfl⟩ := List.mem_map.1 hx
      obtain ⟨b, hb, hbp, _⟩ := h.kin e he
      exact List.mem_map.2 ⟨b, hb, hbp⟩
    · obtain ⟨e, he, rfl⟩ := List.mem_map.1 hx
      obtain ⟨j, hj, rfl⟩ := List.getElem_of_mem he
      obtain ⟨t, ht, hl⟩ := h.done j hj hj
      exact List.mem_map.2 ⟨t, ht, (likeE_iff.1 hl).1⟩
  refine ⟨T, hr, h.good, by simpa using congrArg List.length hpe, fun j hj hj2 => ?_⟩
  have hp : T[j].path.data.toList = B[j].path.data.toList := by
    have := congrArg (fun l => l[j]?) hpe
    simpa [hj, hj2] using this
  obtain ⟨t, ht, hl⟩ := h.done j hj2 hj2
  have : t = T[j] := h.good.uniq ht (List.getElem_mem hj) ((likeE_iff.1 hl).1.trans hp.symm)
  rw [← this]
  exact hl
end Sp
end Go.Proofs.YtogbahkoijkclaaGreat
namespace Go.Proofs.YtogbahkoijkclaaGreat
open Go.RowKit

namespace Pp
def chz (c n : Int) : Int := (if c < 0 then -(c + 1) else c) % n
theorem chz_range (c : Int) {n : Int} (hn : 0 < n) : 0 ≤ chz c n ∧ chz c n < n := by
  unfold chz
  exact ⟨Int.emod_nonneg _ (by omega), Int.emod_lt_of_pos _ hn⟩
end Pp

set_option maxHeartbeats 400000 in
theorem choose_any (c n : Int) (w : World) (h1 : -9223372036854775808 ≤ c) (h2 : c ≤ 9223372036854775807) (hn : 0 < n) (hn2 : n ≤ 9223372036854775807) :
    Calls Tryz.prog 8 #[.int .i64 c, .int .i64 n] w fun e w' => e = .returned (.int .i64 (Pp.chz c n)) ∧ w' = w := by
  have hr := Pp.chz_range c hn
  have hn0 : ¬ n = 0 := by omega
  by_cases hc : c < 0
  · have HE : Hid (Pp.chz c n = -(c + 1) % n) := (by rw [Pp.chz, if_pos hc] : Pp.chz c n = -(c + 1) % n)
    have hp : 0 ≤ -(c + 1) := by omega
    have HT : Hid ((-(c + 1)).tmod n = -(c + 1) % n) := (Int.tmod_eq_emod_of_nonneg hp : (-(c + 1)).tmod n = -(c + 1) % n)
    go_enter Tryz.func8, Tryz.ntmps8
    go_wp2
    go_ret
    exact ⟨by rw [HE.out, ← HT.out, Int.neg_tmod]; rfl, rfl⟩
  · have HE : Hid (Pp.chz c n = c % n) := (by rw [Pp.chz, if_neg hc] : Pp.chz c n = c % n)
    have HT : Hid (c.tmod n = c % n) := (Int.tmod_eq_emod_of_nonneg (by omega) : c.tmod n = c % n)
    go_enter Tryz.func8, Tryz.ntmps8
    go_wp2
    go_ret
    exact ⟨by rw [HE.out, ← HT.out]; rfl, rfl⟩
end Go.Proofs.YtogbahkoijkclaaGreat
namespace Go.Proofs.YtogbahkoijkclaaGreat
open Go.RowKit

namespace Sp
theorem pat_back {A B : List En} (hA : Pp.Good A) (hB : Pp.Good B) {n : Int} (hv : Pp.verE n = 0) : Pp.patE A (dels A B ++ mks A B) n = 0 ∧ Pp.Good (Pp.patR A (dels A B ++ mks A B) n) ∧ likeP (Pp.patR A (dels A B ++ mks A B) n) B := by
  obtain ⟨T, h1, h2, h3⟩ := back hA hB hv
  have ht := (Pp.good_iff A).2 hA
  have hl : ¬ 120 < (dels A B ++ mks A B).length := by
    have e1 := dels_len A B
    have e2 := mks_len A B
    have e3 := hA.len
    have e4 := hB.len
    rw [List.length_append]; omega
  rw [Pp.patE, if_neg (fun x => x ht), if_neg hl, Pp.patR, if_neg (fun x => x ht), if_neg hl, show (Pp.runF n A (dels A B ++ mks A B)).2 = (0, T) from h1]
  exact ⟨rfl, h2, h3⟩
theorem good_dfE {A B : List En} (hA : Pp.Good A) (hB : Pp.Good B) : dfE A B = 0 := by rw [dfE, if_pos ((Pp.good_iff A).2 hA), (Pp.good_iff B).2 hB]
theorem good_small {R : List En} (hR : Pp.Good R) : ∀ e ∈ R, e.path.size ≤ 1000000000 ∧ e.text.size ≤ 300 := fun e he => by
  have h1 := Pp.chk_len (Pp.entE_path (hR.ents e he))
  have h2 := hR.ents e he
  refine ⟨by rw [Lib.size_eq]; omega, ?_⟩
  rw [Pp.entE, if_pos (Pp.entE_path h2)] at h2
  split at h2
  · cases h2
  · split at h2
    · cases h2
    · omega
theorem size_none : (⟨#[]⟩ : ByteArray).size ≤ 150000000000000 := by decide
theorem sized_df {A B : List En} (hA : Pp.Good A) (hB : Pp.Good B) : SizedC 150000000000000 (dels A B ++ mks A B) := by
  intro c hc
  rcases List.mem_append.1 hc with h | h
  · obtain ⟨e, he, rfl⟩ := List.mem_map.1 h
    have := (good_small hA e (List.mem_filter.1 he).1).1
    exact ⟨by show e.path.size ≤ _; omega, size_none, size_none⟩
  · obtain ⟨e, he, rfl⟩ := List.mem_map.1 h
    have := good_small hB e (List.mem_filter.1 he).1
    rw [mkC]
    split
    · exact ⟨by show e.path.size ≤ _; omega, size_none, size_none⟩
    · exact ⟨by show e.path.size ≤ _; omega, size_none, by show e.text.size ≤ _; omega⟩
end Sp

set_option maxRecDepth 100000 in
set_option maxHeartbeats 2000000 in
theorem deltaBack_walk (A B : List En) (va vb : Value) (c : Int) (w : World) (hA : Lies w va A) (hB : Lies w vb B) (hsA : Sized A) (hsB : Sized B) (hc1 : -9223372036854775808 ≤ c) (hc2 : c ≤ 9223372036854775807) :
    Calls Tryz.prog 3 #[va, vb, .int .i64 c] w fun e w' => e = .returned (.bool true) ∧ Below w.heap.size w w' := by
  have HVA := hid hA
  have HVB := hid hB
  have HSA := hid hsA
  have HSB := hid hsB
  clear hA hB hsA hsB
  by_cases h0 : Sp.dfE A B = 0
  · have hab : Pp.treeE A = 0 ∧ Pp.treeE B = 0 := by
      by_cases ha : Pp.treeE A = 0
      · rw [Sp.dfE, if_pos ha] at h0; exact ⟨ha, h0⟩
      · rw [Sp.dfE, if_neg ha] at h0; exact absurd h0 ha
    have hgA := (Pp.good_iff A).1 hab.1
    have hgB := (Pp.good_iff B).1 hab.2
    have HGA := hid hgA
    have HGB := hid hgB
    have HLN : Hid ((Sp.dels A B ++ Sp.mks A B).length ≤ 1000000000000000) := (by
      have h1 := Sp.dels_len A B
      have h2 := Sp.mks_len A B
      have h3 := hgA.len
      have h4 := hgB.len
      rw [List.length_append]; omega : (Sp.dels A B ++ Sp.mks A B).length ≤ 1000000000000000)
    have HDL : Hid (Sp.dfL A B = Sp.dels A B ++ Sp.mks A B) := (by rw [Sp.dfL, if_pos h0] : Sp.dfL A B = Sp.dels A B ++ Sp.mks A B)
    have HSZ := hid (Sp.sized_df hgA hgB)
    have H0 := hid h0
    obtain ⟨x, hx⟩ : ∃ x, x = Pp.chz c 1000000 := ⟨_, rfl⟩
    have hxr := Pp.chz_range c (n := 1000000) (by decide)
    rw [← hx] at hxr
    have HX := hid hx
    have hver : Pp.verE (1 + x) = 0 := by unfold Pp.verE; rw [if_neg (by omega)]
    obtain ⟨hp1, hp2, hp3⟩ := Sp.pat_back hgA hgB hver
    have HP1 := hid hp1
    have HP2 := hid hp2
    have HE2 := hid (Sp.good_dfE hp2 hgB)
    have HS2 := hid ((Sp.sameB_iff (Sp.good_dfE hp2 hgB)).2 hp3)
    have HSZ2 := hid (Pp.good_sizedD hp2)
    obtain ⟨m, hm⟩ : ∃ m, m = (Sp.dels A B ++ Sp.mks A B).length := ⟨_, rfl⟩
    have HSB1 : Hid (Sp.sameB A B = ((m : Int) == 0)) := (by
      rw [Sp.sameB, h0, Sp.dfL, if_pos h0, ← hm]
      cases m with
      | zero => rfl
      | succ m => simp; omega : Sp.sameB A B = ((m : Int) == 0))
    have HM := hid hm
    clear h0 hab hgA hgB hx hp1 hp2 hp3 hver hm
    generalize hb : ((m : Int) == 0) = bb at *
    have HBB := hid hb
    go_enter Tryz.func3, Tryz.ntmps3
    go_wp2_with fail
    refine (deltaBegun_yes _).mono ?_
    rintro e w1 ⟨rfl, hb1⟩
    go_wp2_with fail
    refine (diff_any A B _ _ _ (HVA.out.below hb1) (HVB.out.below hb1) HSA.out HSB.out).mono ?_
    rintro e w2 ⟨u, rfl, hou, hb2⟩
    rw [H0.out]
    rw [HDL.out] at hou
    have HU2 := hid (liesC_row hou HLN.out)
    have hb02 := below_trans hb1 hb2
    obtain ⟨au, capu, rfl⟩ := own_slice hou
    rw [← HM.out] at HU2 ⊢
    clear hou hb1 hb2
    go_wp2_with fail
    refine (same_any A B _ _ _ (HVA.out.below hb02) (HVB.out.below hb02) HSA.out HSB.out).mono ?_
    rintro e w3 ⟨rfl, hb3⟩
    rw [H0.out, HSB1.out]
    have hb03 := below_trans hb02 hb3
    have HU3 := hid (HU2.out.below hb3)
    clear hb02 hb3 HU2
    go_wp2_with fail
    refine (choose_any c 1000000 _ hc1 hc2 (by decide) (by decide)).mono ?_
    rintro e w4 ⟨rfl, hw⟩
    rw [hw, ← HX.out]
    clear hw w4
    go_wp2_with fail
    refine (patch_any A _ (Sp.dels A B ++ Sp.mks A B) _ (1 + x) _ (HVA.out.below hb03) HSA.out HU3.out HSZ.out).mono ?_
    rintro e w5 ⟨r, rfl, hlr, hb5⟩
    rw [HP1.out]
    have HLR := hid hlr
    have hb05 := below_trans hb03 hb5
    clear hlr hb03 hb5 HU3
    go_wp2_with fail
    refine (same_any _ B _ _ _ HLR.out (HVB.out.below hb05) HSZ2.out HSB.out).mono ?_
    rintro e w6 ⟨rfl, hb6⟩
    rw [HE2.out, HS2.out]
    have hb06 := below_trans hb05 hb6
    go_wp2_with fail
    go_ret
    exact ⟨rfl, hb06⟩
  · have HDL : Hid (Sp.dfL A B = []) := (by rw [Sp.dfL, if_neg h0] : Sp.dfL A B = [])
    obtain ⟨x, hx⟩ : ∃ x, x = Sp.dfE A B := ⟨_, rfl⟩
    rw [← hx] at h0
    have HX := hid hx
    have h0' : (x == 0) = false := by simpa using h0
    clear hx h0
    go_enter Tryz.func3, Tryz.ntmps3
    go_wp2_with fail
    refine (deltaBegun_yes _).mono ?_
    rintro e w1 ⟨rfl, hb1⟩
    go_wp2_with fail
    refine (diff_any A B _ _ _ (HVA.out.below hb1) (HVB.out.below hb1) HSA.out HSB.out).mono ?_
    rintro e w2 ⟨u, rfl, hou, hb2⟩
    rw [← HX.out]
    rw [HDL.out] at hou
    obtain ⟨au, capu, rfl⟩ := own_slice hou
    have hb02 := below_trans hb1 hb2
    clear hou hb1 hb2
    go_wp2_with fail
    go_ret
    exact ⟨by simp, hb02⟩
end Go.Proofs.YtogbahkoijkclaaGreat
