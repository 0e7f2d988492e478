/- What package spot answers of a tree. -/
import Derived.Test.YtogbahkoijkclaaGreatD6
import Derived.Test.YtogbahkoijkclaaGreatD4
set_option linter.unusedSimpArgs false
set_option linter.unusedVariables false
namespace Go.Proofs.YtogbahkoijkclaaGreat
open Go.RowKit Go.Maps Go.WideMaps

/-- What a map answers of a path. -/
def Sp.val (L : List En) (p : List UInt8) : Value := match Sp.at_ L p with | some e => .agg #[.int .i64 (Sp.wh e), .string (Sp.tx e), .int .i64 e.ver] | none => .agg #[.int .i64 0, .string ⟨#[]⟩, .int .i64 0]
theorem spotAt_any {b n : Nat} {w : World} {L : List En} (h : w.ownsMap Tryz.prog 9 Sp.rd b n (Sp.D L)) (hL : Sp.Apart L) (p : ByteArray) (hp : p.size ≤ maxLen) : (Instr.lookup 40 (.map (some b)) (.string p) false).run Tryz.prog w = .ok (Sp.val L p.data.toList) w := by
  obtain ⟨v, ps, hrun, hv⟩ := h.lookup (string_keyed Tryz.underlying9) Tryz.underlying40 (Tryz.zeroSpot w) (Sp.rd_mk 0 ⟨#[]⟩ 0) (keyOf_string_mk Tryz.underlying9 hp)
  have e : (Sp.D L).atKey (.string p.data.toList) (Sp.dat 0 ⟨#[]⟩ 0) = _ := Sp.D_at hL p _
  rw [e] at hv
  rw [Sp.val]
  cases hh : Sp.at_ L p.data.toList with
  | none =>
    rw [hh] at hv
    rw [Sp.rd_inv hv] at hrun
    exact hrun
  | some x =>
    rw [hh] at hv
    rw [Sp.rd_inv hv] at hrun
    exact hrun

set_option maxHeartbeats 1000000 in
theorem sof_any (x : En) (w : World) :
    Calls Tryz.prog 18 #[.agg #[.string x.path, .bool x.folder, .string x.text, .int .i64 x.ver]] w fun e w' => e = .returned (.agg #[.int .i64 (Sp.wh x), .string (Sp.tx x), .int .i64 x.ver]) ∧ Below w.heap.size w w' := by
  obtain ⟨p, f, t, n⟩ := x
  cases f with
  | false => exact sof_file p t n w
  | true =>
    show Calls Tryz.prog 18 #[.agg #[.string p, .bool true, .string t, .int .i64 n]] w fun e w' => e = .returned (.agg #[.int .i64 1, .string ⟨#[]⟩, .int .i64 n]) ∧ Below w.heap.size w w'
    go_enter Tryz.func18, Tryz.ntmps18
    go_wp2_with fail
    refine bodyPost_ret (v := .agg #[.int .i64 1, .string ⟨#[]⟩, .int .i64 n]) (by simp [results, Tryz.results18, go_sem]) rfl ⟨rfl, ?_⟩
    exact ((Below.refl _ _).alloc (Nat.le_refl _) _).alloc (by simp) _

set_option maxRecDepth 100000 in
set_option maxHeartbeats 2000000 in
theorem spotOf_any (L : List En) (v : Value) (w : World) (hv : Lies w v L) (hn : L.length ≤ 1000) (hp : ∀ e ∈ L, e.path.size ≤ maxLen) :
    Calls Tryz.prog 10 #[v] w fun e w' => ∃ b, e = .returned (.map (some b)) ∧ w.heap.size ≤ b ∧ w'.ownsMap Tryz.prog 9 Sp.rd b L.length (Sp.D L) ∧ Below w.heap.size w w' := by
  obtain ⟨a, cap, rfl, hcap, hcap2, hL⟩ := hv
  have HL : Hid (∀ i (h : i < L.length), ∃ b o, a = some ⟨b, o, none⟩ ∧ b < w.heap.size ∧ EnAt w b (o + i * 4) L[i]) := hL
  have HP := hid hp
  clear hL hp
  have hmm := Tryz.makeSpots
  have HO := hid (World.ownsMap_made w Tryz.prog 9 Sp.rd)
  have hbel0 : Below w.heap.size w (w.alloc (.map #[] 0)) := (Below.refl _ _).alloc (Nat.le_refl _) _
  go_enter Tryz.func10, Tryz.ntmps10
  go_wp2_with fail
  go_loopw [11] (fun i wr => ∃ k : Nat, k ≤ L.length ∧ i = .int .i64 k ∧ Below w.heap.size w wr ∧ w.heap.size < wr.heap.size ∧ Hid (wr.ownsMap Tryz.prog 9 Sp.rd w.heap.size k (Sp.D (L.take k)))) (fun i _ => L.length - (intOf i).toNat)
  case atStart => exact ⟨0, Nat.zero_le _, rfl, hbel0, by simp, HO⟩
  case round =>
    obtain ⟨k, hk, rfl, hbel, hszr, HM⟩ := hrel
    by_cases hlt : k < L.length
    · obtain ⟨b, o, rfl, hb, he⟩ := HL.out k hlt
      obtain ⟨c0, c1, c2, c3⟩ := he.below hb hbel
      have hpx := HP.out L[k] (List.getElem_mem hlt)
      have HSN : Hid (Sp.D (L.take (k + 1)) = Sp.put (Sp.D (L.take k)) L[k]) := (by rw [List.take_succ_eq_append_getElem hlt, Sp.D_snoc] : Sp.D (L.take (k + 1)) = Sp.put (Sp.D (L.take k)) L[k])
      clear he
      generalize L[k] = x at *
      obtain ⟨wz, hwz⟩ : ∃ wz, wz = wr.alloc (.cells #[.string x.path, .bool x.folder, .string x.text, .int .i64 x.ver] 35) := ⟨_, rfl⟩
      have hbz : Below wr.heap.size wr wz := by rw [hwz]; exact (Below.refl _ _).alloc (Nat.le_refl _) _
      have z0 : wz.cell? ⟨wr.heap.size, 0, none⟩ = some (.string x.path) := by rw [hwz]; simp
      have z1 : wz.cell? ⟨wr.heap.size, 1, none⟩ = some (.bool x.folder) := by rw [hwz]; simp
      have z2 : wz.cell? ⟨wr.heap.size, 2, none⟩ = some (.string x.text) := by rw [hwz]; simp
      have z3 : wz.cell? ⟨wr.heap.size, 3, none⟩ = some (.int .i64 x.ver) := by rw [hwz]; simp
      have hszz : wz.heap.size = wr.heap.size + 1 := by rw [hwz]; simp
      have HMZ := hid (HM.out.alloc (.cells #[.string x.path, .bool x.folder, .string x.text, .int .i64 x.ver] 35))
      rw [← hwz] at HMZ
      have hbel2 := below_trans hbel hbz
      go_wp2_with fail
      rw [← hwz]
      clear hwz c0 c1 c2 c3
      go_region_held3 (fun W => W.cell? ⟨wr.heap.size, 0, none⟩ = some (.string x.path) ∧ W.cell? ⟨wr.heap.size, 1, none⟩ = some (.bool x.folder) ∧ W.cell? ⟨wr.heap.size, 2, none⟩ = some (.string x.text) ∧ W.cell? ⟨wr.heap.size, 3, none⟩ = some (.int .i64 x.ver)) (go_keep) (first
        | (go_at_call 18; refine (sof_any x _).mono ?_; rintro e wa ⟨rfl, hba⟩; have hza : Below wz.heap.size wz wa := ((Below.refl _ _).drew).trans hba; have hma := hid (HMZ.out.kept (row := none) ⟨hza.os, hza.tape, hza.output, hza.size, fun k hk _ => hza.block k hk⟩ (by simp)); obtain ⟨w6, hrun6, hown6, hgr6⟩ := hma.out.update (string_keyed Tryz.underlying9) Tryz.underlying40 (by unfold maxLen; omega) (keyOf_string_mk Tryz.underlying9 hpx) (Sp.rd_mk (Sp.wh x) (Sp.tx x) x.ver); have HO6 := hid hown6; have j0 := (hza.cell (p := ⟨wr.heap.size, 0, none⟩) (by simp [hszz])).trans z0; have j1 := (hza.cell (p := ⟨wr.heap.size, 1, none⟩) (by simp [hszz])).trans z1; have j2 := (hza.cell (p := ⟨wr.heap.size, 2, none⟩) (by simp [hszz])).trans z2; have j3 := (hza.cell (p := ⟨wr.heap.size, 3, none⟩) (by simp [hszz])).trans z3; have hsza := hza.size; have i0 := (hgr6.cell_far ⟨wr.heap.size, 0, none⟩ (by show wr.heap.size < wa.heap.size; omega) (by simp; omega)).trans j0; have i1 := (hgr6.cell_far ⟨wr.heap.size, 1, none⟩ (by show wr.heap.size < wa.heap.size; omega) (by simp; omega)).trans j1; have i2 := (hgr6.cell_far ⟨wr.heap.size, 2, none⟩ (by show wr.heap.size < wa.heap.size; omega) (by simp; omega)).trans j2; have i3 := (hgr6.cell_far ⟨wr.heap.size, 3, none⟩ (by show wr.heap.size < wa.heap.size; omega) (by simp; omega)).trans j3; clear hown6))
      have hbel6 : Below w.heap.size w w6 := (below_trans hbel2 hza).grown hgr6 (by omega) (fun k hk => by simp at hk; omega)
      have hsz6 := hgr6.size
      have HO7 : Hid (w6.ownsMap Tryz.prog 9 Sp.rd w.heap.size (k + 1) (Sp.D (L.take (k + 1)))) := (by rw [HSN.out]; exact HO6.out : w6.ownsMap Tryz.prog 9 Sp.rd w.heap.size (k + 1) (Sp.D (L.take (k + 1))))
      clear HO6 HSN
      go_wp2_with fail
      go_roundw
      case rel => exact ⟨k + 1, by omega, by simp, hbel6, by omega, HO7⟩
      case measure => simp [intOf]; omega
    · obtain rfl : k = L.length := by omega
      have HM2 : Hid (wr.ownsMap Tryz.prog 9 Sp.rd w.heap.size L.length (Sp.D L)) := (by have h := HM.out; rw [List.take_length] at h; exact h : wr.ownsMap Tryz.prog 9 Sp.rd w.heap.size L.length (Sp.D L))
      clear HM
      go_wp2_with fail
      go_ret
      exact ⟨_, rfl, Nat.le_refl _, HM2.out, hbel⟩

/-- Texts in a slice of one's own. -/
def LiesP (B : Nat) (w : World) (v : Value) (Ps : List ByteArray) : Prop := ∃ a cap, v = .slice a Ps.length cap ∧ Ps.length ≤ cap ∧ ∀ i (h : i < Ps.length), ∃ g, a = some ⟨g, 0, none⟩ ∧ B ≤ g ∧ g < w.heap.size ∧ w.cell? ⟨g, i, none⟩ = some (.string Ps[i])
theorem paths_good {b n : Nat} {w : World} {L : List En} (h : w.ownsMap Tryz.prog 9 Sp.rd b n (Sp.D L)) (hr : L.Pairwise (fun x y => Pp.lt x y = true)) (hn : L.length ≤ 1000) :
    Calls Tryz.prog 19 #[.map (some b)] w fun e w' => ∃ v, e = .returned v ∧ LiesP w.heap.size w' v (L.map (fun e => e.path)) ∧ Below w.heap.size w w' := by
  have hsz := Sp.D_size (Sp.apart_rise hr)
  refine (Tryz.paths_any b n _ Sp.rd w h (by rw [hsz]; unfold maxLen; omega) (by rw [hsz]; omega)).mono fun e w' ⟨v, ss, he, hp, hrow, hnil, hb⟩ => ?_
  have hl : ss.length = L.length := by
    have h1 := hp.length_eq
    have h2 := (Sp.D_keys (Sp.apart_rise hr)).length_eq
    rw [List.length_map] at h2
    omega
  rw [Sp.D_sorted hr hp, hl] at hrow
  refine ⟨v, he, ?_, hb⟩
  have hrow' := hrow
  obtain ⟨_, h2⟩ := hrow
  rcases h2 with ⟨hv, hz⟩ | ⟨g, cap, cur, hv, hg, hh, hn2, hm, hz, htake⟩
  · subst hv
    have : L = [] := List.length_eq_zero_iff.1 hz
    subst this
    exact ⟨none, 0, rfl, Nat.le_refl _, fun i hi => absurd hi (by simp)⟩
  · subst hv
    refine ⟨some ⟨g, 0, none⟩, cap, by rw [List.length_map], by rw [List.length_map]; exact hn2, fun i hi => ⟨g, rfl, hg, ?_, ?_⟩⟩
    · rcases Nat.lt_or_ge g w'.heap.size with h | h
      · exact h
      · rw [Array.getElem?_eq_none h] at hh; cases hh
    · rw [List.length_map] at hi
      rw [hrow'.cellAt i (by omega)]
      simp only [List.map_map, List.getElem?_map, List.getElem?_eq_getElem hi, Option.map_some, List.getElem_map, Function.comp]
end Go.Proofs.YtogbahkoijkclaaGreat
