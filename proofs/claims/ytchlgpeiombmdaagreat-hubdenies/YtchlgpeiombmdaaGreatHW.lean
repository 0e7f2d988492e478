/- What the reference's SameChanges, SameCommits, SameJournal and SamePage answer, of the same ones. -/
import Derived.Test.YtchlgpeiombmdaaGreatHQ
import Derived.Test.YtchlgpeiombmdaaGreatHJ
import Derived.Test.YtchlgpeiombmdaaGreatHV
import Derived.Deep.RegionHeld3
set_option linter.unusedSimpArgs false
set_option linter.unusedVariables false
namespace Go.Proofs.YtchlgpeiombmdaaGreat
open Go.RowKit

set_option maxHeartbeats 1000000 in
theorem sameC_yes (L : List Pp.Ch) (v u : Value) (w : World) (hv : LiesC w v L) (hu : LiesC w u L) :
    Calls Tryz.prog 85 #[v, u] w fun e w' => e = .returned (.bool true) ∧ Below w.heap.size w w' := by
 obtain ⟨a, cap, rfl, hcap, hcap2, hL⟩ := hv
 have HL : Hid (∀ i (h : i < L.length), ∃ b o, a = some ⟨b, o, none⟩ ∧ b < w.heap.size ∧ ChAt w b (o + i * 5) L[i]) := hL
 obtain ⟨a', cap', rfl, hcap', _, hL'⟩ := hu
 have HL' : Hid (∀ i (h : i < L.length), ∃ b o, a' = some ⟨b, o, none⟩ ∧ b < w.heap.size ∧ ChAt w b (o + i * 5) L[i]) := hL'
 clear hL hL'
 go_enter Tryz.func85, Tryz.ntmps85
 go_wp2_with fail
 go_loopw [5] (fun i wr => ∃ k : Nat, k ≤ L.length ∧ i = .int .i64 k ∧ Below w.heap.size w wr) (fun i _ => L.length - (intOf i).toNat)
 case atStart => exact ⟨0, Nat.zero_le _, rfl, Below.refl _ _⟩
 case round =>
  obtain ⟨k, hk, rfl, hbel⟩ := hrel
  by_cases hlt : k < L.length
  · obtain ⟨b, o, rfl, hb, he⟩ := HL.out k hlt
    obtain ⟨b', o', rfl, hb', he'⟩ := HL'.out k hlt
    obtain ⟨c0, c1, c2, c3, c4⟩ := he.below hb hbel
    obtain ⟨d0, d1, d2, d3, d4⟩ := he'.below hb' hbel
    go_wp2_with fail
    go_region
    go_wp2_with fail
    go_roundw
    case rel => exact ⟨k + 1, by omega, by simp, hbel.drew⟩
    case measure => simp [intOf]; omega
  · go_wp2_with fail
    go_ret
    exact ⟨rfl, hbel⟩
set_option maxRecDepth 100000 in
set_option maxHeartbeats 4000000 in
theorem sameO_yes (L : List Co) (v u : Value) (w : World) (hv : LiesO w v L) (hu : LiesO w u L) :
    Calls Tryz.prog 43 #[v, u] w fun e w' => e = .returned (.bool true) ∧ Below w.heap.size w w' := by
 obtain ⟨a, cap, rfl, hcap, hcap2, hL⟩ := hv
 have HL : Hid (∀ i (h : i < L.length), ∃ b o, a = some ⟨b, o, none⟩ ∧ b < w.heap.size ∧ CoAt w b (o + i * 3) L[i]) := hL
 obtain ⟨a', cap', rfl, hcap', _, hL'⟩ := hu
 have HL' : Hid (∀ i (h : i < L.length), ∃ b o, a' = some ⟨b, o, none⟩ ∧ b < w.heap.size ∧ CoAt w b (o + i * 3) L[i]) := hL'
 clear hL hL'
 go_enter Tryz.func43, Tryz.ntmps43
 go_wp2_with fail
 go_loopw [5] (fun i wr => ∃ k : Nat, k ≤ L.length ∧ i = .int .i64 k ∧ Below w.heap.size w wr) (fun i _ => L.length - (intOf i).toNat)
 case atStart => exact ⟨0, Nat.zero_le _, rfl, Below.refl _ _⟩
 case round =>
  obtain ⟨k, hk, rfl, hbel⟩ := hrel
  by_cases hlt : k < L.length
  · obtain ⟨b, o, rfl, hb, he⟩ := HL.out k hlt
    obtain ⟨b', o', rfl, hb', he'⟩ := HL'.out k hlt
    obtain ⟨c0, c1, x, c2, hx⟩ := he.below hb hbel
    obtain ⟨d0, d1, y, d2, hy⟩ := he'.below hb' hbel
    have hsz := hbel.size
    have hbl : b < wr.heap.size := by omega
    have hbl' : b' < wr.heap.size := by omega
    generalize L[k] = ck at *
    obtain ⟨nu, ke, ch⟩ := ck
    simp only at c0 c1 hx d0 d1 hy
    have HX := hid hx
    have HY := hid hy
    clear hx hy he he'
    go_wp2_with fail
    go_region_held3 (fun W => W.cell? ⟨b, o + k * 3, none⟩ = some (.int .i64 nu) ∧ W.cell? ⟨b, o + k * 3 + 1, none⟩ = some (.string ke) ∧ W.cell? ⟨b, o + k * 3 + 2, none⟩ = some x ∧ W.cell? ⟨b', o' + k * 3, none⟩ = some (.int .i64 nu) ∧ W.cell? ⟨b', o' + k * 3 + 1, none⟩ = some (.string ke) ∧ W.cell? ⟨b', o' + k * 3 + 2, none⟩ = some y) (go_keep) (first
     | (go_at_call 85; refine (sameC_yes ch x y _ (HX.out.below (Below.refl _ _).drew) (HY.out.below (Below.refl _ _).drew)).mono ?_; rintro e wa ⟨rfl, hba⟩; have hza : Below wr.heap.size wr wa := ((Below.refl _ _).drew).trans hba; have j0 := (hza.cell (p := ⟨b, o + k * 3, none⟩) hbl).trans c0; have j1 := (hza.cell (p := ⟨b, o + k * 3 + 1, none⟩) hbl).trans c1; have j2 := (hza.cell (p := ⟨b, o + k * 3 + 2, none⟩) hbl).trans c2; have i0 := (hza.cell (p := ⟨b', o' + k * 3, none⟩) hbl').trans d0; have i1 := (hza.cell (p := ⟨b', o' + k * 3 + 1, none⟩) hbl').trans d1; have i2 := (hza.cell (p := ⟨b', o' + k * 3 + 2, none⟩) hbl').trans d2))
    have hb2 := below_tr hbel hza
    go_wp2_with fail
    go_roundw
    case rel => exact ⟨k + 1, by omega, by simp, hb2⟩
    case measure => simp [intOf]; omega
  · go_wp2_with fail
    go_ret
    exact ⟨rfl, hbel⟩
set_option maxRecDepth 100000 in
set_option maxHeartbeats 2000000 in
theorem sameJ_yes (J : Jo) (v u : Value) (w : World) (hv : LiesJ w v J) (hu : LiesJ w u J) :
    Calls Tryz.prog 24 #[v, u] w fun e w' => e = .returned (.bool true) ∧ Below w.heap.size w w' := by
 obtain ⟨vb, vc, rfl, hvb, hvc⟩ := hv
 obtain ⟨ub, uc, rfl, hub, huc⟩ := hu
 have HVB := hid hvb
 have HVC := hid hvc
 have HUB := hid hub
 have HUC := hid huc
 obtain ⟨a1, b1, rfl, _⟩ := hvb
 obtain ⟨a2, b2, rfl, _⟩ := hvc
 obtain ⟨a3, b3, rfl, _⟩ := hub
 obtain ⟨a4, b4, rfl, _⟩ := huc
 obtain ⟨wz, hwz⟩ : ∃ wz, wz = (w.alloc (.cells #[.slice a1 J.base.length b1, .int .i64 J.first, .slice a2 J.cos.length b2] 49)).alloc (.cells #[.slice a3 J.base.length b3, .int .i64 J.first, .slice a4 J.cos.length b4] 49) := ⟨_, rfl⟩
 have hbz : Below w.heap.size w wz := by rw [hwz]; exact ((Below.refl _ _).alloc (Nat.le_refl _) _).alloc (by simp) _
 have HBX := hid (show Cs wz w.heap.size [.slice a1 J.base.length b1, .int .i64 J.first, .slice a2 J.cos.length b2] from by rw [hwz]; exact (Cs.new w [.slice a1 J.base.length b1, .int .i64 J.first, .slice a2 J.cos.length b2] _).below ((Below.refl _ _).alloc (Nat.le_refl _) _))
 have HBY := hid (show Cs wz (w.heap.size + 1) [.slice a3 J.base.length b3, .int .i64 J.first, .slice a4 J.cos.length b4] from by
  have := Cs.new (w.alloc (.cells #[.slice a1 J.base.length b1, .int .i64 J.first, .slice a2 J.cos.length b2] 49)) [.slice a3 J.base.length b3, .int .i64 J.first, .slice a4 J.cos.length b4] 49
  rw [hwz]; simpa using this)
 go_enter Tryz.func24, Tryz.ntmps24
 go_wp2_with fail
 rw [← hwz]
 clear hwz
 refine (same_yes J.base _ _ _ (HVB.out.below hbz) (HUB.out.below hbz)).mono ?_
 rintro e w1 ⟨rfl, hb1⟩
 have x1 := (HBX.out.below hb1).cell 1 rfl
 have x2 := (HBX.out.below hb1).cell 2 rfl
 have y1 := (HBY.out.below hb1).cell 1 rfl
 have y2 := (HBY.out.below hb1).cell 2 rfl
 have hb01 := below_tr hbz hb1
 go_wp2_with fail
 refine (sameO_yes J.cos _ _ _ (HVC.out.below hb01) (HUC.out.below hb01)).mono ?_
 rintro e w2 ⟨rfl, hb2⟩
 have hb02 := below_tr hb01 hb2
 go_wp2_with fail
 go_ret
 exact ⟨rfl, hb02⟩
set_option maxRecDepth 100000 in
set_option maxHeartbeats 2000000 in
theorem samePg_yes (P : Pg) (v u : Value) (w : World) (hv : LiesPg w v P) (hu : LiesPg w u P) :
    Calls Tryz.prog 25 #[v, u] w fun e w' => e = .returned (.bool true) ∧ Below w.heap.size w w' := by
 obtain ⟨vb, vc, rfl, hvb, hvc⟩ := hv
 obtain ⟨ub, uc, rfl, hub, huc⟩ := hu
 have HVB := hid hvb
 have HVC := hid hvc
 have HUB := hid hub
 have HUC := hid huc
 obtain ⟨a1, b1, rfl, _⟩ := hvb
 obtain ⟨a2, b2, rfl, _⟩ := hvc
 obtain ⟨a3, b3, rfl, _⟩ := hub
 obtain ⟨a4, b4, rfl, _⟩ := huc
 obtain ⟨wz, hwz⟩ : ∃ wz, wz = (w.alloc (.cells #[.bool P.reset, .slice a1 P.tree.length b1, .slice a2 P.cos.length b2, .int .i64 P.cur, .bool P.more] 37)).alloc (.cells #[.bool P.reset, .slice a3 P.tree.length b3, .slice a4 P.cos.length b4, .int .i64 P.cur, .bool P.more] 37) := ⟨_, rfl⟩
 have hbz : Below w.heap.size w wz := by rw [hwz]; exact ((Below.refl _ _).alloc (Nat.le_refl _) _).alloc (by simp) _
 have HBX := hid (show Cs wz w.heap.size [.bool P.reset, .slice a1 P.tree.length b1, .slice a2 P.cos.length b2, .int .i64 P.cur, .bool P.more] from by rw [hwz]; exact (Cs.new w [.bool P.reset, .slice a1 P.tree.length b1, .slice a2 P.cos.length b2, .int .i64 P.cur, .bool P.more] _).below ((Below.refl _ _).alloc (Nat.le_refl _) _))
 have HBY := hid (show Cs wz (w.heap.size + 1) [.bool P.reset, .slice a3 P.tree.length b3, .slice a4 P.cos.length b4, .int .i64 P.cur, .bool P.more] from by
  have := Cs.new (w.alloc (.cells #[.bool P.reset, .slice a1 P.tree.length b1, .slice a2 P.cos.length b2, .int .i64 P.cur, .bool P.more] 37)) [.bool P.reset, .slice a3 P.tree.length b3, .slice a4 P.cos.length b4, .int .i64 P.cur, .bool P.more] 37
  rw [hwz]; simpa using this)
 go_enter Tryz.func25, Tryz.ntmps25
 go_wp2_with fail
 rw [← hwz]
 clear hwz
 refine (same_yes P.tree _ _ _ (HVB.out.below hbz) (HUB.out.below hbz)).mono ?_
 rintro e w1 ⟨rfl, hb1⟩
 have HX1 := hid (HBX.out.below hb1)
 have HY1 := hid (HBY.out.below hb1)
 have x2 := HX1.out.cell 2 rfl
 have y2 := HY1.out.cell 2 rfl
 have hb01 := below_tr hbz hb1
 go_wp2_with fail
 refine (sameO_yes P.cos _ _ _ (HVC.out.below hb01) (HUC.out.below hb01)).mono ?_
 rintro e w2 ⟨rfl, hb2⟩
 have x3 := (HX1.out.below hb2).cell 3 rfl
 have y3 := (HY1.out.below hb2).cell 3 rfl
 have x4 := (HX1.out.below hb2).cell 4 rfl
 have y4 := (HY1.out.below hb2).cell 4 rfl
 have hb02 := below_tr hb01 hb2
 go_wp2_with fail
 go_ret
 exact ⟨rfl, hb02⟩
end Go.Proofs.YtchlgpeiombmdaaGreat
