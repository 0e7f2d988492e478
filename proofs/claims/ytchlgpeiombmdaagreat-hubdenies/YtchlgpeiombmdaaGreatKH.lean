/- What the reference's SameGrants answers of two that are alike. What the reference's SameHub and SameAnswer answer of two that are alike. -/
import Derived.Test.YtchlgpeiombmdaaGreatGD
import Derived.Test.YtchlgpeiombmdaaGreatKF
import Derived.Test.YtchlgpeiombmdaaGreatHW
import Derived.Test.YtchlgpeiombmdaaGreatUB
set_option linter.unusedSimpArgs false
set_option linter.unusedVariables false
namespace Go.Proofs.YtchlgpeiombmdaaGreat
open Go.RowKit

set_option maxHeartbeats 1000000 in
theorem sameGrants_yes (G : List Gr) (v u : Value) (w : World) (hv : LiesG w v G) (hu : LiesG w u G) :
    Calls Tryz.prog 22 #[v, u] w fun e w' => e = .returned (.bool true) ∧ Below w.heap.size w w' := by
 obtain ⟨a, cap, rfl, hcap, hcap2, hL⟩ := hv
 have HL : Hid (∀ i (h : i < G.length), ∃ b o, a = some ⟨b, o, none⟩ ∧ b < w.heap.size ∧ GrAt w b (o + i * 3) G[i]) := hL
 obtain ⟨a', cap', rfl, hcap', _, hL'⟩ := hu
 have HL' : Hid (∀ i (h : i < G.length), ∃ b o, a' = some ⟨b, o, none⟩ ∧ b < w.heap.size ∧ GrAt w b (o + i * 3) G[i]) := hL'
 clear hL hL'
 go_enter Tryz.func22, Tryz.ntmps22
 go_wp2_with fail
 go_loopw [5] (fun i wr => ∃ k : Nat, k ≤ G.length ∧ i = .int .i64 k ∧ Below w.heap.size w wr) (fun i _ => G.length - (intOf i).toNat)
 case atStart => exact ⟨0, Nat.zero_le _, rfl, Below.refl _ _⟩
 case round =>
  obtain ⟨k, hk, rfl, hbel⟩ := hrel
  by_cases hlt : k < G.length
  · obtain ⟨b, o, rfl, hb, he⟩ := HL.out k hlt
    obtain ⟨b', o', rfl, hb', he'⟩ := HL'.out k hlt
    obtain ⟨c0, c1, c2⟩ := he.below hb hbel
    obtain ⟨d0, d1, d2⟩ := he'.below hb' hbel
    go_wp2_with fail
    go_region
    go_wp2_with fail
    go_roundw
    case rel => exact ⟨k + 1, by omega, by simp, hbel.drew⟩
    case measure => simp [intOf]; omega
  · go_wp2_with fail
    go_ret
    exact ⟨rfl, hbel⟩
end Go.Proofs.YtchlgpeiombmdaaGreat
set_option linter.unusedSimpArgs false
set_option linter.unusedVariables false
namespace Go.Proofs.YtchlgpeiombmdaaGreat
open Go.RowKit

set_option maxRecDepth 100000 in
set_option maxHeartbeats 4000000 in
theorem sameAnswer_yes (A : An) (v u : Value) (w : World) (hv : LiesA w v A) (hu : LiesA w u A) :
    Calls Tryz.prog 12 #[v, u] w fun e w' => e = .returned (.bool true) ∧ Below w.heap.size w w' := by
 obtain ⟨vt, vc, rfl, lt, lc⟩ := hv
 obtain ⟨ut, uc, rfl, mt, mc⟩ := hu
 have HVT := hid lt
 have HVC := hid lc
 have HUT := hid mt
 have HUC := hid mc
 obtain ⟨a1, b1, rfl, _⟩ := lt
 obtain ⟨a2, b2, rfl, _⟩ := lc
 obtain ⟨a3, b3, rfl, _⟩ := mt
 obtain ⟨a4, b4, rfl, _⟩ := mc
 obtain ⟨wa, hwa⟩ : ∃ wa, wa = w.alloc (.cells #[.int .i64 A.err, .int .i64 A.num, .bool A.pg.reset, .slice a1 A.pg.tree.length b1, .slice a2 A.pg.cos.length b2, .int .i64 A.pg.cur, .bool A.pg.more] 39) := ⟨_, rfl⟩
 obtain ⟨wz, hwz⟩ : ∃ wz, wz = wa.alloc (.cells #[.int .i64 A.err, .int .i64 A.num, .bool A.pg.reset, .slice a3 A.pg.tree.length b3, .slice a4 A.pg.cos.length b4, .int .i64 A.pg.cur, .bool A.pg.more] 39) := ⟨_, rfl⟩
 have sa1 : wa.heap.size = w.heap.size + 1 := by rw [hwa]; simp
 have bwa : Below w.heap.size w wa := by rw [hwa]; exact (Below.refl _ _).alloc (Nat.le_refl _) _
 have bwz : Below wa.heap.size wa wz := by rw [hwz]; exact (Below.refl _ _).alloc (Nat.le_refl _) _
 have hbz : Below w.heap.size w wz := below_tr bwa bwz
 have HBX : Hid (Cs wz w.heap.size [.int .i64 A.err, .int .i64 A.num, .bool A.pg.reset, .slice a1 A.pg.tree.length b1, .slice a2 A.pg.cos.length b2, .int .i64 A.pg.cur, .bool A.pg.more]) := ((by rw [hwa]; exact Cs.new w [.int .i64 A.err, .int .i64 A.num, .bool A.pg.reset, .slice a1 A.pg.tree.length b1, .slice a2 A.pg.cos.length b2, .int .i64 A.pg.cur, .bool A.pg.more] _ : Cs wa w.heap.size [.int .i64 A.err, .int .i64 A.num, .bool A.pg.reset, .slice a1 A.pg.tree.length b1, .slice a2 A.pg.cos.length b2, .int .i64 A.pg.cur, .bool A.pg.more]).below bwz : Cs wz w.heap.size _)
 have HBY : Hid (Cs wz (w.heap.size + 1) [.int .i64 A.err, .int .i64 A.num, .bool A.pg.reset, .slice a3 A.pg.tree.length b3, .slice a4 A.pg.cos.length b4, .int .i64 A.pg.cur, .bool A.pg.more]) := (by rw [← sa1, hwz]; exact Cs.new wa [.int .i64 A.err, .int .i64 A.num, .bool A.pg.reset, .slice a3 A.pg.tree.length b3, .slice a4 A.pg.cos.length b4, .int .i64 A.pg.cur, .bool A.pg.more] _ : Cs wz (w.heap.size + 1) _)
 have hwzz : (w.alloc (.cells #[.int .i64 A.err, .int .i64 A.num, .bool A.pg.reset, .slice a1 A.pg.tree.length b1, .slice a2 A.pg.cos.length b2, .int .i64 A.pg.cur, .bool A.pg.more] 39)).alloc (.cells #[.int .i64 A.err, .int .i64 A.num, .bool A.pg.reset, .slice a3 A.pg.tree.length b3, .slice a4 A.pg.cos.length b4, .int .i64 A.pg.cur, .bool A.pg.more] 39) = wz := by rw [hwz, hwa]
 have HWZ := hid hwzz
 clear hwa hwz bwa bwz sa1 hwzz
 have x0 := HBX.out.cell 0 rfl
 have x1 := HBX.out.cell 1 rfl
 have x2 := HBX.out.cell 2 rfl
 have x3 := HBX.out.cell 3 rfl
 have x4 := HBX.out.cell 4 rfl
 have x5 := HBX.out.cell 5 rfl
 have x6 := HBX.out.cell 6 rfl
 have y0 := HBY.out.cell 0 rfl
 have y1 := HBY.out.cell 1 rfl
 have y2 := HBY.out.cell 2 rfl
 have y3 := HBY.out.cell 3 rfl
 have y4 := HBY.out.cell 4 rfl
 have y5 := HBY.out.cell 5 rfl
 have y6 := HBY.out.cell 6 rfl
 go_enter Tryz.func12, Tryz.ntmps12
 go_upto_region 1 with fail
 rw [HWZ.out]
 clear HWZ
 go_wp2_with fail
 refine (samePg_yes A.pg _ _ _ ⟨_, _, rfl, HVT.out.below hbz, HVC.out.below hbz⟩ ⟨_, _, rfl, HUT.out.below hbz, HUC.out.below hbz⟩).mono ?_
 rintro e w1 ⟨rfl, hb1⟩
 have hb01 := below_tr hbz hb1
 go_wp2_with fail
 go_ret
 exact ⟨rfl, hb01⟩
set_option maxRecDepth 100000 in
set_option maxHeartbeats 8000000 in
theorem sameHub_yes (H : Hb) (v u : Value) (w : World) (hv : LiesH w v H) (hu : LiesH w u H) :
    Calls Tryz.prog 11 #[v, u] w fun e w' => e = .returned (.bool true) ∧ Below w.heap.size w w' := by
 obtain ⟨fos, gs, ss, nx, la, ro, now⟩ := H
 obtain ⟨vf, vg, vs, rfl, lf, lg, ls⟩ := hv
 obtain ⟨uf, ug, us, rfl, mf, mg, ms⟩ := hu
 simp only at *
 have HVG := hid lg
 have HVS := hid ls
 have HUG := hid mg
 have HUS := hid ms
 obtain ⟨fa, fc, rfl, hcap, _, hL⟩ := lf
 have HL : Hid (∀ i (h : i < fos.length), ∃ b o, fa = some ⟨b, o, none⟩ ∧ b < w.heap.size ∧ ShAt w b (o + i * 4) fos[i]) := hL
 obtain ⟨ea, ec, rfl, hcap', _, hL'⟩ := mf
 have HL' : Hid (∀ i (h : i < fos.length), ∃ b o, ea = some ⟨b, o, none⟩ ∧ b < w.heap.size ∧ ShAt w b (o + i * 4) fos[i]) := hL'
 obtain ⟨ga, gc, rfl, _⟩ := lg
 obtain ⟨sa, sc, rfl, _⟩ := ls
 obtain ⟨ka, kc, rfl, _⟩ := mg
 obtain ⟨ya, yc, rfl, _⟩ := ms
 clear hL hL'
 obtain ⟨wa, hwa⟩ : ∃ wa, wa = w.alloc (.cells #[.slice fa fos.length fc, .slice ga gs.length gc, .slice sa ss.length sc, .int .i64 nx, .int .i64 la, .int .i64 ro, .int .i64 now] 28) := ⟨_, rfl⟩
 obtain ⟨wz, hwz⟩ : ∃ wz, wz = wa.alloc (.cells #[.slice ea fos.length ec, .slice ka gs.length kc, .slice ya ss.length yc, .int .i64 nx, .int .i64 la, .int .i64 ro, .int .i64 now] 28) := ⟨_, rfl⟩
 have sa1 : wa.heap.size = w.heap.size + 1 := by rw [hwa]; simp
 have bwa : Below w.heap.size w wa := by rw [hwa]; exact (Below.refl _ _).alloc (Nat.le_refl _) _
 have bwz : Below wa.heap.size wa wz := by rw [hwz]; exact (Below.refl _ _).alloc (Nat.le_refl _) _
 have hbz : Below w.heap.size w wz := below_tr bwa bwz
 have HBX : Hid (Cs wz w.heap.size [.slice fa fos.length fc, .slice ga gs.length gc, .slice sa ss.length sc, .int .i64 nx, .int .i64 la, .int .i64 ro, .int .i64 now]) := ((by rw [hwa]; exact Cs.new w [.slice fa fos.length fc, .slice ga gs.length gc, .slice sa ss.length sc, .int .i64 nx, .int .i64 la, .int .i64 ro, .int .i64 now] _ : Cs wa w.heap.size [.slice fa fos.length fc, .slice ga gs.length gc, .slice sa ss.length sc, .int .i64 nx, .int .i64 la, .int .i64 ro, .int .i64 now]).below bwz : Cs wz w.heap.size _)
 have HBY : Hid (Cs wz (w.heap.size + 1) [.slice ea fos.length ec, .slice ka gs.length kc, .slice ya ss.length yc, .int .i64 nx, .int .i64 la, .int .i64 ro, .int .i64 now]) := (by rw [← sa1, hwz]; exact Cs.new wa [.slice ea fos.length ec, .slice ka gs.length kc, .slice ya ss.length yc, .int .i64 nx, .int .i64 la, .int .i64 ro, .int .i64 now] _ : Cs wz (w.heap.size + 1) _)
 have hwzz : (w.alloc (.cells #[.slice fa fos.length fc, .slice ga gs.length gc, .slice sa ss.length sc, .int .i64 nx, .int .i64 la, .int .i64 ro, .int .i64 now] 28)).alloc (.cells #[.slice ea fos.length ec, .slice ka gs.length kc, .slice ya ss.length yc, .int .i64 nx, .int .i64 la, .int .i64 ro, .int .i64 now] 28) = wz := by rw [hwz, hwa]
 have HWZ := hid hwzz
 clear hwa hwz bwa bwz sa1 hwzz
 have x0 := HBX.out.cell 0 rfl
 have x1 := HBX.out.cell 1 rfl
 have x2 := HBX.out.cell 2 rfl
 have x3 := HBX.out.cell 3 rfl
 have x4 := HBX.out.cell 4 rfl
 have x5 := HBX.out.cell 5 rfl
 have x6 := HBX.out.cell 6 rfl
 have y0 := HBY.out.cell 0 rfl
 have y1 := HBY.out.cell 1 rfl
 have y2 := HBY.out.cell 2 rfl
 have y3 := HBY.out.cell 3 rfl
 have y4 := HBY.out.cell 4 rfl
 have y5 := HBY.out.cell 5 rfl
 have y6 := HBY.out.cell 6 rfl
 go_enter Tryz.func11, Tryz.ntmps11
 go_upto_region 1 with fail
 rw [HWZ.out]
 clear HWZ
 go_wp2_with fail
 refine (sameGrants_yes gs _ _ _ (HVG.out.below hbz) (HUG.out.below hbz)).mono ?_
 rintro e w1 ⟨rfl, hb1⟩
 have hb01 := below_tr hbz hb1
 have HX1 := hid (HBX.out.below hb1)
 have HY1 := hid (HBY.out.below hb1)
 clear x0 x1 x2 x3 x4 x5 x6 y0 y1 y2 y3 y4 y5 y6
 have x0 := HX1.out.cell 0 rfl
 have x1 := HX1.out.cell 1 rfl
 have x2 := HX1.out.cell 2 rfl
 have x3 := HX1.out.cell 3 rfl
 have x4 := HX1.out.cell 4 rfl
 have x5 := HX1.out.cell 5 rfl
 have x6 := HX1.out.cell 6 rfl
 have y0 := HY1.out.cell 0 rfl
 have y1 := HY1.out.cell 1 rfl
 have y2 := HY1.out.cell 2 rfl
 have y3 := HY1.out.cell 3 rfl
 have y4 := HY1.out.cell 4 rfl
 have y5 := HY1.out.cell 5 rfl
 have y6 := HY1.out.cell 6 rfl
 go_wp2_with fail
 refine (sameUploads_yes ss _ _ nx la ro _ (HVS.out.below hb01) (HUS.out.below hb01)).mono ?_
 rintro e w2 ⟨rfl, hb2⟩
 have hb02 := below_tr hb01 hb2
 have HX2 := hid (HX1.out.below hb2)
 have HY2 := hid (HY1.out.below hb2)
 clear x0 x1 x2 x3 x4 x5 x6 y0 y1 y2 y3 y4 y5 y6
 have x0 := HX2.out.cell 0 rfl
 have x1 := HX2.out.cell 1 rfl
 have x2 := HX2.out.cell 2 rfl
 have x3 := HX2.out.cell 3 rfl
 have x4 := HX2.out.cell 4 rfl
 have x5 := HX2.out.cell 5 rfl
 have x6 := HX2.out.cell 6 rfl
 have y0 := HY2.out.cell 0 rfl
 have y1 := HY2.out.cell 1 rfl
 have y2 := HY2.out.cell 2 rfl
 have y3 := HY2.out.cell 3 rfl
 have y4 := HY2.out.cell 4 rfl
 have y5 := HY2.out.cell 5 rfl
 have y6 := HY2.out.cell 6 rfl
 go_wp2_with fail
 go_loopw [5] (fun i wr => ∃ k : Nat, k ≤ fos.length ∧ i = .int .i64 k ∧ Hid (Cs wr w.heap.size [.slice fa fos.length fc, .slice ga gs.length gc, .slice sa ss.length sc, .int .i64 nx, .int .i64 la, .int .i64 ro, .int .i64 now]) ∧ Hid (Cs wr (w.heap.size + 1) [.slice ea fos.length ec, .slice ka gs.length kc, .slice ya ss.length yc, .int .i64 nx, .int .i64 la, .int .i64 ro, .int .i64 now]) ∧ Below w.heap.size w wr) (fun i _ => fos.length - (intOf i).toNat)
 case atStart => exact ⟨0, Nat.zero_le _, rfl, HX2, HY2, hb02⟩
 case round =>
  clear x0 x1 x2 x3 x4 x5 x6 y0 y1 y2 y3 y4 y5 y6 HX2 HY2 hb02
  obtain ⟨k, hk, rfl, HXr, HYr, hbel⟩ := hrel
  have x0 := HXr.out.cell 0 rfl
  have y0 := HYr.out.cell 0 rfl
  have hxl := HXr.out.lt
  have hyl := HYr.out.lt
  by_cases hlt : k < fos.length
  · obtain ⟨b, o, rfl, hb, he⟩ := HL.out k hlt
    obtain ⟨b', o', rfl, hb', he'⟩ := HL'.out k hlt
    obtain ⟨c0, cu, cx, c1, c2, c3, hcu, hcx⟩ := he.below hb hbel
    obtain ⟨d0, du, dx, d1, d2, d3, hdu, hdx⟩ := he'.below hb' hbel
    have hsz := hbel.size
    have hbl : b < wr.heap.size := by omega
    have hbl' : b' < wr.heap.size := by omega
    have hkk : (k : Int) < fos.length := by omega
    clear he he'
    generalize fos[k] = ck at *
    obtain ⟨na, ⟨jb, jf, jc⟩⟩ := ck
    simp only at c0 c1 c2 c3 hcu hcx d0 d1 d2 d3 hdu hdx
    have HCU := hid hcu
    have HCX := hid hcx
    have HDU := hid hdu
    have HDX := hid hdx
    obtain ⟨a1, b1, rfl, _⟩ := hcu
    obtain ⟨a2, b2, rfl, _⟩ := hcx
    obtain ⟨a3, b3, rfl, _⟩ := hdu
    obtain ⟨a4, b4, rfl, _⟩ := hdx
    go_wp2_with fail
    go_region_held3 (fun W => W.cell? ⟨w.heap.size, 0, none⟩ = some (.slice (some ⟨b, o, none⟩) fos.length fc) ∧ W.cell? ⟨w.heap.size + 1, 0, none⟩ = some (.slice (some ⟨b', o', none⟩) fos.length ec) ∧ W.cell? ⟨b, o + k * 4, none⟩ = some (.string na) ∧ W.cell? ⟨b, o + k * 4 + 1, none⟩ = some (.slice a1 jb.length b1) ∧ W.cell? ⟨b, o + k * 4 + 2, none⟩ = some (.int .i64 jf) ∧ W.cell? ⟨b, o + k * 4 + 3, none⟩ = some (.slice a2 jc.length b2) ∧ W.cell? ⟨b', o' + k * 4, none⟩ = some (.string na) ∧ W.cell? ⟨b', o' + k * 4 + 1, none⟩ = some (.slice a3 jb.length b3) ∧ W.cell? ⟨b', o' + k * 4 + 2, none⟩ = some (.int .i64 jf) ∧ W.cell? ⟨b', o' + k * 4 + 3, none⟩ = some (.slice a4 jc.length b4)) (go_keep) (first
     | (go_at_call 24; refine (sameJ_yes ⟨jb, jf, jc⟩ _ _ _ ⟨_, _, rfl, HCU.out.below (Below.refl _ _).drew, HCX.out.below (Below.refl _ _).drew⟩ ⟨_, _, rfl, HDU.out.below (Below.refl _ _).drew, HDX.out.below (Below.refl _ _).drew⟩).mono ?_; rintro e wa ⟨rfl, hba⟩; have hza : Below wr.heap.size wr wa := ((Below.refl _ _).drew).trans hba; have j0 := (hza.cell (p := ⟨w.heap.size, 0, none⟩) hxl).trans x0; have j1 := (hza.cell (p := ⟨w.heap.size + 1, 0, none⟩) hyl).trans y0; have k0 := (hza.cell (p := ⟨b, o + k * 4, none⟩) hbl).trans c0; have k1 := (hza.cell (p := ⟨b, o + k * 4 + 1, none⟩) hbl).trans c1; have k2 := (hza.cell (p := ⟨b, o + k * 4 + 2, none⟩) hbl).trans c2; have k3 := (hza.cell (p := ⟨b, o + k * 4 + 3, none⟩) hbl).trans c3; have l0 := (hza.cell (p := ⟨b', o' + k * 4, none⟩) hbl').trans d0; have l1 := (hza.cell (p := ⟨b', o' + k * 4 + 1, none⟩) hbl').trans d1; have l2 := (hza.cell (p := ⟨b', o' + k * 4 + 2, none⟩) hbl').trans d2; have l3 := (hza.cell (p := ⟨b', o' + k * 4 + 3, none⟩) hbl').trans d3))
    have hb3 := below_tr hbel hza
    have HXa := hid (HXr.out.below hza)
    have HYa := hid (HYr.out.below hza)
    go_wp2_with fail
    go_roundw
    case rel => exact ⟨k + 1, by omega, by simp, HXa, HYa, hb3⟩
    case measure => simp [intOf]; omega
  · have hkk : ¬ (k : Int) < fos.length := by omega
    go_wp2_with fail
    go_ret
    exact ⟨rfl, hbel⟩
end Go.Proofs.YtchlgpeiombmdaaGreat
