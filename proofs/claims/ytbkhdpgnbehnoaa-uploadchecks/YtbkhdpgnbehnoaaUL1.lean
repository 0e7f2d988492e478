/- What the law UploadChecks answers: true, for every uploads and every time. -/
import Derived.Test.YtbkhdpgnbehnoaaU15
import Derived.Test.YtbkhdpgnbehnoaaU17
import Derived.Deep.RegionHeld3
set_option linter.unusedSimpArgs false
set_option linter.unusedVariables false
namespace Go.Proofs.Ytbkhdpgnbehnoaa
open Go.RowKit

set_option maxRecDepth 100000 in
set_option maxHeartbeats 4000000 in
theorem uploadChecks_walk (G : List Se) (v : Value) (x l r now : Int) (w : World) (hv : LiesS w v G) (hs : SizedS G) :
    Calls Try.prog 3 #[.agg #[v, .int .i64 x, .int .i64 l, .int .i64 r], .int .i64 now] w fun e w' => e = .returned (.bool true) ∧ Below w.heap.size w w' := by
  have HV := ghid hv
  have HS := ghid hs
  obtain ⟨av, capv, rfl, _⟩ := hv
  clear hs
  obtain ⟨w2, hw2⟩ : ∃ w2, w2 = w.alloc (.cells #[.slice av G.length capv, .int .i64 x, .int .i64 l, .int .i64 r] 24) := ⟨_, rfl⟩
  have hb2 : Below w.heap.size w w2 := by rw [hw2]; exact (Below.refl _ _).alloc (Nat.le_refl _) _
  have HU2 : Hid (Bx w2 w.heap.size (.slice av G.length capv) (.int .i64 x) (.int .i64 l) (.int .i64 r)) := (by rw [hw2]; exact Bx.new _ _ _ _ _ _ : Bx w2 w.heap.size (.slice av G.length capv) (.int .i64 x) (.int .i64 l) (.int .i64 r))
  by_cases hbg : Pp.bgE G x l r now = 0
  · have HBG := ghid hbg
    have hl20 : G.length ≤ 20 := by
      have h := hbg
      rw [← Pp.go_bg] at h
      exact (Pp.bnd_zero (Pp.uch_zero (Pp.go_zero h).1).1).1
    have hsw := Pp.swL_len now G
    go_enter Try.func3, Try.ntmps3
    go_wp2_with fail
    rw [← hw2]
    clear hw2
    refine (sweep_any G _ x l r now _ (HV.out.below hb2) HS.out).mono ?_
    rintro e w3 (⟨hne, _⟩ | ⟨_, u3, rfl, hown3, hb3⟩)
    · exact absurd HBG.out hne
    have HO3 := ghid hown3
    obtain ⟨a3, cap3, hu3, _, _, _⟩ := HO3.out.lies (by omega)
    subst hu3
    have hb03 := below_trans hb2 hb3
    have hU3 := HU2.out.below hb3
    clear hown3 hb3
    have HU3 := ghid hU3
    obtain ⟨wx, hwx⟩ : ∃ wx, wx = w3.alloc (.cells #[.slice a3 (Pp.swL now G).length cap3, .int .i64 x, .int .i64 l, .int .i64 r] 24) := ⟨_, rfl⟩
    have hbx : Below w3.heap.size w3 wx := by rw [hwx]; exact (Below.refl _ _).alloc (Nat.le_refl _) _
    have HX : Hid (Bx wx w3.heap.size (.slice a3 (Pp.swL now G).length cap3) (.int .i64 x) (.int .i64 l) (.int .i64 r)) := (by rw [hwx]; exact Bx.new _ _ _ _ _ _ : Bx wx w3.heap.size (.slice a3 (Pp.swL now G).length cap3) (.int .i64 x) (.int .i64 l) (.int .i64 r))
    have HUX := ghid (HU3.out.below hbx)
    have HOX := ghid (HO3.out.below hbx)
    have hb0x := below_trans hb03 hbx
    have hszx : wx.heap.size = w3.heap.size + 1 := by rw [hwx]; simp
    obtain ⟨hUb, ⟨c0, c1, c2, c3⟩, _⟩ := hU3
    go_wp2_with fail
    rw [← hwx]
    clear hwx hbx c0 c1 c2 c3 hUb
    refine (beginUpload_any G _ x l r now _ (HV.out.below hb0x) HS.out).mono ?_
    rintro e w4 ⟨rfl, hb4⟩
    rw [HBG.out]
    have HX4 := ghid (HX.out.below hb4)
    have HU4 := ghid (HUX.out.below hb4)
    have HO4 := ghid (HOX.out.below hb4)
    have hb04 := below_trans hb0x hb4
    have hsz4 := hb4.size
    clear hb4
    obtain ⟨wy, hwy⟩ : ∃ wy, wy = w4.alloc (.cells #[.slice none 0 0, .int .i64 0, .int .i64 0, .int .i64 0] 24) := ⟨_, rfl⟩
    have hby : Below w4.heap.size w4 wy := by rw [hwy]; exact (Below.refl _ _).alloc (Nat.le_refl _) _
    have HW : Hid (Bx wy w4.heap.size (.slice none 0 0) (.int .i64 0) (.int .i64 0) (.int .i64 0)) := (by rw [hwy]; exact Bx.new _ _ _ _ _ _ : Bx wy w4.heap.size (.slice none 0 0) (.int .i64 0) (.int .i64 0) (.int .i64 0))
    have HXY := ghid (HX4.out.below hby)
    have HUY := ghid (HU4.out.below hby)
    have HOY := ghid (HO4.out.below hby)
    have hb0y := below_trans hb04 hby
    have hszy : wy.heap.size = w4.heap.size + 1 := by rw [hwy]; simp
    obtain ⟨hUb, ⟨c0, c1, c2, c3⟩, _⟩ := HUY.out
    rw [hwy] at c0 c1 c2 c3 hUb
    go_wp2_with fail
    rw [← hwy]
    clear hwy hby c0 c1 c2 c3 hUb
    refine (sweepOf_any G _ x l r now _ (HV.out.below hb0y) (by omega)).mono ?_
    rintro e w5 ⟨u5, rfl, hown5, hb5⟩
    obtain ⟨a5, cap5, hu5, _, _, _⟩ := hown5.lies (by omega)
    subst hu5
    have HW5 := ghid (HW.out.below hb5)
    have HX5 := ghid (HXY.out.below hb5)
    have HU5 := ghid (HUY.out.below hb5)
    have HO5 := ghid (HOY.out.below hb5)
    have HN5 := ghid hown5
    have hb05 := below_trans hb0y hb5
    have hsz5 := hb5.size
    clear hb5 hown5
    obtain ⟨wq, hwq⟩ : ∃ wq, wq = ((((w5.setCell ⟨w4.heap.size, 0, none⟩ (.slice a5 (Pp.swL now G).length cap5)).setCell ⟨w4.heap.size, 1, none⟩ (.int .i64 x)).setCell ⟨w4.heap.size, 2, none⟩ (.int .i64 l)).setCell ⟨w4.heap.size, 3, none⟩ (.int .i64 r)) := ⟨_, rfl⟩
    have hnbq : w5.grownBy wq (some w4.heap.size) := by rw [hwq]; exact Nb.set4 _ _ _ _ _ _
    have hgne : w3.heap.size ≠ w4.heap.size := by omega
    have hwlt : w.heap.size ≠ w4.heap.size := by have := HUX.out.1; omega
    have HXQ := ghid (HX5.out.nb hnbq hgne)
    have HUQ := ghid (HU5.out.nb hnbq hwlt)
    have HNQ := ghid (HN5.out.nb hnbq (by omega))
    have HOQ : Hid (LiesS wq (.slice a3 (Pp.swL now G).length cap3) (Pp.swL now G)) := (by
      rcases HO3.out with ⟨h1, h2⟩ | ⟨g, cap, h1, h2, h3, h4, _⟩
      · injection h1 with h1 _ h1c
        subst h1; subst h1c
        rw [h2]
        exact liesS_nil _
      · rcases HO5.out with ⟨h1', _⟩ | ⟨g', cap', h1', _, _, h4', _⟩
        · rw [h1] at h1'; cases h1'
        · have hgg : g = g' := by rw [h1] at h1'; injection h1' with h1'; injection h1' with h1'; injection h1'
          subst hgg
          have hl9 : g < w3.heap.size := h4.1
          rw [h1]
          exact (h4'.nb hnbq (by omega)).lies h3 (by omega) : LiesS wq (.slice a3 (Pp.swL now G).length cap3) (Pp.swL now G))
    have hb0q : Below w.heap.size w wq := hb05.trans (Nb.to hnbq hb05.size (by have := HUX.out.1; omega))
    have hszq := hnbq.size
    have hWQ : Bx wq w4.heap.size (.slice a5 (Pp.swL now G).length cap5) (.int .i64 x) (.int .i64 l) (.int .i64 r) := by
      obtain ⟨hWb, ⟨d0, d1, d2, d3⟩, e0, e1, e2, e3⟩ := HW5.out
      rw [hwq]
      exact ⟨by simpa using hWb, ⟨by simp [go_sem, d0, d1, d2, d3], by simp [go_sem, d0, d1, d2, d3], by simp [go_sem, d0, d1, d2, d3], by simp [go_sem, d0, d1, d2, d3]⟩, by simpa using e0, by simpa using e1, by simpa using e2, by simpa using e3⟩
    have HWQ := ghid hWQ
    obtain ⟨hWb, ⟨d0, d1, d2, d3⟩, e0, e1, e2, e3⟩ := HW5.out
    go_wp2_with fail
    rw [← hwq]
    clear hwq hnbq hWQ d0 d1 d2 d3 e0 e1 e2 e3 hWb
    have hCE : ∀ W, Below wq.heap.size wq W → (W.cell? ⟨w.heap.size, 0, none⟩ = some (.slice av G.length capv) ∧ W.cell? ⟨w.heap.size, 1, none⟩ = some (.int .i64 x) ∧ W.cell? ⟨w.heap.size, 2, none⟩ = some (.int .i64 l) ∧ W.cell? ⟨w.heap.size, 3, none⟩ = some (.int .i64 r) ∧ W.cell? ⟨w3.heap.size, 0, none⟩ = some (.slice a3 (Pp.swL now G).length cap3) ∧ W.cell? ⟨w3.heap.size, 1, none⟩ = some (.int .i64 x) ∧ W.cell? ⟨w3.heap.size, 2, none⟩ = some (.int .i64 l) ∧ W.cell? ⟨w3.heap.size, 3, none⟩ = some (.int .i64 r) ∧ W.cell? ⟨w4.heap.size, 0, none⟩ = some (.slice a5 (Pp.swL now G).length cap5) ∧ W.cell? ⟨w4.heap.size, 1, none⟩ = some (.int .i64 x) ∧ W.cell? ⟨w4.heap.size, 2, none⟩ = some (.int .i64 l) ∧ W.cell? ⟨w4.heap.size, 3, none⟩ = some (.int .i64 r)) := fun W hW => by
      obtain ⟨_, ⟨p0, p1, p2, p3⟩, _⟩ := HUQ.out.below hW
      obtain ⟨_, ⟨p4, p5, p6, p7⟩, _⟩ := HXQ.out.below hW
      obtain ⟨_, ⟨p8, p9, p10, p11⟩, _⟩ := HWQ.out.below hW
      exact ⟨p0, p1, p2, p3, p4, p5, p6, p7, p8, p9, p10, p11⟩
    have HCE := ghid hCE
    have HLV : Hid (∀ W, Below wq.heap.size wq W → LiesS W (.slice av G.length capv) G) := (fun W hW => HV.out.below (hb0q.trans (hW.mono hb0q.size)) : ∀ W, Below wq.heap.size wq W → LiesS W (.slice av G.length capv) G)
    have HLX : Hid (∀ W, Below wq.heap.size wq W → LiesS W (.slice a3 (Pp.swL now G).length cap3) (Pp.swL now G)) := (fun W hW => HOQ.out.below hW : ∀ W, Below wq.heap.size wq W → LiesS W (.slice a3 (Pp.swL now G).length cap3) (Pp.swL now G))
    have HLN : Hid (∀ W, Below wq.heap.size wq W → LiesS W (.slice a5 (Pp.swL now G).length cap5) (Pp.swL now G)) := (fun W hW => (HNQ.out.lies (by omega)).below hW : ∀ W, Below wq.heap.size wq W → LiesS W (.slice a5 (Pp.swL now G).length cap5) (Pp.swL now G))
    have HY := ghid (rfl : Pp.uchE G x l r = Pp.uchE G x l r)
    obtain ⟨z0, z1, z2, z3, z4, z5, z6, z7, z8, z9, z10, z11⟩ := hCE wq (Below.refl _ _)
    clear hCE
    generalize Pp.uchE G x l r = y at *
    go_region_held3 (fun W => W.cell? ⟨w.heap.size, 0, none⟩ = some (.slice av G.length capv) ∧ W.cell? ⟨w.heap.size, 1, none⟩ = some (.int .i64 x) ∧ W.cell? ⟨w.heap.size, 2, none⟩ = some (.int .i64 l) ∧ W.cell? ⟨w.heap.size, 3, none⟩ = some (.int .i64 r) ∧ W.cell? ⟨w3.heap.size, 0, none⟩ = some (.slice a3 (Pp.swL now G).length cap3) ∧ W.cell? ⟨w3.heap.size, 1, none⟩ = some (.int .i64 x) ∧ W.cell? ⟨w3.heap.size, 2, none⟩ = some (.int .i64 l) ∧ W.cell? ⟨w3.heap.size, 3, none⟩ = some (.int .i64 r) ∧ W.cell? ⟨w4.heap.size, 0, none⟩ = some (.slice a5 (Pp.swL now G).length cap5) ∧ W.cell? ⟨w4.heap.size, 1, none⟩ = some (.int .i64 x) ∧ W.cell? ⟨w4.heap.size, 2, none⟩ = some (.int .i64 l) ∧ W.cell? ⟨w4.heap.size, 3, none⟩ = some (.int .i64 r)) (go_keep) (first
      | (go_at_call 12; refine (uploadBegun_yes _).mono ?_; rintro e wa ⟨rfl, hba⟩; have hwa : Below wq.heap.size wq wa := (by first | exact (Below.refl _ _).drew.trans (hba.mono (by simp)) | exact hba); obtain ⟨z0, z1, z2, z3, z4, z5, z6, z7, z8, z9, z10, z11⟩ := HCE.out wa hwa)
      | (go_at_call 13; refine (ucheck_any G _ x l r _ (by first | exact HLV.out _ hwa | exact HLV.out _ hwc) HS.out).mono ?_; rintro e wb ⟨rfl, hbb⟩; have hwb : Below wq.heap.size wq wb := (by first | exact below_trans hwa hbb | exact below_trans hwc hbb); obtain ⟨z0, z1, z2, z3, z4, z5, z6, z7, z8, z9, z10, z11⟩ := HCE.out wb hwb)
      | (go_at_call 14; refine (rCheckUploads_any G _ x l r _ (by first | exact HLV.out _ hwb | exact HLV.out _ hwa) HS.out).mono ?_; rintro e wc ⟨rfl, hbc⟩; have hwc : Below wq.heap.size wq wc := (by first | exact below_trans hwb hbc | exact below_trans hwa hbc); obtain ⟨z0, z1, z2, z3, z4, z5, z6, z7, z8, z9, z10, z11⟩ := HCE.out wc hwc)
      | (go_at_call 15; refine (sameUploads_yes (Pp.swL now G) _ _ x l r _ (by first | exact HLX.out _ hwc | exact HLX.out _ hwb) (by first | exact HLN.out _ hwc | exact HLN.out _ hwb)).mono ?_; rintro e wd ⟨rfl, hbd⟩; have hwd : Below wq.heap.size wq wd := (by first | exact below_trans hwc hbd | exact below_trans hwb hbd); obtain ⟨z0, z1, z2, z3, z4, z5, z6, z7, z8, z9, z10, z11⟩ := HCE.out wd hwd))
    all_goals
      go_wp2
      go_ret
      exact ⟨rfl, hb0q.trans (hwd.mono hb0q.size)⟩
  · have HBG := ghid hbg
    have hz : (Pp.bgE G x l r now == 0) = false := by simpa using hbg
    go_enter Try.func3, Try.ntmps3
    go_wp2_with fail
    rw [← hw2]
    clear hw2
    refine (sweep_any G _ x l r now _ (HV.out.below hb2) HS.out).mono ?_
    rintro e w3 (⟨_, rfl, hb3⟩ | ⟨hh, _⟩)
    rotate_left
    · exact absurd hh HBG.out
    have hb03 := below_trans hb2 hb3
    have hU3 := HU2.out.below hb3
    have HU3 := ghid hU3
    clear hb3 hbg
    obtain ⟨wx, hwx⟩ : ∃ wx, wx = w3.alloc (.cells #[.slice none 0 0, .int .i64 0, .int .i64 0, .int .i64 0] 24) := ⟨_, rfl⟩
    have hbx : Below w3.heap.size w3 wx := by rw [hwx]; exact (Below.refl _ _).alloc (Nat.le_refl _) _
    have HX : Hid (Bx wx w3.heap.size (.slice none 0 0) (.int .i64 0) (.int .i64 0) (.int .i64 0)) := (by rw [hwx]; exact Bx.new _ _ _ _ _ _ : Bx wx w3.heap.size (.slice none 0 0) (.int .i64 0) (.int .i64 0) (.int .i64 0))
    have HUX := ghid (HU3.out.below hbx)
    have hb0x := below_trans hb03 hbx
    obtain ⟨hUb, ⟨c0, c1, c2, c3⟩, _⟩ := hU3
    generalize hyy : Pp.bgE G x l r now = yy at *
    go_wp2_with fail
    rw [← hwx]
    clear hwx hbx c0 c1 c2 c3 hUb
    refine (beginUpload_any G _ x l r now _ (HV.out.below hb0x) HS.out).mono ?_
    rintro e w4 ⟨rfl, hb4⟩
    rw [hyy]
    have HX4 := ghid (HX.out.below hb4)
    have HU4 := ghid (HUX.out.below hb4)
    have hb04 := below_trans hb0x hb4
    clear hb4 hyy
    obtain ⟨wq, hwq⟩ : ∃ wq, wq = w4.alloc (.cells #[.slice none 0 0, .int .i64 0, .int .i64 0, .int .i64 0] 24) := ⟨_, rfl⟩
    have hby : Below w4.heap.size w4 wq := by rw [hwq]; exact (Below.refl _ _).alloc (Nat.le_refl _) _
    have HWQ : Hid (Bx wq w4.heap.size (.slice none 0 0) (.int .i64 0) (.int .i64 0) (.int .i64 0)) := (by rw [hwq]; exact Bx.new _ _ _ _ _ _ : Bx wq w4.heap.size (.slice none 0 0) (.int .i64 0) (.int .i64 0) (.int .i64 0))
    have HXQ := ghid (HX4.out.below hby)
    have HUQ := ghid (HU4.out.below hby)
    have hb0q := below_trans hb04 hby
    go_wp2_with fail
    rw [← hwq]
    clear hwq hby
    have hCE : ∀ W, Below wq.heap.size wq W → (W.cell? ⟨w.heap.size, 0, none⟩ = some (.slice av G.length capv) ∧ W.cell? ⟨w.heap.size, 1, none⟩ = some (.int .i64 x) ∧ W.cell? ⟨w.heap.size, 2, none⟩ = some (.int .i64 l) ∧ W.cell? ⟨w.heap.size, 3, none⟩ = some (.int .i64 r) ∧ W.cell? ⟨w3.heap.size, 0, none⟩ = some (.slice none 0 0) ∧ W.cell? ⟨w3.heap.size, 1, none⟩ = some (.int .i64 0) ∧ W.cell? ⟨w3.heap.size, 2, none⟩ = some (.int .i64 0) ∧ W.cell? ⟨w3.heap.size, 3, none⟩ = some (.int .i64 0) ∧ W.cell? ⟨w4.heap.size, 0, none⟩ = some (.slice none 0 0) ∧ W.cell? ⟨w4.heap.size, 1, none⟩ = some (.int .i64 0) ∧ W.cell? ⟨w4.heap.size, 2, none⟩ = some (.int .i64 0) ∧ W.cell? ⟨w4.heap.size, 3, none⟩ = some (.int .i64 0)) := fun W hW => by
      obtain ⟨_, ⟨p0, p1, p2, p3⟩, _⟩ := HUQ.out.below hW
      obtain ⟨_, ⟨p4, p5, p6, p7⟩, _⟩ := HXQ.out.below hW
      obtain ⟨_, ⟨p8, p9, p10, p11⟩, _⟩ := HWQ.out.below hW
      exact ⟨p0, p1, p2, p3, p4, p5, p6, p7, p8, p9, p10, p11⟩
    have HCE := ghid hCE
    have HLV : Hid (∀ W, Below wq.heap.size wq W → LiesS W (.slice av G.length capv) G) := (fun W hW => HV.out.below (hb0q.trans (hW.mono hb0q.size)) : ∀ W, Below wq.heap.size wq W → LiesS W (.slice av G.length capv) G)
    obtain ⟨z0, z1, z2, z3, z4, z5, z6, z7, z8, z9, z10, z11⟩ := hCE wq (Below.refl _ _)
    clear hCE
    generalize Pp.uchE G x l r = y at *
    go_region_held3 (fun W => W.cell? ⟨w.heap.size, 0, none⟩ = some (.slice av G.length capv) ∧ W.cell? ⟨w.heap.size, 1, none⟩ = some (.int .i64 x) ∧ W.cell? ⟨w.heap.size, 2, none⟩ = some (.int .i64 l) ∧ W.cell? ⟨w.heap.size, 3, none⟩ = some (.int .i64 r) ∧ W.cell? ⟨w3.heap.size, 0, none⟩ = some (.slice none 0 0) ∧ W.cell? ⟨w3.heap.size, 1, none⟩ = some (.int .i64 0) ∧ W.cell? ⟨w3.heap.size, 2, none⟩ = some (.int .i64 0) ∧ W.cell? ⟨w3.heap.size, 3, none⟩ = some (.int .i64 0) ∧ W.cell? ⟨w4.heap.size, 0, none⟩ = some (.slice none 0 0) ∧ W.cell? ⟨w4.heap.size, 1, none⟩ = some (.int .i64 0) ∧ W.cell? ⟨w4.heap.size, 2, none⟩ = some (.int .i64 0) ∧ W.cell? ⟨w4.heap.size, 3, none⟩ = some (.int .i64 0)) (go_keep) (first
      | (go_at_call 12; refine (uploadBegun_yes _).mono ?_; rintro e wa ⟨rfl, hba⟩; have hwa : Below wq.heap.size wq wa := (by first | exact (Below.refl _ _).drew.trans (hba.mono (by simp)) | exact hba); obtain ⟨z0, z1, z2, z3, z4, z5, z6, z7, z8, z9, z10, z11⟩ := HCE.out wa hwa)
      | (go_at_call 13; refine (ucheck_any G _ x l r _ (by first | exact HLV.out _ hwa | exact HLV.out _ hwc) HS.out).mono ?_; rintro e wb ⟨rfl, hbb⟩; have hwb : Below wq.heap.size wq wb := (by first | exact below_trans hwa hbb | exact below_trans hwc hbb); obtain ⟨z0, z1, z2, z3, z4, z5, z6, z7, z8, z9, z10, z11⟩ := HCE.out wb hwb)
      | (go_at_call 14; refine (rCheckUploads_any G _ x l r _ (by first | exact HLV.out _ hwb | exact HLV.out _ hwa) HS.out).mono ?_; rintro e wc ⟨rfl, hbc⟩; have hwc : Below wq.heap.size wq wc := (by first | exact below_trans hwb hbc | exact below_trans hwa hbc); obtain ⟨z0, z1, z2, z3, z4, z5, z6, z7, z8, z9, z10, z11⟩ := HCE.out wc hwc)
      | (go_at_call 15; refine (sameUploads_yes [] _ _ 0 0 0 _ (liesS_nil _) (liesS_nil _)).mono ?_; rintro e wd ⟨rfl, hbd⟩; have hwd : Below wq.heap.size wq wd := (by first | exact below_trans hwc hbd | exact below_trans hwb hbd); obtain ⟨z0, z1, z2, z3, z4, z5, z6, z7, z8, z9, z10, z11⟩ := HCE.out wd hwd))
    all_goals
      go_wp2
      go_ret
      exact ⟨rfl, hb0q.trans (hwd.mono hb0q.size)⟩
end Go.Proofs.Ytbkhdpgnbehnoaa
