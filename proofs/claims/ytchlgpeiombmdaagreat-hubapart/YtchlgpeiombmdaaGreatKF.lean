/- What hub.New, Check, Tree and Serve answer. What hub.Serve answers, where what answer does is known. -/
import Derived.Test.YtchlgpeiombmdaaGreatKE
set_option linter.unusedSimpArgs false
set_option linter.unusedVariables false
namespace Go.Proofs.YtchlgpeiombmdaaGreat
open Go.RowKit

theorem LiesH.shape {w : World} {v : Value} {H : Hb} (h : LiesH w v H) : ∃ fa fc ga gc sa sc, v = .agg #[.slice fa H.fos.length fc, .slice ga H.gs.length gc, .slice sa H.ss.length sc, .int .i64 H.nx, .int .i64 H.la, .int .i64 H.ro, .int .i64 H.now] := by
 obtain ⟨vf, vg, vs, rfl, h2, h3, h4⟩ := h
 obtain ⟨fa, fc, rfl, _⟩ := h2
 obtain ⟨ga, gc, rfl, _⟩ := h3
 obtain ⟨sa, sc, rfl, _⟩ := h4
 exact ⟨fa, fc, ga, gc, sa, sc, rfl⟩
theorem LiesH.nb {W W' : World} {v : Value} {H : Hb} {g : Nat} (h : LiesH W v H) (hw : W.grownBy W' (some g)) (hn : NoStr W g) : LiesH W' v H := by
 obtain ⟨vf, vg, vs, rfl, h2, h3, h4⟩ := h
 exact ⟨vf, vg, vs, rfl, h2.nb hw hn, h3.nb hw hn, h4.nb hw hn⟩
theorem LiesA.nb {W W' : World} {v : Value} {A : An} {g : Nat} (h : LiesA W v A) (hw : W.grownBy W' (some g)) (hn : NoStr W g) : LiesA W' v A := by
 obtain ⟨vt, vc, rfl, h2, h3⟩ := h
 exact ⟨vt, vc, rfl, h2.nb hw hn, h3.nb hw hn⟩
theorem LiesA.shape {w : World} {v : Value} {A : An} (h : LiesA w v A) : ∃ ta tc ca cc, v = .agg #[.int .i64 A.err, .int .i64 A.num, .bool A.pg.reset, .slice ta A.pg.tree.length tc, .slice ca A.pg.cos.length cc, .int .i64 A.pg.cur, .bool A.pg.more] := by
 obtain ⟨vt, vc, rfl, h2, h3⟩ := h
 obtain ⟨ta, tc, rfl, _⟩ := h2
 obtain ⟨ca, cc, rfl, _⟩ := h3
 exact ⟨ta, tc, ca, cc, rfl⟩
theorem SvL.hub {w : World} {g mb : Nat} {H : Hb} (h : SvL w g mb H) : ∃ fa fc ga gc sa sc, Cs w g [.slice fa H.fos.length fc, .slice ga H.gs.length gc, .slice sa H.ss.length sc, .int .i64 H.nx, .int .i64 H.la, .int .i64 H.ro, .int .i64 H.now, .map (some mb)] ∧ LiesH w (.agg #[.slice fa H.fos.length fc, .slice ga H.gs.length gc, .slice sa H.ss.length sc, .int .i64 H.nx, .int .i64 H.la, .int .i64 H.ro, .int .i64 H.now]) H := by
 obtain ⟨fa, fc, ga, gc, sa, sc, h1, h2, h3, h4⟩ := h.shape
 exact ⟨fa, fc, ga, gc, sa, sc, h1, _, _, _, rfl, h2, h3, h4⟩
namespace Hu
def okH (H H' : Hb) : Hb := if hE H = 0 then H' else zeroH
def nwH (l r : Int) : Hb := if Pp.uchE [] 1 l r = 0 then ⟨[], [], [], 1, l, r, 0⟩ else zeroH
def okA (H : Hb) (A : An) : An := if hE H = 0 then A else zeroA
end Hu

set_option maxRecDepth 100000 in
set_option maxHeartbeats 4000000 in
theorem hcheck_any (H : Hb) (v : Value) (w : World) (hv : LiesH w v H) (hs : SizedH H) :
    Calls Tryz.prog 10 #[v] w fun e w' => e = .returned (.int .i64 (Hu.hE H)) ∧ Below w.heap.size w w' := by
 have HV := hid hv
 have HS := hid hs
 obtain ⟨fa, fc, ga, gc, sa, sc, rfl⟩ := hv.shape
 clear hv hs
 obtain ⟨wz, hwz⟩ : ∃ wz, wz = w.alloc (.cells #[.slice fa H.fos.length fc, .slice ga H.gs.length gc, .slice sa H.ss.length sc, .int .i64 H.nx, .int .i64 H.la, .int .i64 H.ro, .int .i64 H.now] 28) := ⟨_, rfl⟩
 have hbz : Below w.heap.size w wz := by rw [hwz]; exact (Below.refl _ _).alloc (Nat.le_refl _) _
 go_enter Tryz.func10, Tryz.ntmps10
 go_wp2_with fail
 rw [← hwz]
 clear hwz
 refine (serving_any H _ _ (HV.out.below hbz) HS.out).mono ?_
 rintro e w1 ⟨p, rfl, _, _, hb1⟩
 have hb01 := below_tr hbz hb1
 go_wp2_with fail
 go_ret
 exact ⟨rfl, hb01⟩
set_option maxRecDepth 100000 in
set_option maxHeartbeats 4000000 in
theorem hnew_any (l r : Int) (w : World) :
    Calls Tryz.prog 19 #[.int .i64 l, .int .i64 r] w fun e w' => ∃ u, e = .returned (.tuple #[u, .int .i64 (Pp.uchE [] 1 l r)]) ∧ LiesH w' u (Hu.nwH l r) ∧ Below w.heap.size w w' := by
 obtain ⟨rr, hrr⟩ : ∃ rr, rr = Pp.uchE [] 1 l r := ⟨_, rfl⟩
 rw [← hrr]
 have HRR := hid hrr
 have HNW := hid (show Hu.nwH l r = if rr = 0 then ⟨[], [], [], 1, l, r, 0⟩ else zeroH from by rw [Hu.nwH, ← hrr])
 clear hrr
 obtain ⟨wa, hwa⟩ : ∃ wa, wa = w.alloc (.cells #[.slice none 0 0, .slice none 0 0, .slice none 0 0, .int .i64 0, .int .i64 0, .int .i64 0, .int .i64 0] 28) := ⟨_, rfl⟩
 obtain ⟨wz, hwz⟩ : ∃ wz, wz = wa.alloc (.cells #[.slice none 0 0, .int .i64 1, .int .i64 l, .int .i64 r] 26) := ⟨_, rfl⟩
 have sa1 : wa.heap.size = w.heap.size + 1 := by rw [hwa]; simp
 have bwa : Below w.heap.size w wa := by rw [hwa]; exact (Below.refl _ _).alloc (Nat.le_refl _) _
 have bwz : Below wa.heap.size wa wz := by rw [hwz]; exact (Below.refl _ _).alloc (Nat.le_refl _) _
 have hbz : Below w.heap.size w wz := below_tr bwa bwz
 have HX : Hid (Cs wz w.heap.size [.slice none 0 0, .slice none 0 0, .slice none 0 0, .int .i64 0, .int .i64 0, .int .i64 0, .int .i64 0]) := ((by rw [hwa]; exact Cs.new w [.slice none 0 0, .slice none 0 0, .slice none 0 0, .int .i64 0, .int .i64 0, .int .i64 0, .int .i64 0] _ : Cs wa w.heap.size [.slice none 0 0, .slice none 0 0, .slice none 0 0, .int .i64 0, .int .i64 0, .int .i64 0, .int .i64 0]).below bwz : Cs wz w.heap.size _)
 have HY : Hid (Cs wz (w.heap.size + 1) [.slice none 0 0, .int .i64 1, .int .i64 l, .int .i64 r]) := (by rw [← sa1, hwz]; exact Cs.new wa [.slice none 0 0, .int .i64 1, .int .i64 l, .int .i64 r] _ : Cs wz (w.heap.size + 1) _)
 have hwzz : (w.alloc (.cells #[.slice none 0 0, .slice none 0 0, .slice none 0 0, .int .i64 0, .int .i64 0, .int .i64 0, .int .i64 0] 28)).alloc (.cells #[.slice none 0 0, .int .i64 1, .int .i64 l, .int .i64 r] 26) = wz := by rw [hwz, hwa]
 have HWZ := hid hwzz
 clear hwa hwz bwa bwz sa1 hwzz
 go_enter Tryz.func19, Tryz.ntmps19
 go_upto_region 2 with fail
 try simp only [World.setCell_alloc_new]
 rw [HWZ.out]
 clear HWZ
 have y0 := HY.out.cell 0 rfl
 have y1 := HY.out.cell 1 rfl
 have y2 := HY.out.cell 2 rfl
 have y3 := HY.out.cell 3 rfl
 go_wp2_with fail
 refine (ucheck_any [] _ 1 l r _ ⟨none, 0, rfl, Nat.le_refl _, by decide, fun i h => absurd h (by simp)⟩ (fun s hs => by cases hs)).mono ?_
 rintro e w1 ⟨rfl, hb1⟩
 rw [← HRR.out]
 have hb01 := below_tr hbz hb1
 have HX1 := hid (HX.out.below hb1)
 have HY1 := hid (HY.out.below hb1)
 clear y0 y1 y2 y3
 by_cases h0 : rr = 0
 · subst h0
   have HNP := hid (show Hu.nwH l r = ⟨[], [], [], 1, l, r, 0⟩ from by rw [HNW.out, if_pos rfl])
   clear HNW
   have y0 := HY1.out.cell 0 rfl
   have y1 := HY1.out.cell 1 rfl
   have y2 := HY1.out.cell 2 rfl
   have y3 := HY1.out.cell 3 rfl
   have p0 := HX1.out.cell 0 rfl
   have f0 := HX1.out.fr 0
   have p1 := HX1.out.cell 1 rfl
   have f1 := HX1.out.fr 1
   have p2 := HX1.out.cell 2 rfl
   have f2 := HX1.out.fr 2
   have p3 := HX1.out.cell 3 rfl
   have f3 := HX1.out.fr 3
   have p4 := HX1.out.cell 4 rfl
   have f4 := HX1.out.fr 4
   have p5 := HX1.out.cell 5 rfl
   have f5 := HX1.out.fr 5
   have p6 := HX1.out.cell 6 rfl
   have f6 := HX1.out.fr 6
   go_wp2_with fail
   refine bodyPost_ret (v := .tuple #[.agg #[.slice none 0 0, .slice none 0 0, .slice none 0 0, .int .i64 1, .int .i64 l, .int .i64 r, .int .i64 0], .int .i64 0]) (by simp [results, Tryz.results19, go_sem, p0, p1, p2, p3, p4, p5, p6]) rfl ⟨_, rfl, ?_, ?_⟩
   · rw [HNP.out]; exact ⟨_, _, _, rfl, liesF_nil _, liesG_nil _, ⟨none, 0, rfl, Nat.le_refl _, Nat.zero_le _, fun i h => absurd h (by simp)⟩⟩
   · exact (((((((hb01.setCell (p := ⟨w.heap.size, 0, none⟩) (Nat.le_refl _) _).setCell (p := ⟨w.heap.size, 1, none⟩) (Nat.le_refl _) _).setCell (p := ⟨w.heap.size, 2, none⟩) (Nat.le_refl _) _).setCell (p := ⟨w.heap.size, 3, none⟩) (Nat.le_refl _) _).setCell (p := ⟨w.heap.size, 4, none⟩) (Nat.le_refl _) _).setCell (p := ⟨w.heap.size, 5, none⟩) (Nat.le_refl _) _).setCell (p := ⟨w.heap.size, 6, none⟩) (Nat.le_refl _) _)
 · have hz : (rr == 0) = false := by simpa using h0
   have hz2 : (rr != 0) = true := by simpa using h0
   have HNP := hid (show Hu.nwH l r = zeroH from by rw [HNW.out, if_neg h0])
   clear HNW
   clear h0
   have p0 := HX1.out.cell 0 rfl
   have f0 := HX1.out.fr 0
   have p1 := HX1.out.cell 1 rfl
   have f1 := HX1.out.fr 1
   have p2 := HX1.out.cell 2 rfl
   have f2 := HX1.out.fr 2
   have p3 := HX1.out.cell 3 rfl
   have f3 := HX1.out.fr 3
   have p4 := HX1.out.cell 4 rfl
   have f4 := HX1.out.fr 4
   have p5 := HX1.out.cell 5 rfl
   have f5 := HX1.out.fr 5
   have p6 := HX1.out.cell 6 rfl
   have f6 := HX1.out.fr 6
   go_wp2_with fail
   refine bodyPost_ret (v := .tuple #[.agg #[.slice none 0 0, .slice none 0 0, .slice none 0 0, .int .i64 0, .int .i64 0, .int .i64 0, .int .i64 0], .int .i64 rr]) (by simp [results, Tryz.results19, go_sem, p0, p1, p2, p3, p4, p5, p6]) rfl ⟨_, rfl, ?_, ?_⟩
   · rw [HNP.out]; exact liesH_zero _
   · exact (((((((hb01.setCell (p := ⟨w.heap.size, 0, none⟩) (Nat.le_refl _) _).setCell (p := ⟨w.heap.size, 1, none⟩) (Nat.le_refl _) _).setCell (p := ⟨w.heap.size, 2, none⟩) (Nat.le_refl _) _).setCell (p := ⟨w.heap.size, 3, none⟩) (Nat.le_refl _) _).setCell (p := ⟨w.heap.size, 4, none⟩) (Nat.le_refl _) _).setCell (p := ⟨w.heap.size, 5, none⟩) (Nat.le_refl _) _).setCell (p := ⟨w.heap.size, 6, none⟩) (Nat.le_refl _) _)
namespace Hu
def trE (H : Hb) (x : ByteArray) : Int := if ¬ hE H = 0 then hE H else if inG H.gs x = true then 0 else 5
def trR (H : Hb) (x : ByteArray) : List En := if trE H x = 0 then Jn.tree (joAt H (whr H.fos H.gs x)) else []
end Hu
set_option maxRecDepth 100000 in
set_option maxHeartbeats 4000000 in
theorem htree_any (H : Hb) (v : Value) (x : ByteArray) (w : World) (hv : LiesH w v H) (hs : SizedH H) (hx : x.size ≤ 150000000000000) :
    Calls Tryz.prog 15 #[v, .string x] w fun e w' => ∃ u, e = .returned (.tuple #[u, .int .i64 (Hu.trE H x)]) ∧ Lies w' u (Hu.trR H x) ∧ Below w.heap.size w w' := by
 have HV := hid hv
 have HS := hid hs
 have HSX := hid hx
 obtain ⟨fa, fc, ga, gc, sa, sc, rfl⟩ := hv.shape
 clear hv hs hx
 obtain ⟨wz, hwz⟩ : ∃ wz, wz = w.alloc (.cells #[.slice fa H.fos.length fc, .slice ga H.gs.length gc, .slice sa H.ss.length sc, .int .i64 H.nx, .int .i64 H.la, .int .i64 H.ro, .int .i64 H.now] 28) := ⟨_, rfl⟩
 have hbz : Below w.heap.size w wz := by rw [hwz]; exact (Below.refl _ _).alloc (Nat.le_refl _) _
 go_enter Tryz.func15, Tryz.ntmps15
 go_wp2_with fail
 rw [← hwz]
 clear hwz
 refine (serving_any H _ _ (HV.out.below hbz) HS.out).mono ?_
 rintro e w1 ⟨p, rfl, hok, hbad, hb1⟩
 have hb01 := below_tr hbz hb1
 by_cases h0 : ¬ (Hu.hE H = 0)
 · have hz : (Hu.hE H == 0) = false := by simpa using h0
   have hz2 : (Hu.hE H != 0) = true := by simpa using h0
   have HE := hid (show Hu.trE H x = Hu.hE H ∧ Hu.trR H x = [] from by
    have e : Hu.trE H x = Hu.hE H := by rw [Hu.trE, if_pos h0]
    exact ⟨e, by rw [Hu.trR, e, if_neg h0]⟩)
   clear h0 hok hbad
   generalize Hu.hE H = r at *
   go_wp2_with fail
   go_ret2
   exact ⟨_, by rw [HE.out.1]; rfl, by rw [HE.out.2]; exact lies_nilE _, hb01⟩
 replace h0 := Decidable.not_not.1 h0
 obtain ⟨rfl, B, vf, vg, vs, hB1, hB2, hsv, hm⟩ := hok h0
 have H0 := hid h0
 have HSV := hid hsv
 have HM := hid hm
 obtain ⟨hC, hOF, _⟩ := hsv
 have HC := hid hC
 have HLF := hid hOF.lies
 obtain ⟨af, cf, rfl, _, _, hat⟩ := hOF.lies
 have hlk := hm.look2 x HSX.out
 have p7 := HC.out.cell 7 rfl
 have p0 := HC.out.cell 0 rfl
 rw [h0]
 cases hin : Hu.inG H.gs x with
 | false =>
  have HE := hid (show Hu.trE H x = 5 ∧ Hu.trR H x = [] from by
   have e : Hu.trE H x = 5 := by rw [Hu.trE, if_neg (fun y => y h0), if_neg (by rw [hin]; decide)]
   exact ⟨e, by rw [Hu.trR, e, if_neg (by decide)]⟩)
  rw [hin] at hlk
  clear h0 hok hbad hin hC hOF hat hm
  go_wp2_with fail
  go_ret2
  exact ⟨_, by rw [HE.out.1]; rfl, by rw [HE.out.2]; exact lies_nilE _, hb01⟩
 | true =>
  have hi0 : Hu.whr H.fos H.gs x < H.fos.length := (Hu.whr_at h0 hin).elim (fun h _ => h)
  have e0 : Hu.trE H x = 0 := by rw [Hu.trE, if_neg (fun y => y h0), if_pos hin]
  have HE : Hid (Hu.trE H x = 0) := e0
  obtain ⟨i, hwi⟩ : ∃ i, i = Hu.whr H.fos H.gs x := ⟨_, rfl⟩
  have hi : i < H.fos.length := by rw [hwi]; exact hi0
  have HEN := hid (show Hu.trR H x = Jn.tree (H.fos[i].jo) from by rw [Hu.trR, if_pos e0, ← hwi, Hu.joAt_eq hi])
  have HCK : Hid (Jn.chkE (H.fos[i].jo) = 0) := (Hu.cf_mem (Hu.h_parts h0).2.1 (List.getElem_mem hi)).2
  have HSJ := hid (HS.out.fos _ (List.getElem_mem hi)).2
  obtain ⟨b, o, rfl, hbl, he⟩ := hat i hi
  rw [hin, ← hwi] at hlk
  have hii : (i : Int) < H.fos.length := by omega
  clear h0 hok hbad hin hC hOF hat hm hwi e0 hi0
  obtain ⟨c0, u, y, c1, c2, c3, hu, hy⟩ := he
  generalize H.fos[i] = s at *
  obtain ⟨na, ⟨jb, jf, jc⟩⟩ := s
  simp only at c0 c1 c2 c3 hu hy
  have HU := hid hu
  have HY := hid hy
  obtain ⟨ua, uc, rfl, _⟩ := hu
  obtain ⟨ya, yc, rfl, _⟩ := hy
  go_wp2_with fail
  refine (jtree_any ⟨jb, jf, jc⟩ _ _ ⟨_, _, rfl, HU.out, HY.out⟩ HSJ.out.1 HSJ.out.2).mono ?_
  rintro e w2 ⟨r, rfl, hl, _, hb2⟩
  rw [HCK.out] at hl ⊢
  have HL := hid hl
  clear hl
  have hb02 := below_tr hb01 hb2
  obtain ⟨ra, rc, rfl, _⟩ := id HL.out
  go_wp2_with fail
  go_ret2
  exact ⟨_, by rw [HE.out]; rfl, by rw [HEN.out]; exact HL.out, hb02⟩
end Go.Proofs.YtchlgpeiombmdaaGreat
set_option linter.unusedSimpArgs false
set_option linter.unusedVariables false
namespace Go.Proofs.YtchlgpeiombmdaaGreat
open Go.RowKit

set_option maxRecDepth 100000 in
set_option maxHeartbeats 4000000 in
theorem serve_bad (H : Hb) (q : Rq) (v vq : Value) (w : World) (hv : LiesH w v H) (hs : SizedH H) (hq : LiesQ w vq q) (h0 : ¬ Hu.hE H = 0) :
    Calls Tryz.prog 9 #[v, vq] w fun e w' => ∃ u a, e = .returned (.tuple #[u, a, .int .i64 (Hu.hE H)]) ∧ LiesH w' u zeroH ∧ LiesA w' a zeroA ∧ Below w.heap.size w w' := by
 obtain ⟨r, hrr⟩ : ∃ r, r = Hu.hE H := ⟨_, rfl⟩
 rw [← hrr] at h0 ⊢
 have HRR := hid hrr
 have H0 := hid h0
 clear h0 hrr
 have HV := hid hv
 have HS := hid hs
 obtain ⟨fa, fc, ga, gc, sa, sc, rfl⟩ := hv.shape
 obtain ⟨va, rfl, lq⟩ := hq
 have HLQ := hid lq
 obtain ⟨qa, qc, rfl, _⟩ := lq
 obtain ⟨kind, who, fo, name, key, text, num, off, base, ch⟩ := q
 simp only at *
 obtain ⟨wa, hwa⟩ : ∃ wa, wa = w.alloc (.cells #[.slice fa H.fos.length fc, .slice ga H.gs.length gc, .slice sa H.ss.length sc, .int .i64 H.nx, .int .i64 H.la, .int .i64 H.ro, .int .i64 H.now] 28) := ⟨_, rfl⟩
 obtain ⟨wb, hwb⟩ : ∃ wb, wb = wa.alloc (.cells #[.int .i64 kind, .string who, .string fo, .string name, .string key, .string text, .int .i64 num, .int .i64 off, .int .i64 base, .slice qa ch.length qc] 31) := ⟨_, rfl⟩
 obtain ⟨wc, hwc⟩ : ∃ wc, wc = wb.alloc (.cells #[.slice none 0 0, .slice none 0 0, .slice none 0 0, .int .i64 0, .int .i64 0, .int .i64 0, .int .i64 0] 28) := ⟨_, rfl⟩
 obtain ⟨wz, hwz⟩ : ∃ wz, wz = wc.alloc (.cells #[.int .i64 0, .int .i64 0, .bool false, .slice none 0 0, .slice none 0 0, .int .i64 0, .bool false] 39) := ⟨_, rfl⟩
 have sa1 : wa.heap.size = w.heap.size + 1 := by rw [hwa]; simp
 have sb1 : wb.heap.size = w.heap.size + 1 + 1 := by rw [hwb]; simp [sa1]
 have sc1 : wc.heap.size = w.heap.size + 1 + 1 + 1 := by rw [hwc]; simp [sb1]
 have bwa : Below w.heap.size w wa := by rw [hwa]; exact (Below.refl _ _).alloc (Nat.le_refl _) _
 have bwb : Below wa.heap.size wa wb := by rw [hwb]; exact (Below.refl _ _).alloc (Nat.le_refl _) _
 have bwc : Below wb.heap.size wb wc := by rw [hwc]; exact (Below.refl _ _).alloc (Nat.le_refl _) _
 have bwz : Below wc.heap.size wc wz := by rw [hwz]; exact (Below.refl _ _).alloc (Nat.le_refl _) _
 have hbz : Below w.heap.size w wz := below_tr bwa (below_tr bwb (below_tr bwc bwz))
 have HX : Hid (Cs wz w.heap.size [.slice fa H.fos.length fc, .slice ga H.gs.length gc, .slice sa H.ss.length sc, .int .i64 H.nx, .int .i64 H.la, .int .i64 H.ro, .int .i64 H.now]) := ((((by rw [hwa]; exact Cs.new w [.slice fa H.fos.length fc, .slice ga H.gs.length gc, .slice sa H.ss.length sc, .int .i64 H.nx, .int .i64 H.la, .int .i64 H.ro, .int .i64 H.now] _ : Cs wa w.heap.size [.slice fa H.fos.length fc, .slice ga H.gs.length gc, .slice sa H.ss.length sc, .int .i64 H.nx, .int .i64 H.la, .int .i64 H.ro, .int .i64 H.now]).below bwb).below bwc).below bwz : Cs wz w.heap.size _)
 have HQX : Hid (Cs wz (w.heap.size + 1) [.int .i64 kind, .string who, .string fo, .string name, .string key, .string text, .int .i64 num, .int .i64 off, .int .i64 base, .slice qa ch.length qc]) := (((by rw [← sa1, hwb]; exact Cs.new wa [.int .i64 kind, .string who, .string fo, .string name, .string key, .string text, .int .i64 num, .int .i64 off, .int .i64 base, .slice qa ch.length qc] _ : Cs wb (w.heap.size + 1) [.int .i64 kind, .string who, .string fo, .string name, .string key, .string text, .int .i64 num, .int .i64 off, .int .i64 base, .slice qa ch.length qc]).below bwc).below bwz : Cs wz (w.heap.size + 1) _)
 have HRX := hid (show Cs wz (w.heap.size + 1 + 1) [.slice none 0 0, .slice none 0 0, .slice none 0 0, .int .i64 0, .int .i64 0, .int .i64 0, .int .i64 0] from (by rw [← sb1, hwc]; exact Cs.new wb [.slice none 0 0, .slice none 0 0, .slice none 0 0, .int .i64 0, .int .i64 0, .int .i64 0, .int .i64 0] _ : Cs wc (w.heap.size + 1 + 1) [.slice none 0 0, .slice none 0 0, .slice none 0 0, .int .i64 0, .int .i64 0, .int .i64 0, .int .i64 0]).below bwz)
 have HAX := hid (show Cs wz (w.heap.size + 1 + 1 + 1) [.int .i64 0, .int .i64 0, .bool false, .slice none 0 0, .slice none 0 0, .int .i64 0, .bool false] from by rw [← sc1, hwz]; exact Cs.new wc [.int .i64 0, .int .i64 0, .bool false, .slice none 0 0, .slice none 0 0, .int .i64 0, .bool false] _)
 have hwzz : (((w.alloc (.cells #[.slice fa H.fos.length fc, .slice ga H.gs.length gc, .slice sa H.ss.length sc, .int .i64 H.nx, .int .i64 H.la, .int .i64 H.ro, .int .i64 H.now] 28)).alloc (.cells #[.int .i64 kind, .string who, .string fo, .string name, .string key, .string text, .int .i64 num, .int .i64 off, .int .i64 base, .slice qa ch.length qc] 31)).alloc (.cells #[.slice none 0 0, .slice none 0 0, .slice none 0 0, .int .i64 0, .int .i64 0, .int .i64 0, .int .i64 0] 28)).alloc (.cells #[.int .i64 0, .int .i64 0, .bool false, .slice none 0 0, .slice none 0 0, .int .i64 0, .bool false] 39) = wz := by rw [hwz, hwc, hwb, hwa]
 have HWZ := hid hwzz
 have hsz : w.heap.size + 1 + 1 + 1 < wz.heap.size := HAX.out.lt
 clear hwa hwb hwc hwz bwa bwb bwc bwz sa1 sb1 sc1 hwzz hv hs
 have x0 := HX.out.cell 0 rfl
 have x1 := HX.out.cell 1 rfl
 have x2 := HX.out.cell 2 rfl
 have x3 := HX.out.cell 3 rfl
 have x4 := HX.out.cell 4 rfl
 have x5 := HX.out.cell 5 rfl
 have x6 := HX.out.cell 6 rfl
 go_enter Tryz.func9, Tryz.ntmps9
 go_upto_region 1 with fail
 rw [HWZ.out]
 clear HWZ
 go_wp2_with fail
 refine (serving_any H _ _ (HV.out.below hbz) HS.out).mono ?_
 rintro e w1 ⟨p, rfl, hok, hbad, hb1⟩
 clear x0 x1 x2 x3 x4 x5 x6
 have hb01 := below_tr hbz hb1
 have HQ1 := hid (HQX.out.below hb1)
 have HR1 := hid (HRX.out.below hb1)
 have HA1 := hid (HAX.out.below hb1)
 have hs1 := hb1.size
 rw [← HRR.out]
 have hz : (r == 0) = false := by simpa using H0.out
 have hz2 : (r != 0) = true := by simpa using H0.out
 clear hok hbad
 have p0 := HR1.out.cell 0 rfl
 have f0 := HR1.out.fr 0
 have p1 := HR1.out.cell 1 rfl
 have f1 := HR1.out.fr 1
 have p2 := HR1.out.cell 2 rfl
 have f2 := HR1.out.fr 2
 have p3 := HR1.out.cell 3 rfl
 have f3 := HR1.out.fr 3
 have p4 := HR1.out.cell 4 rfl
 have f4 := HR1.out.fr 4
 have p5 := HR1.out.cell 5 rfl
 have f5 := HR1.out.fr 5
 have p6 := HR1.out.cell 6 rfl
 have f6 := HR1.out.fr 6
 have y0 := HA1.out.cell 0 rfl
 have g0 := HA1.out.fr 0
 have y1 := HA1.out.cell 1 rfl
 have g1 := HA1.out.fr 1
 have y2 := HA1.out.cell 2 rfl
 have g2 := HA1.out.fr 2
 have y3 := HA1.out.cell 3 rfl
 have g3 := HA1.out.fr 3
 have y4 := HA1.out.cell 4 rfl
 have g4 := HA1.out.fr 4
 have y5 := HA1.out.cell 5 rfl
 have g5 := HA1.out.fr 5
 have y6 := HA1.out.cell 6 rfl
 have g6 := HA1.out.fr 6
 go_wp2_with fail
 refine bodyPost_ret (v := .tuple #[.agg #[.slice none 0 0, .slice none 0 0, .slice none 0 0, .int .i64 0, .int .i64 0, .int .i64 0, .int .i64 0], .agg #[.int .i64 0, .int .i64 0, .bool false, .slice none 0 0, .slice none 0 0, .int .i64 0, .bool false], .int .i64 r]) (by simp [results, Tryz.results9, go_sem, p0, p1, p2, p3, p4, p5, p6, y0, y1, y2, y3, y4, y5, y6]) rfl ⟨_, _, rfl, liesH_zero _, liesA_num _ _ _, ?_⟩
 exact ((((((((((((((hb01.setCell (p := ⟨w.heap.size + 1 + 1, 0, none⟩) (by show _ ≤ w.heap.size + 1 + 1; omega) _).setCell (p := ⟨w.heap.size + 1 + 1, 1, none⟩) (by show _ ≤ w.heap.size + 1 + 1; omega) _).setCell (p := ⟨w.heap.size + 1 + 1, 2, none⟩) (by show _ ≤ w.heap.size + 1 + 1; omega) _).setCell (p := ⟨w.heap.size + 1 + 1, 3, none⟩) (by show _ ≤ w.heap.size + 1 + 1; omega) _).setCell (p := ⟨w.heap.size + 1 + 1, 4, none⟩) (by show _ ≤ w.heap.size + 1 + 1; omega) _).setCell (p := ⟨w.heap.size + 1 + 1, 5, none⟩) (by show _ ≤ w.heap.size + 1 + 1; omega) _).setCell (p := ⟨w.heap.size + 1 + 1, 6, none⟩) (by show _ ≤ w.heap.size + 1 + 1; omega) _).setCell (p := ⟨w.heap.size + 1 + 1 + 1, 0, none⟩) (by show _ ≤ w.heap.size + 1 + 1 + 1; omega) _).setCell (p := ⟨w.heap.size + 1 + 1 + 1, 1, none⟩) (by show _ ≤ w.heap.size + 1 + 1 + 1; omega) _).setCell (p := ⟨w.heap.size + 1 + 1 + 1, 2, none⟩) (by show _ ≤ w.heap.size + 1 + 1 + 1; omega) _).setCell (p := ⟨w.heap.size + 1 + 1 + 1, 3, none⟩) (by show _ ≤ w.heap.size + 1 + 1 + 1; omega) _).setCell (p := ⟨w.heap.size + 1 + 1 + 1, 4, none⟩) (by show _ ≤ w.heap.size + 1 + 1 + 1; omega) _).setCell (p := ⟨w.heap.size + 1 + 1 + 1, 5, none⟩) (by show _ ≤ w.heap.size + 1 + 1 + 1; omega) _).setCell (p := ⟨w.heap.size + 1 + 1 + 1, 6, none⟩) (by show _ ≤ w.heap.size + 1 + 1 + 1; omega) _)
set_option maxRecDepth 100000 in
set_option maxHeartbeats 8000000 in
theorem serve_ok (H H' : Hb) (A : An) (q : Rq) (v vq : Value) (w : World) (hv : LiesH w v H) (hs : SizedH H) (hq : LiesQ w vq q) (h0 : Hu.hE H = 0)
    (hans : ∀ (B : Nat) (W : World) (g mb : Nat) (vf vg vs vq : Value), Sv B W g mb vf vg vs H → SvM W mb H.gs.length H → g < B → B ≤ W.heap.size → LiesQ W vq q → AnsOK W g mb vf vq A H') :
    Calls Tryz.prog 9 #[v, vq] w fun e w' => ∃ u a, e = .returned (.tuple #[u, a, .int .i64 0]) ∧ LiesH w' u H' ∧ LiesA w' a A ∧ Below w.heap.size w w' := by
 have H0 := hid h0
 have HAN := hid hans
 clear h0 hans
 have HV := hid hv
 have HS := hid hs
 obtain ⟨fa, fc, ga, gc, sa, sc, rfl⟩ := hv.shape
 obtain ⟨va, rfl, lq⟩ := hq
 have HLQ := hid lq
 obtain ⟨qa, qc, rfl, _⟩ := lq
 obtain ⟨kind, who, fo, name, key, text, num, off, base, ch⟩ := q
 simp only at *
 obtain ⟨wa, hwa⟩ : ∃ wa, wa = w.alloc (.cells #[.slice fa H.fos.length fc, .slice ga H.gs.length gc, .slice sa H.ss.length sc, .int .i64 H.nx, .int .i64 H.la, .int .i64 H.ro, .int .i64 H.now] 28) := ⟨_, rfl⟩
 obtain ⟨wb, hwb⟩ : ∃ wb, wb = wa.alloc (.cells #[.int .i64 kind, .string who, .string fo, .string name, .string key, .string text, .int .i64 num, .int .i64 off, .int .i64 base, .slice qa ch.length qc] 31) := ⟨_, rfl⟩
 obtain ⟨wc, hwc⟩ : ∃ wc, wc = wb.alloc (.cells #[.slice none 0 0, .slice none 0 0, .slice none 0 0, .int .i64 0, .int .i64 0, .int .i64 0, .int .i64 0] 28) := ⟨_, rfl⟩
 obtain ⟨wz, hwz⟩ : ∃ wz, wz = wc.alloc (.cells #[.int .i64 0, .int .i64 0, .bool false, .slice none 0 0, .slice none 0 0, .int .i64 0, .bool false] 39) := ⟨_, rfl⟩
 have sa1 : wa.heap.size = w.heap.size + 1 := by rw [hwa]; simp
 have sb1 : wb.heap.size = w.heap.size + 1 + 1 := by rw [hwb]; simp [sa1]
 have sc1 : wc.heap.size = w.heap.size + 1 + 1 + 1 := by rw [hwc]; simp [sb1]
 have bwa : Below w.heap.size w wa := by rw [hwa]; exact (Below.refl _ _).alloc (Nat.le_refl _) _
 have bwb : Below wa.heap.size wa wb := by rw [hwb]; exact (Below.refl _ _).alloc (Nat.le_refl _) _
 have bwc : Below wb.heap.size wb wc := by rw [hwc]; exact (Below.refl _ _).alloc (Nat.le_refl _) _
 have bwz : Below wc.heap.size wc wz := by rw [hwz]; exact (Below.refl _ _).alloc (Nat.le_refl _) _
 have hbz : Below w.heap.size w wz := below_tr bwa (below_tr bwb (below_tr bwc bwz))
 have HX : Hid (Cs wz w.heap.size [.slice fa H.fos.length fc, .slice ga H.gs.length gc, .slice sa H.ss.length sc, .int .i64 H.nx, .int .i64 H.la, .int .i64 H.ro, .int .i64 H.now]) := ((((by rw [hwa]; exact Cs.new w [.slice fa H.fos.length fc, .slice ga H.gs.length gc, .slice sa H.ss.length sc, .int .i64 H.nx, .int .i64 H.la, .int .i64 H.ro, .int .i64 H.now] _ : Cs wa w.heap.size [.slice fa H.fos.length fc, .slice ga H.gs.length gc, .slice sa H.ss.length sc, .int .i64 H.nx, .int .i64 H.la, .int .i64 H.ro, .int .i64 H.now]).below bwb).below bwc).below bwz : Cs wz w.heap.size _)
 have HQX : Hid (Cs wz (w.heap.size + 1) [.int .i64 kind, .string who, .string fo, .string name, .string key, .string text, .int .i64 num, .int .i64 off, .int .i64 base, .slice qa ch.length qc]) := (((by rw [← sa1, hwb]; exact Cs.new wa [.int .i64 kind, .string who, .string fo, .string name, .string key, .string text, .int .i64 num, .int .i64 off, .int .i64 base, .slice qa ch.length qc] _ : Cs wb (w.heap.size + 1) [.int .i64 kind, .string who, .string fo, .string name, .string key, .string text, .int .i64 num, .int .i64 off, .int .i64 base, .slice qa ch.length qc]).below bwc).below bwz : Cs wz (w.heap.size + 1) _)
 have HRX := hid (show Cs wz (w.heap.size + 1 + 1) [.slice none 0 0, .slice none 0 0, .slice none 0 0, .int .i64 0, .int .i64 0, .int .i64 0, .int .i64 0] from (by rw [← sb1, hwc]; exact Cs.new wb [.slice none 0 0, .slice none 0 0, .slice none 0 0, .int .i64 0, .int .i64 0, .int .i64 0, .int .i64 0] _ : Cs wc (w.heap.size + 1 + 1) [.slice none 0 0, .slice none 0 0, .slice none 0 0, .int .i64 0, .int .i64 0, .int .i64 0, .int .i64 0]).below bwz)
 have HAX := hid (show Cs wz (w.heap.size + 1 + 1 + 1) [.int .i64 0, .int .i64 0, .bool false, .slice none 0 0, .slice none 0 0, .int .i64 0, .bool false] from by rw [← sc1, hwz]; exact Cs.new wc [.int .i64 0, .int .i64 0, .bool false, .slice none 0 0, .slice none 0 0, .int .i64 0, .bool false] _)
 have hwzz : (((w.alloc (.cells #[.slice fa H.fos.length fc, .slice ga H.gs.length gc, .slice sa H.ss.length sc, .int .i64 H.nx, .int .i64 H.la, .int .i64 H.ro, .int .i64 H.now] 28)).alloc (.cells #[.int .i64 kind, .string who, .string fo, .string name, .string key, .string text, .int .i64 num, .int .i64 off, .int .i64 base, .slice qa ch.length qc] 31)).alloc (.cells #[.slice none 0 0, .slice none 0 0, .slice none 0 0, .int .i64 0, .int .i64 0, .int .i64 0, .int .i64 0] 28)).alloc (.cells #[.int .i64 0, .int .i64 0, .bool false, .slice none 0 0, .slice none 0 0, .int .i64 0, .bool false] 39) = wz := by rw [hwz, hwc, hwb, hwa]
 have HWZ := hid hwzz
 have hsz : w.heap.size + 1 + 1 + 1 < wz.heap.size := HAX.out.lt
 clear hwa hwb hwc hwz bwa bwb bwc bwz sa1 sb1 sc1 hwzz hv hs
 have x0 := HX.out.cell 0 rfl
 have x1 := HX.out.cell 1 rfl
 have x2 := HX.out.cell 2 rfl
 have x3 := HX.out.cell 3 rfl
 have x4 := HX.out.cell 4 rfl
 have x5 := HX.out.cell 5 rfl
 have x6 := HX.out.cell 6 rfl
 go_enter Tryz.func9, Tryz.ntmps9
 go_upto_region 1 with fail
 rw [HWZ.out]
 clear HWZ
 go_wp2_with fail
 refine (serving_any H _ _ (HV.out.below hbz) HS.out).mono ?_
 rintro e w1 ⟨p, rfl, hok, hbad, hb1⟩
 clear x0 x1 x2 x3 x4 x5 x6
 have hb01 := below_tr hbz hb1
 have HQ1 := hid (HQX.out.below hb1)
 have HR1 := hid (HRX.out.below hb1)
 have HA1 := hid (HAX.out.below hb1)
 have hs1 := hb1.size
 obtain ⟨rfl, B, vf, vg, vs, hB1, hB2, hsv, hm⟩ := hok H0.out
 have HSV := hid hsv
 have HM := hid hm
 have HVB := hid (show ∀ b, vf.ownBlock = some b → B ≤ b ∧ b < w1.heap.size from fun b hb => by obtain ⟨_, _, _, ho, _⟩ := hsv.2.1; exact ⟨(ho b hb).1, ho.lt b hb⟩)
 have HGL : Hid (wz.heap.size + 1 + 1 < w1.heap.size) := hsv.1.lt
 rw [H0.out]
 clear hok hbad hsv hm
 have x0 := HQ1.out.cell 0 rfl
 have x1 := HQ1.out.cell 1 rfl
 have x2 := HQ1.out.cell 2 rfl
 have x3 := HQ1.out.cell 3 rfl
 have x4 := HQ1.out.cell 4 rfl
 have x5 := HQ1.out.cell 5 rfl
 have x6 := HQ1.out.cell 6 rfl
 have x7 := HQ1.out.cell 7 rfl
 have x8 := HQ1.out.cell 8 rfl
 have x9 := HQ1.out.cell 9 rfl
 go_wp2_with fail
 refine (HAN.out B w1 (wz.heap.size + 1 + 1) (wz.heap.size + 1) vf vg vs _ HSV.out HM.out (by omega) hB2 ⟨_, rfl, HLQ.out.below hb01⟩).mono ?_
 rintro z w3 ⟨u3, rfl, hA3, hsv3, hn3⟩
 have hgl := HGL.out
 have hbo : wz.heap.size ≤ bo vf (wz.heap.size + 1 + 1) := by
  rw [bo]
  cases hb : vf.ownBlock with
  | none => show wz.heap.size ≤ wz.heap.size + 1 + 1; omega
  | some b => show wz.heap.size ≤ b; have := (HVB.out b hb).1; omega
 have HR3 := hid (HR1.out.nb2 hn3 (by omega) (by omega))
 have HA3 := hid (HA1.out.nb2 hn3 (by omega) (by omega))
 have hb13 : Below wz.heap.size w1 w3 := hn3.to hs1 (by omega) hbo
 have hb03 : Below w.heap.size w w3 := hb01.trans (hb13.mono (by have := hbz.size; omega))
 have HLA3 := hid hA3
 have HSV3 := hid hsv3
 have hs3 := hn3.size
 obtain ⟨ta, tc, ca, cc, rfl⟩ := hA3.shape
 clear hA3 hsv3 hn3 x0 x1 x2 x3 x4 x5 x6 x7 x8 x9
 obtain ⟨w4, hw4⟩ : ∃ w4, w4 = w3.alloc (.cells #[.int .i64 A.err, .int .i64 A.num, .bool A.pg.reset, .slice ta A.pg.tree.length tc, .slice ca A.pg.cos.length cc, .int .i64 A.pg.cur, .bool A.pg.more] 39) := ⟨_, rfl⟩
 have hb4 : Below w3.heap.size w3 w4 := by rw [hw4]; exact (Below.refl _ _).alloc (Nat.le_refl _) _
 have HB4 : Hid (Cs w4 w3.heap.size [.int .i64 A.err, .int .i64 A.num, .bool A.pg.reset, .slice ta A.pg.tree.length tc, .slice ca A.pg.cos.length cc, .int .i64 A.pg.cur, .bool A.pg.more]) := (by rw [hw4]; exact Cs.new w3 [.int .i64 A.err, .int .i64 A.num, .bool A.pg.reset, .slice ta A.pg.tree.length tc, .slice ca A.pg.cos.length cc, .int .i64 A.pg.cur, .bool A.pg.more] _ : Cs w4 w3.heap.size _)
 have HR4 := hid (HR3.out.below hb4)
 have HA4 := hid (HA3.out.below hb4)
 have HLA4 := hid (HLA3.out.below hb4)
 have HSV4 := hid (HSV3.out.below hb4)
 have hb04 := below_tr hb03 hb4
 obtain ⟨fb, fd, gb, gd, sb, sd, hC4, hH4⟩ := HSV4.out.hub
 have HH4 := hid hH4
 have HC4 := hid hC4
 have hs4 := hb4.size
 clear hH4 hC4
 go_upto_region 5 with fail
 try simp only [World.setCell_alloc_new]
 rw [← hw4]
 clear hw4
 have hgl4 := HC4.out.lt
 have hbl4 := HB4.out.lt
 have p0 := HC4.out.cell 0 rfl
 have p1 := HC4.out.cell 1 rfl
 have p2 := HC4.out.cell 2 rfl
 have p3 := HC4.out.cell 3 rfl
 have p4 := HC4.out.cell 4 rfl
 have p5 := HC4.out.cell 5 rfl
 have p6 := HC4.out.cell 6 rfl
 have q0 := HB4.out.cell 0 rfl
 have q1 := HB4.out.cell 1 rfl
 have q2 := HB4.out.cell 2 rfl
 have q3 := HB4.out.cell 3 rfl
 have q4 := HB4.out.cell 4 rfl
 have q5 := HB4.out.cell 5 rfl
 have q6 := HB4.out.cell 6 rfl
 have y0 := HR4.out.cell 0 rfl
 have f0 := HR4.out.fr 0
 have y1 := HR4.out.cell 1 rfl
 have f1 := HR4.out.fr 1
 have y2 := HR4.out.cell 2 rfl
 have f2 := HR4.out.fr 2
 have y3 := HR4.out.cell 3 rfl
 have f3 := HR4.out.fr 3
 have y4 := HR4.out.cell 4 rfl
 have f4 := HR4.out.fr 4
 have y5 := HR4.out.cell 5 rfl
 have f5 := HR4.out.fr 5
 have y6 := HR4.out.cell 6 rfl
 have f6 := HR4.out.fr 6
 have z0 := HA4.out.cell 0 rfl
 have h0 := HA4.out.fr 0
 have z1 := HA4.out.cell 1 rfl
 have h1 := HA4.out.fr 1
 have z2 := HA4.out.cell 2 rfl
 have h2 := HA4.out.fr 2
 have z3 := HA4.out.cell 3 rfl
 have h3 := HA4.out.fr 3
 have z4 := HA4.out.cell 4 rfl
 have h4 := HA4.out.fr 4
 have z5 := HA4.out.cell 5 rfl
 have h5 := HA4.out.fr 5
 have z6 := HA4.out.cell 6 rfl
 have h6 := HA4.out.fr 6
 have n1 : ¬ wz.heap.size + 1 + 1 = w.heap.size + 1 + 1 := by omega
 have n2 : ¬ wz.heap.size + 1 + 1 = w.heap.size + 1 + 1 + 1 := by omega
 have n3 : ¬ w3.heap.size = w.heap.size + 1 + 1 := by omega
 have n4 : ¬ w3.heap.size = w.heap.size + 1 + 1 + 1 := by omega
 have n5 : ¬ w.heap.size + 1 + 1 = w.heap.size + 1 + 1 + 1 := by omega
 have n6 : ¬ w.heap.size + 1 + 1 + 1 = w.heap.size + 1 + 1 := by omega
 go_region
 all_goals
  go_wp2_with fail
  refine bodyPost_ret (v := .tuple #[.agg #[.slice fb H'.fos.length fd, .slice gb H'.gs.length gd, .slice sb H'.ss.length sd, .int .i64 H'.nx, .int .i64 H'.la, .int .i64 H'.ro, .int .i64 H'.now], .agg #[.int .i64 A.err, .int .i64 A.num, .bool A.pg.reset, .slice ta A.pg.tree.length tc, .slice ca A.pg.cos.length cc, .int .i64 A.pg.cur, .bool A.pg.more], .int .i64 0]) (by simp [results, Tryz.results9, go_sem, y0, y1, y2, y3, y4, y5, y6, z0, z1, z2, z3, z4, z5, z6]) rfl ⟨_, _, rfl, ?_, ?_, ?_⟩
  · exact ((HH4.out.nb (grown_on (grown_on (grown_on (grown_on (grown_on (grown_on (nb_set w4 (w.heap.size + 1 + 1) 0 (.slice fb H'.fos.length fd)) (nb_set _ (w.heap.size + 1 + 1) 1 (.slice gb H'.gs.length gd))) (nb_set _ (w.heap.size + 1 + 1) 2 (.slice sb H'.ss.length sd))) (nb_set _ (w.heap.size + 1 + 1) 3 (.int .i64 H'.nx))) (nb_set _ (w.heap.size + 1 + 1) 4 (.int .i64 H'.la))) (nb_set _ (w.heap.size + 1 + 1) 5 (.int .i64 H'.ro))) (nb_set _ (w.heap.size + 1 + 1) 6 (.int .i64 H'.now))) (noStr_hub HR4.out)).nb (grown_on (grown_on (grown_on (grown_on (grown_on (grown_on (nb_set _ (w.heap.size + 1 + 1 + 1) 0 (.int .i64 A.err)) (nb_set _ (w.heap.size + 1 + 1 + 1) 1 (.int .i64 A.num))) (nb_set _ (w.heap.size + 1 + 1 + 1) 2 (.bool A.pg.reset))) (nb_set _ (w.heap.size + 1 + 1 + 1) 3 (.slice ta A.pg.tree.length tc))) (nb_set _ (w.heap.size + 1 + 1 + 1) 4 (.slice ca A.pg.cos.length cc))) (nb_set _ (w.heap.size + 1 + 1 + 1) 5 (.int .i64 A.pg.cur))) (nb_set _ (w.heap.size + 1 + 1 + 1) 6 (.bool A.pg.more))) (noStr_ans (HA4.out.nb (grown_on (grown_on (grown_on (grown_on (grown_on (grown_on (nb_set w4 (w.heap.size + 1 + 1) 0 (.slice fb H'.fos.length fd)) (nb_set _ (w.heap.size + 1 + 1) 1 (.slice gb H'.gs.length gd))) (nb_set _ (w.heap.size + 1 + 1) 2 (.slice sb H'.ss.length sd))) (nb_set _ (w.heap.size + 1 + 1) 3 (.int .i64 H'.nx))) (nb_set _ (w.heap.size + 1 + 1) 4 (.int .i64 H'.la))) (nb_set _ (w.heap.size + 1 + 1) 5 (.int .i64 H'.ro))) (nb_set _ (w.heap.size + 1 + 1) 6 (.int .i64 H'.now))) (by omega)))).below ((Below.refl _ _).drew)
  · exact ((HLA4.out.nb (grown_on (grown_on (grown_on (grown_on (grown_on (grown_on (nb_set w4 (w.heap.size + 1 + 1) 0 (.slice fb H'.fos.length fd)) (nb_set _ (w.heap.size + 1 + 1) 1 (.slice gb H'.gs.length gd))) (nb_set _ (w.heap.size + 1 + 1) 2 (.slice sb H'.ss.length sd))) (nb_set _ (w.heap.size + 1 + 1) 3 (.int .i64 H'.nx))) (nb_set _ (w.heap.size + 1 + 1) 4 (.int .i64 H'.la))) (nb_set _ (w.heap.size + 1 + 1) 5 (.int .i64 H'.ro))) (nb_set _ (w.heap.size + 1 + 1) 6 (.int .i64 H'.now))) (noStr_hub HR4.out)).nb (grown_on (grown_on (grown_on (grown_on (grown_on (grown_on (nb_set _ (w.heap.size + 1 + 1 + 1) 0 (.int .i64 A.err)) (nb_set _ (w.heap.size + 1 + 1 + 1) 1 (.int .i64 A.num))) (nb_set _ (w.heap.size + 1 + 1 + 1) 2 (.bool A.pg.reset))) (nb_set _ (w.heap.size + 1 + 1 + 1) 3 (.slice ta A.pg.tree.length tc))) (nb_set _ (w.heap.size + 1 + 1 + 1) 4 (.slice ca A.pg.cos.length cc))) (nb_set _ (w.heap.size + 1 + 1 + 1) 5 (.int .i64 A.pg.cur))) (nb_set _ (w.heap.size + 1 + 1 + 1) 6 (.bool A.pg.more))) (noStr_ans (HA4.out.nb (grown_on (grown_on (grown_on (grown_on (grown_on (grown_on (nb_set w4 (w.heap.size + 1 + 1) 0 (.slice fb H'.fos.length fd)) (nb_set _ (w.heap.size + 1 + 1) 1 (.slice gb H'.gs.length gd))) (nb_set _ (w.heap.size + 1 + 1) 2 (.slice sb H'.ss.length sd))) (nb_set _ (w.heap.size + 1 + 1) 3 (.int .i64 H'.nx))) (nb_set _ (w.heap.size + 1 + 1) 4 (.int .i64 H'.la))) (nb_set _ (w.heap.size + 1 + 1) 5 (.int .i64 H'.ro))) (nb_set _ (w.heap.size + 1 + 1) 6 (.int .i64 H'.now))) (by omega)))).below ((Below.refl _ _).drew)
  · exact ((((((((((((((hb04.setCell (p := ⟨w.heap.size + 1 + 1, 0, none⟩) (by show _ ≤ w.heap.size + 1 + 1; omega) _).setCell (p := ⟨w.heap.size + 1 + 1, 1, none⟩) (by show _ ≤ w.heap.size + 1 + 1; omega) _).setCell (p := ⟨w.heap.size + 1 + 1, 2, none⟩) (by show _ ≤ w.heap.size + 1 + 1; omega) _).setCell (p := ⟨w.heap.size + 1 + 1, 3, none⟩) (by show _ ≤ w.heap.size + 1 + 1; omega) _).setCell (p := ⟨w.heap.size + 1 + 1, 4, none⟩) (by show _ ≤ w.heap.size + 1 + 1; omega) _).setCell (p := ⟨w.heap.size + 1 + 1, 5, none⟩) (by show _ ≤ w.heap.size + 1 + 1; omega) _).setCell (p := ⟨w.heap.size + 1 + 1, 6, none⟩) (by show _ ≤ w.heap.size + 1 + 1; omega) _).setCell (p := ⟨w.heap.size + 1 + 1 + 1, 0, none⟩) (by show _ ≤ w.heap.size + 1 + 1 + 1; omega) _).setCell (p := ⟨w.heap.size + 1 + 1 + 1, 1, none⟩) (by show _ ≤ w.heap.size + 1 + 1 + 1; omega) _).setCell (p := ⟨w.heap.size + 1 + 1 + 1, 2, none⟩) (by show _ ≤ w.heap.size + 1 + 1 + 1; omega) _).setCell (p := ⟨w.heap.size + 1 + 1 + 1, 3, none⟩) (by show _ ≤ w.heap.size + 1 + 1 + 1; omega) _).setCell (p := ⟨w.heap.size + 1 + 1 + 1, 4, none⟩) (by show _ ≤ w.heap.size + 1 + 1 + 1; omega) _).setCell (p := ⟨w.heap.size + 1 + 1 + 1, 5, none⟩) (by show _ ≤ w.heap.size + 1 + 1 + 1; omega) _).setCell (p := ⟨w.heap.size + 1 + 1 + 1, 6, none⟩) (by show _ ≤ w.heap.size + 1 + 1 + 1; omega) _).drew
end Go.Proofs.YtchlgpeiombmdaaGreat
