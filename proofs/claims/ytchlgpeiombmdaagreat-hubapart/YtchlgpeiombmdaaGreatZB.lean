/- What journal.Read answers, for every journal, cursor and number. What the reference's PutGrant puts together, grant by grant, as plain mathematics. What the reference's PutGrant answers: the grants with one in its place. What grant.checkGive answers; the reference's putting of a grant. What grant.Give answers, errors too, for every list of grants. What the server's give does. What the server's number answers to requests that give a right. What the server's page answers. What the server's answer is to a request for a page. What Serve answers to requests that it denies, for a page, and that give a right. slices.Insert of a folder ahead of others: where there is room, and where there is none. slices.Insert of a folder, at any place. What Give leaves: grants that pass Check, the right that was given, and all other rights as they were. -/
import Derived.Test.YtchlgpeiombmdaaGreatHQ
import Derived.Test.YtchlgpeiombmdaaGreatGD
import Derived.Test.YtchlgpeiombmdaaGreatGE
import Derived.Test.YtchlgpeiombmdaaGreatKD
import Derived.Test.YtchlgpeiombmdaaGreatKG
import Derived.Test.YtchlgpeiombmdaaGreatKE
import Derived.Test.YtchlgpeiombmdaaGreatKF
import Derived.Test.YtchlgpeiombmdaaGreatH12e
import Derived.Laws.CopyOwn
import Derived.Lib.Overlaps
import Derived.Lib.AppendZerosOnto
import Derived.Laws.NewBlocks
import Derived.Laws.Externs
import Derived.Deep.RegionLaw
import Derived.Deep.DeepCutAuto
import Derived.WalkKit
set_option linter.unusedSimpArgs false
set_option linter.unusedVariables false
namespace Go.Proofs.YtchlgpeiombmdaaGreat
open Go.RowKit

theorem ownP_zero (B : Nat) (w : World) : OwnP B w (.agg #[.bool false, .slice none 0 0, .slice none 0 0, .int .i64 0, .bool false]) Jn.zeroP := ⟨_, _, rfl, lies_nil _, own_nil _ _, ownO_nil _ _⟩
set_option maxRecDepth 100000 in
set_option maxHeartbeats 4000000 in
theorem jread_any (J : Jo) (v : Value) (c m : Int) (w : World) (hv : LiesJ w v J) (hs : Sized J.base) (hcs : SizedO 150000000000000 J.cos) :
    Calls Tryz.prog 75 #[v, .int .i64 c, .int .i64 m] w fun e w' => ∃ r, e = .returned (.tuple #[r, .int .i64 (Jn.rdE J c m)]) ∧ OwnP w.heap.size w' r (Jn.rdR J c m) ∧ Below w.heap.size w w' := by
 have HV := hid hv
 have HS := hid hs
 have HCS := hid hcs
 obtain ⟨vb, vc, rfl, hvb, hvc⟩ := hv
 have HVB := hid hvb
 have HVC := hid hvc
 obtain ⟨ba, bcap, rfl, _⟩ := hvb
 obtain ⟨ca, ccap, rfl, hccap, hccap2, _⟩ := hvc
 clear hs hcs
 obtain ⟨wz, hwz⟩ : ∃ wz, wz = (w.alloc (.cells #[.slice ba J.base.length bcap, .int .i64 J.first, .slice ca J.cos.length ccap] 49)).alloc (.cells #[.bool false, .slice none 0 0, .slice none 0 0, .int .i64 0, .bool false] 37) := ⟨_, rfl⟩
 have hbz : Below w.heap.size w wz := by rw [hwz]; exact ((Below.refl _ _).alloc (Nat.le_refl _) _).alloc (by simp) _
 have HBY := hid (show Cs wz (w.heap.size + 1) [.bool false, .slice none 0 0, .slice none 0 0, .int .i64 0, .bool false] from by
  have := Cs.new (w.alloc (.cells #[.slice ba J.base.length bcap, .int .i64 J.first, .slice ca J.cos.length ccap] 49)) [.bool false, .slice none 0 0, .slice none 0 0, .int .i64 0, .bool false] 37
  rw [hwz]; simpa using this)
 have hNz := HBY.out.lt
 by_cases h0 : Jn.chkE J = 0
 · have H0 := hid h0
   have hpp := Jn.chk_parts h0
   obtain ⟨f1, f2⟩ := Jn.ver_iff.1 hpp.2.1
   have h30 := hpp.2.2.1
   have HFW := hid (show ∀ c ∈ J.cos, c.ch.length ≤ 1000000000 from fun c hc => Nat.le_trans (Jn.chk_few h0 c hc) (by decide))
   have HG := hid (Jn.tree_good h0)
   have hlj : Jn.last J = J.first - 1 + J.cos.length := rfl
   clear hpp
   by_cases m1 : m < 1
   · have hE := Jn.rd_range (c := c) h0 (Or.inl m1)
     have HE := hid hE
     have HR := hid (Jn.rd_bad hE (by decide))
     clear hE h0
     go_enter Tryz.func75, Tryz.ntmps75
     go_wp2_with fail
     rw [← hwz]
     clear hwz
     refine (keep_any J _ _ (HV.out.below hbz) HS.out HCS.out).mono ?_
     rintro e w1 ⟨p, rfl, hK, _, hb1⟩
     obtain ⟨b, mb, vb2, vc2, nn, rfl, hv2, hb, hmb, hKp, hnn⟩ := hK H0.out
     simp only [Value.agg.injEq, Array.mk.injEq, List.cons.injEq, true_and, and_true] at hv2
     obtain ⟨rfl, rfl⟩ := hv2
     rw [H0.out]
     obtain ⟨vt, hC, hT, hM, hne⟩ := hKp
     have HC := hid hC
     have HT := hid hT
     have k1 := hC.cell 1 rfl
     have k2 := hC.cell 2 rfl
     have k3 := hC.cell 3 rfl
     obtain ⟨ta, tcap, rfl, _⟩ := hT
     have hb01 := below_tr hbz hb1
     have HY1 := hid (HBY.out.below hb1)
     clear hK hC hM
     have y0 := HY1.out.cell 0 rfl
     have y1 := HY1.out.cell 1 rfl
     have y2 := HY1.out.cell 2 rfl
     have y3 := HY1.out.cell 3 rfl
     have y4 := HY1.out.cell 4 rfl
     have g0 := HY1.out.fr 0
     have g1 := HY1.out.fr 1
     have g2 := HY1.out.fr 2
     have g3 := HY1.out.fr 3
     have g4 := HY1.out.fr 4
     go_wp2_with fail
     refine bodyPost_ret (v := .tuple #[.agg #[.bool false, .slice none 0 0, .slice none 0 0, .int .i64 0, .bool false], .int .i64 3]) (by simp [results, Tryz.results75, go_sem, y0, y1, y2, y3, y4]) rfl ⟨_, by rw [HE.out], ?_, ?_⟩
     · rw [HR.out]
       exact ownP_zero _ _
     · exact (((((hb01.setCell (p := ⟨w.heap.size + 1, 0, none⟩) (Nat.le_succ _) _).setCell (p := ⟨w.heap.size + 1, 1, none⟩) (Nat.le_succ _) _).setCell (p := ⟨w.heap.size + 1, 2, none⟩) (Nat.le_succ _) _).setCell (p := ⟨w.heap.size + 1, 3, none⟩) (Nat.le_succ _) _).setCell (p := ⟨w.heap.size + 1, 4, none⟩) (Nat.le_succ _) _)
   by_cases m2 : 10 < m
   · have hE := Jn.rd_range (c := c) h0 (Or.inr (Or.inl m2))
     have HE := hid hE
     have HR := hid (Jn.rd_bad hE (by decide))
     clear hE h0
     go_enter Tryz.func75, Tryz.ntmps75
     go_wp2_with fail
     rw [← hwz]
     clear hwz
     refine (keep_any J _ _ (HV.out.below hbz) HS.out HCS.out).mono ?_
     rintro e w1 ⟨p, rfl, hK, _, hb1⟩
     obtain ⟨b, mb, vb2, vc2, nn, rfl, hv2, hb, hmb, hKp, hnn⟩ := hK H0.out
     simp only [Value.agg.injEq, Array.mk.injEq, List.cons.injEq, true_and, and_true] at hv2
     obtain ⟨rfl, rfl⟩ := hv2
     rw [H0.out]
     obtain ⟨vt, hC, hT, hM, hne⟩ := hKp
     have HC := hid hC
     have HT := hid hT
     have k1 := hC.cell 1 rfl
     have k2 := hC.cell 2 rfl
     have k3 := hC.cell 3 rfl
     obtain ⟨ta, tcap, rfl, _⟩ := hT
     have hb01 := below_tr hbz hb1
     have HY1 := hid (HBY.out.below hb1)
     clear hK hC hM
     have y0 := HY1.out.cell 0 rfl
     have y1 := HY1.out.cell 1 rfl
     have y2 := HY1.out.cell 2 rfl
     have y3 := HY1.out.cell 3 rfl
     have y4 := HY1.out.cell 4 rfl
     have g0 := HY1.out.fr 0
     have g1 := HY1.out.fr 1
     have g2 := HY1.out.fr 2
     have g3 := HY1.out.fr 3
     have g4 := HY1.out.fr 4
     go_wp2_with fail
     refine bodyPost_ret (v := .tuple #[.agg #[.bool false, .slice none 0 0, .slice none 0 0, .int .i64 0, .bool false], .int .i64 3]) (by simp [results, Tryz.results75, go_sem, y0, y1, y2, y3, y4]) rfl ⟨_, by rw [HE.out], ?_, ?_⟩
     · rw [HR.out]
       exact ownP_zero _ _
     · exact (((((hb01.setCell (p := ⟨w.heap.size + 1, 0, none⟩) (Nat.le_succ _) _).setCell (p := ⟨w.heap.size + 1, 1, none⟩) (Nat.le_succ _) _).setCell (p := ⟨w.heap.size + 1, 2, none⟩) (Nat.le_succ _) _).setCell (p := ⟨w.heap.size + 1, 3, none⟩) (Nat.le_succ _) _).setCell (p := ⟨w.heap.size + 1, 4, none⟩) (Nat.le_succ _) _)
   by_cases c1 : c < 0
   · have hE := Jn.rd_range (m := m) h0 (Or.inr (Or.inr c1))
     have HE := hid hE
     have HR := hid (Jn.rd_bad hE (by decide))
     clear hE h0
     go_enter Tryz.func75, Tryz.ntmps75
     go_wp2_with fail
     rw [← hwz]
     clear hwz
     refine (keep_any J _ _ (HV.out.below hbz) HS.out HCS.out).mono ?_
     rintro e w1 ⟨p, rfl, hK, _, hb1⟩
     obtain ⟨b, mb, vb2, vc2, nn, rfl, hv2, hb, hmb, hKp, hnn⟩ := hK H0.out
     simp only [Value.agg.injEq, Array.mk.injEq, List.cons.injEq, true_and, and_true] at hv2
     obtain ⟨rfl, rfl⟩ := hv2
     rw [H0.out]
     obtain ⟨vt, hC, hT, hM, hne⟩ := hKp
     have HC := hid hC
     have HT := hid hT
     have k1 := hC.cell 1 rfl
     have k2 := hC.cell 2 rfl
     have k3 := hC.cell 3 rfl
     obtain ⟨ta, tcap, rfl, _⟩ := hT
     have hb01 := below_tr hbz hb1
     have HY1 := hid (HBY.out.below hb1)
     clear hK hC hM
     have y0 := HY1.out.cell 0 rfl
     have y1 := HY1.out.cell 1 rfl
     have y2 := HY1.out.cell 2 rfl
     have y3 := HY1.out.cell 3 rfl
     have y4 := HY1.out.cell 4 rfl
     have g0 := HY1.out.fr 0
     have g1 := HY1.out.fr 1
     have g2 := HY1.out.fr 2
     have g3 := HY1.out.fr 3
     have g4 := HY1.out.fr 4
     go_wp2_with fail
     refine bodyPost_ret (v := .tuple #[.agg #[.bool false, .slice none 0 0, .slice none 0 0, .int .i64 0, .bool false], .int .i64 3]) (by simp [results, Tryz.results75, go_sem, y0, y1, y2, y3, y4]) rfl ⟨_, by rw [HE.out], ?_, ?_⟩
     · rw [HR.out]
       exact ownP_zero _ _
     · exact (((((hb01.setCell (p := ⟨w.heap.size + 1, 0, none⟩) (Nat.le_succ _) _).setCell (p := ⟨w.heap.size + 1, 1, none⟩) (Nat.le_succ _) _).setCell (p := ⟨w.heap.size + 1, 2, none⟩) (Nat.le_succ _) _).setCell (p := ⟨w.heap.size + 1, 3, none⟩) (Nat.le_succ _) _).setCell (p := ⟨w.heap.size + 1, 4, none⟩) (Nat.le_succ _) _)
   have hok : ¬ (m < 1 ∨ 10 < m ∨ c < 0) := by omega
   by_cases c2 : Jn.last J < c
   · have hE := Jn.rd_none h0 hok c2
     have c2' : J.first - 1 + (J.cos.length : Int) < c := by omega
     have HE := hid hE
     have HR := hid (Jn.rd_bad hE (by decide))
     clear hE h0 hok
     go_enter Tryz.func75, Tryz.ntmps75
     go_wp2_with fail
     rw [← hwz]
     clear hwz
     refine (keep_any J _ _ (HV.out.below hbz) HS.out HCS.out).mono ?_
     rintro e w1 ⟨p, rfl, hK, _, hb1⟩
     obtain ⟨b, mb, vb2, vc2, nn, rfl, hv2, hb, hmb, hKp, hnn⟩ := hK H0.out
     simp only [Value.agg.injEq, Array.mk.injEq, List.cons.injEq, true_and, and_true] at hv2
     obtain ⟨rfl, rfl⟩ := hv2
     rw [H0.out]
     obtain ⟨vt, hC, hT, hM, hne⟩ := hKp
     have HC := hid hC
     have HT := hid hT
     have k1 := hC.cell 1 rfl
     have k2 := hC.cell 2 rfl
     have k3 := hC.cell 3 rfl
     obtain ⟨ta, tcap, rfl, _⟩ := hT
     have hb01 := below_tr hbz hb1
     have HY1 := hid (HBY.out.below hb1)
     clear hK hC hM
     go_wp2_with fail
     refine (kLast_any J.first J.cos.length _ b _ _ _ ca _ HC.out f1 (by omega) (by omega)).mono ?_
     rintro e w2 ⟨rfl, hb2⟩
     have HC2 := hid (HC.out.below hb2)
     have HY2 := hid (HY1.out.below hb2)
     have hb02 := below_tr hb01 hb2
     have HT2 := hid (HT.out.below hb2)
     clear k1 k2 k3
     have k1 := HC2.out.cell 1 rfl
     have k2 := HC2.out.cell 2 rfl
     have k3 := HC2.out.cell 3 rfl
     have y0 := HY2.out.cell 0 rfl
     have y1 := HY2.out.cell 1 rfl
     have y2 := HY2.out.cell 2 rfl
     have y3 := HY2.out.cell 3 rfl
     have y4 := HY2.out.cell 4 rfl
     have g0 := HY2.out.fr 0
     have g1 := HY2.out.fr 1
     have g2 := HY2.out.fr 2
     have g3 := HY2.out.fr 3
     have g4 := HY2.out.fr 4
     go_wp2_with fail
     refine bodyPost_ret (v := .tuple #[.agg #[.bool false, .slice none 0 0, .slice none 0 0, .int .i64 0, .bool false], .int .i64 5]) (by simp [results, Tryz.results75, go_sem, y0, y1, y2, y3, y4]) rfl ⟨_, by rw [HE.out], ?_, ?_⟩
     · rw [HR.out]
       exact ownP_zero _ _
     · exact (((((hb02.setCell (p := ⟨w.heap.size + 1, 0, none⟩) (Nat.le_succ _) _).setCell (p := ⟨w.heap.size + 1, 1, none⟩) (Nat.le_succ _) _).setCell (p := ⟨w.heap.size + 1, 2, none⟩) (Nat.le_succ _) _).setCell (p := ⟨w.heap.size + 1, 3, none⟩) (Nat.le_succ _) _).setCell (p := ⟨w.heap.size + 1, 4, none⟩) (Nat.le_succ _) _)
   have hE := Jn.rd_ok h0 hok c2
   have c2' : ¬ J.first - 1 + (J.cos.length : Int) < c := by omega
   have e1 : IntKind.i64.wrap (J.first - 1) = J.first - 1 := by rw [IntKind.wrap_i64]; omega
   by_cases c3 : c < J.first - 1
   · have HE := hid hE
     have HR := hid (Jn.rd_reset hE c3)
     clear hE h0 hok
     go_enter Tryz.func75, Tryz.ntmps75
     go_wp2_with fail
     rw [← hwz]
     clear hwz
     refine (keep_any J _ _ (HV.out.below hbz) HS.out HCS.out).mono ?_
     rintro e w1 ⟨p, rfl, hK, _, hb1⟩
     obtain ⟨b, mb, vb2, vc2, nn, rfl, hv2, hb, hmb, hKp, hnn⟩ := hK H0.out
     simp only [Value.agg.injEq, Array.mk.injEq, List.cons.injEq, true_and, and_true] at hv2
     obtain ⟨rfl, rfl⟩ := hv2
     rw [H0.out]
     obtain ⟨vt, hC, hT, hM, hne⟩ := hKp
     have HC := hid hC
     have HT := hid hT
     have k1 := hC.cell 1 rfl
     have k2 := hC.cell 2 rfl
     have k3 := hC.cell 3 rfl
     obtain ⟨ta, tcap, rfl, _⟩ := hT
     have hb01 := below_tr hbz hb1
     have HY1 := hid (HBY.out.below hb1)
     clear hK hC hM
     go_wp2_with fail
     refine (kLast_any J.first J.cos.length _ b _ _ _ ca _ HC.out f1 (by omega) (by omega)).mono ?_
     rintro e w2 ⟨rfl, hb2⟩
     have HC2 := hid (HC.out.below hb2)
     have HY2 := hid (HY1.out.below hb2)
     have hb02 := below_tr hb01 hb2
     have HT2 := hid (HT.out.below hb2)
     clear k1 k2 k3
     have k1 := HC2.out.cell 1 rfl
     have k2 := HC2.out.cell 2 rfl
     have k3 := HC2.out.cell 3 rfl
     go_wp2_with fail
     refine (cloneE ((Jn.tree J).map Pp.cells) _ _ (liesR_en.1 HT2.out) (by rw [List.length_map]; have := HG.out.len; omega)).mono ?_
     rintro e w3 ⟨u, rfl, hR, hO, hb3⟩
     have HL3 := hid (liesR_en.2 hR)
     have HO3 := hid (hO.mono hb02.size)
     obtain ⟨xa, xcap, rfl, _⟩ := HL3.out
     have HC3 := hid (HC2.out.below hb3)
     have HY3 := hid (HY2.out.below hb3)
     have hb03 := below_tr hb02 hb3
     have HOX := hid hO
     have hs12 := hb1.size
     have hs2 := hb2.size
     clear hR hO k1 k2 k3
     go_wp2_with fail
     refine (kLast_any J.first J.cos.length _ b _ _ _ ca _ HC3.out f1 (by omega) (by omega)).mono ?_
     rintro e w4 ⟨rfl, hb4⟩
     have HL4 := hid (HL3.out.below hb4)
     have HO4 := hid (HO3.out.below hb4)
     have HX4 := hid (HOX.out.below hb4)
     have HY4 := hid (HY3.out.below hb4)
     have hb04 := below_tr hb03 hb4
     have y0 := HY4.out.cell 0 rfl
     have y1 := HY4.out.cell 1 rfl
     have y2 := HY4.out.cell 2 rfl
     have y3 := HY4.out.cell 3 rfl
     have y4 := HY4.out.cell 4 rfl
     have g0 := HY4.out.fr 0
     have g1 := HY4.out.fr 1
     have g2 := HY4.out.fr 2
     have g3 := HY4.out.fr 3
     have g4 := HY4.out.fr 4
     go_wp2_with fail
     refine bodyPost_ret (v := .tuple #[.agg #[.bool true, .slice xa (Jn.tree J).length xcap, .slice none 0 0, .int .i64 (J.first - 1 + J.cos.length), .bool false], .int .i64 0]) (by simp [results, Tryz.results75, go_sem, y0, y1, y2, y3, y4]) rfl ⟨_, by rw [HE.out], ?_, ?_⟩
     · rw [HR.out]
       have k0 : ∀ g, (Value.slice xa (Jn.tree J).length xcap).ownBlock = some g → g ≠ w.heap.size + 1 := fun g hg => by have := (HX4.out g hg).1; omega
       refine ⟨_, _, rfl, ((((HL4.out.nbo (nb_set _ _ _ _) k0).nbo (nb_set _ _ _ _) k0).nbo (nb_set _ _ _ _) k0).nbo (nb_set _ _ _ _) k0).nbo (nb_set _ _ _ _) k0, ((((HO4.out.setCell _ _ _).setCell _ _ _).setCell _ _ _).setCell _ _ _).setCell _ _ _, ownO_nil _ _⟩
     · exact (((((hb04.setCell (p := ⟨w.heap.size + 1, 0, none⟩) (Nat.le_succ _) _).setCell (p := ⟨w.heap.size + 1, 1, none⟩) (Nat.le_succ _) _).setCell (p := ⟨w.heap.size + 1, 2, none⟩) (Nat.le_succ _) _).setCell (p := ⟨w.heap.size + 1, 3, none⟩) (Nat.le_succ _) _).setCell (p := ⟨w.heap.size + 1, 4, none⟩) (Nat.le_succ _) _)
   have HE := hid hE
   have HR := hid (Jn.rd_page hE c3)
   obtain ⟨i, hi⟩ : ∃ i : Nat, c = J.first - 1 + i := ⟨(c - (J.first - 1)).toNat, by omega⟩
   have hil : i ≤ J.cos.length := by omega
   have hbe : Jn.behind J c = J.cos.drop i := by rw [Jn.behind]; congr 1; omega
   have HBE := hid hbe
   have e2 : IntKind.i64.wrap (c - (J.first - 1)) = (i : Int) := by rw [IntKind.wrap_i64]; omega
   have hiz : (i : Int) ≤ J.cos.length := by omega
   have hiz2 : (i : Int) ≤ ccap := by omega
   obtain ⟨kk, hkk⟩ : ∃ kk : Nat, min m ((J.cos.length - i : Nat) : Int) = (kk : Int) := ⟨(min m ((J.cos.length - i : Nat) : Int)).toNat, by omega⟩
   have hkl : kk ≤ J.cos.length - i := by omega
   have hkl2 : (kk : Int) ≤ ((ccap - i : Nat) : Int) := by omega
   have e3 : IntKind.i64.wrap (c + (kk : Int)) = c + kk := by rw [IntKind.wrap_i64]; omega
   have HFK := hid (show Jn.few m (J.cos.drop i).length = kk from by rw [Jn.few, List.length_drop]; omega)
   have HLD : Hid ((J.cos.drop i).length = J.cos.length - i) := List.length_drop
   have HFP := hid (show ∀ x ∈ (J.cos.drop i).take kk, x.ch.length ≤ 1000000000 from fun x hx => HFW.out x (List.mem_of_mem_drop (List.mem_of_mem_take hx)))
   have HTK := hid (show ((J.cos.drop i).take kk).length = kk from by rw [List.length_take, List.length_drop]; omega)
   have HI := hid hi
   clear hE h0 hok hbe hi
   by_cases hci : ccap = i
   · have hci2 : i = ccap := hci.symm
     clear hci
     subst hci2
     have hk0 : kk = 0 := by omega
     subst hk0
     have hm0 : min m (0 : Int) = 0 := by omega
     have e4 : IntKind.i64.wrap c = c := by rw [IntKind.wrap_i64]; omega
     have hlz : J.cos.length - i = 0 := by omega
     clear hkk
     go_enter Tryz.func75, Tryz.ntmps75
     go_wp2_with fail
     rw [← hwz]
     clear hwz
     refine (keep_any J _ _ (HV.out.below hbz) HS.out HCS.out).mono ?_
     rintro e w1 ⟨p, rfl, hK, _, hb1⟩
     obtain ⟨b, mb, vb2, vc2, nn, rfl, hv2, hb, hmb, hKp, hnn⟩ := hK H0.out
     simp only [Value.agg.injEq, Array.mk.injEq, List.cons.injEq, true_and, and_true] at hv2
     obtain ⟨rfl, rfl⟩ := hv2
     rw [H0.out]
     obtain ⟨vt, hC, hT, hM, hne⟩ := hKp
     have HC := hid hC
     have HT := hid hT
     have k1 := hC.cell 1 rfl
     have k2 := hC.cell 2 rfl
     have k3 := hC.cell 3 rfl
     obtain ⟨ta, tcap, rfl, _⟩ := hT
     have hb01 := below_tr hbz hb1
     have HY1 := hid (HBY.out.below hb1)
     clear hK hC hM
     go_wp2_with fail
     refine (kLast_any J.first J.cos.length _ b _ _ _ ca _ HC.out f1 (by omega) (by omega)).mono ?_
     rintro e w2 ⟨rfl, hb2⟩
     have HC2 := hid (HC.out.below hb2)
     have HY2 := hid (HY1.out.below hb2)
     have hb02 := below_tr hb01 hb2
     have HT2 := hid (HT.out.below hb2)
     clear k1 k2 k3
     have k1 := HC2.out.cell 1 rfl
     have k2 := HC2.out.cell 2 rfl
     have k3 := HC2.out.cell 3 rfl
     clear k3
     have HVC2 := hid (HVC.out.below hb02)
     have hb2d : Below w.heap.size w w2.drew := below_tr hb02 (Below.refl _ _).drew
     have HY2d := hid (HY2.out.below (Below.refl _ _).drew)
     have hs12 := hb1.size
     have hs2 := hb2.size
     go_wp2_with fail
     go_region
     go_wp2_with fail
     refine (ownCommits_any ((J.cos.drop i).take 0) (.slice ca 0 0) _ (liesO_part (HVC2.out.below (Below.refl _ _).drew) hil (Nat.zero_le _) (Nat.zero_le _) (fun _ _ _ h => absurd h (by decide))) (by rw [HTK.out]; omega) HFP.out).mono ?_
     rintro e w3 ⟨u, rfl, hO3, hb3⟩
     have HO3 := hid hO3
     obtain ⟨xa, xcap, rfl⟩ := liesO_shape hO3.lies
     rw [HTK.out] at HO3 ⊢
     have HY3 := hid (HY2d.out.below hb3)
     have hb03 := below_tr hb2d hb3
     clear hO3
     have y0 := HY3.out.cell 0 rfl
     have y1 := HY3.out.cell 1 rfl
     have y2 := HY3.out.cell 2 rfl
     have y3 := HY3.out.cell 3 rfl
     have y4 := HY3.out.cell 4 rfl
     have g0 := HY3.out.fr 0
     have g1 := HY3.out.fr 1
     have g2 := HY3.out.fr 2
     have g3 := HY3.out.fr 3
     have g4 := HY3.out.fr 4
     go_wp2_with fail
     refine bodyPost_ret (v := .tuple #[.agg #[.bool false, .slice none 0 0, .slice xa 0 xcap, .int .i64 c, .bool false], .int .i64 0]) (by simp [results, Tryz.results75, go_sem, y0, y1, y2, y3, y4]) rfl ⟨_, by rw [HE.out], ?_, ?_⟩
     · rw [HR.out, HBE.out, HFK.out, HLD.out, hlz]
       refine ⟨.slice none 0 0, .slice xa 0 xcap, by simp, lies_nil _, own_nil _ _, ?_⟩
       exact (((((HO3.out.nbo (nb_set _ _ _ _) (by simp; omega)).nbo (nb_set _ _ _ _) (by simp; omega)).nbo (nb_set _ _ _ _) (by simp; omega)).nbo (nb_set _ _ _ _) (by simp; omega)).nbo (nb_set _ _ _ _) (by simp; omega)).mono (by simp; omega)
     · exact (((((hb03.setCell (p := ⟨w.heap.size + 1, 0, none⟩) (Nat.le_succ _) _).setCell (p := ⟨w.heap.size + 1, 1, none⟩) (Nat.le_succ _) _).setCell (p := ⟨w.heap.size + 1, 2, none⟩) (Nat.le_succ _) _).setCell (p := ⟨w.heap.size + 1, 3, none⟩) (Nat.le_succ _) _).setCell (p := ⟨w.heap.size + 1, 4, none⟩) (Nat.le_succ _) _)
   · skip
     go_enter Tryz.func75, Tryz.ntmps75
     go_wp2_with fail
     rw [← hwz]
     clear hwz
     refine (keep_any J _ _ (HV.out.below hbz) HS.out HCS.out).mono ?_
     rintro e w1 ⟨p, rfl, hK, _, hb1⟩
     obtain ⟨b, mb, vb2, vc2, nn, rfl, hv2, hb, hmb, hKp, hnn⟩ := hK H0.out
     simp only [Value.agg.injEq, Array.mk.injEq, List.cons.injEq, true_and, and_true] at hv2
     obtain ⟨rfl, rfl⟩ := hv2
     rw [H0.out]
     obtain ⟨vt, hC, hT, hM, hne⟩ := hKp
     have HC := hid hC
     have HT := hid hT
     have k1 := hC.cell 1 rfl
     have k2 := hC.cell 2 rfl
     have k3 := hC.cell 3 rfl
     obtain ⟨ta, tcap, rfl, _⟩ := hT
     have hb01 := below_tr hbz hb1
     have HY1 := hid (HBY.out.below hb1)
     clear hK hC hM
     go_wp2_with fail
     refine (kLast_any J.first J.cos.length _ b _ _ _ ca _ HC.out f1 (by omega) (by omega)).mono ?_
     rintro e w2 ⟨rfl, hb2⟩
     have HC2 := hid (HC.out.below hb2)
     have HY2 := hid (HY1.out.below hb2)
     have hb02 := below_tr hb01 hb2
     have HT2 := hid (HT.out.below hb2)
     clear k1 k2 k3
     have k1 := HC2.out.cell 1 rfl
     have k2 := HC2.out.cell 2 rfl
     have k3 := HC2.out.cell 3 rfl
     clear k3
     have HVC2 := hid (HVC.out.below hb02)
     have hb2d : Below w.heap.size w w2.drew := below_tr hb02 (Below.refl _ _).drew
     have HY2d := hid (HY2.out.below (Below.refl _ _).drew)
     have hs12 := hb1.size
     have hs2 := hb2.size
     go_wp2_with fail
     go_region
     go_wp2_with fail
     refine (ownCommits_any ((J.cos.drop i).take kk) _ _ (liesO_part (HVC2.out.below (Below.refl _ _).drew) hil (by rw [HLD.out]; exact hkl) (by omega) ?adr) (by rw [HTK.out]; omega) HFP.out).mono ?_
     case adr =>
      intro b' o' hab hk0
      subst hab
      simp [Addr.add]
     rintro e w3 ⟨u, rfl, hO3, hb3⟩
     have HO3 := hid hO3
     obtain ⟨xa, xcap, rfl⟩ := liesO_shape hO3.lies
     rw [HTK.out] at HO3 ⊢
     have HY3 := hid (HY2d.out.below hb3)
     have hb03 := below_tr hb2d hb3
     clear hO3
     have y0 := HY3.out.cell 0 rfl
     have y1 := HY3.out.cell 1 rfl
     have y2 := HY3.out.cell 2 rfl
     have y3 := HY3.out.cell 3 rfl
     have y4 := HY3.out.cell 4 rfl
     have g0 := HY3.out.fr 0
     have g1 := HY3.out.fr 1
     have g2 := HY3.out.fr 2
     have g3 := HY3.out.fr 3
     have g4 := HY3.out.fr 4
     go_wp2_with fail
     refine bodyPost_ret (v := .tuple #[.agg #[.bool false, .slice none 0 0, .slice xa kk xcap, .int .i64 (c + kk), .bool (decide ((kk : Int) < ((J.cos.length - i : Nat) : Int)))], .int .i64 0]) (by simp [results, Tryz.results75, go_sem, y0, y1, y2, y3, y4]) rfl ⟨_, by rw [HE.out], ?_, ?_⟩
     · rw [HR.out, HBE.out, HFK.out, HLD.out]
       refine ⟨.slice none 0 0, .slice xa kk xcap, by simp, lies_nil _, own_nil _ _, ?_⟩
       exact (((((HO3.out.nbo (nb_set _ _ _ _) (by simp; omega)).nbo (nb_set _ _ _ _) (by simp; omega)).nbo (nb_set _ _ _ _) (by simp; omega)).nbo (nb_set _ _ _ _) (by simp; omega)).nbo (nb_set _ _ _ _) (by simp; omega)).mono (by simp; omega)
     · exact (((((hb03.setCell (p := ⟨w.heap.size + 1, 0, none⟩) (Nat.le_succ _) _).setCell (p := ⟨w.heap.size + 1, 1, none⟩) (Nat.le_succ _) _).setCell (p := ⟨w.heap.size + 1, 2, none⟩) (Nat.le_succ _) _).setCell (p := ⟨w.heap.size + 1, 3, none⟩) (Nat.le_succ _) _).setCell (p := ⟨w.heap.size + 1, 4, none⟩) (Nat.le_succ _) _)
 · have hE := Jn.rd_chk (c := c) (m := m) h0
   have HE := hid hE
   have HR := hid (Jn.rd_bad hE h0)
   have hz : (Jn.chkE J == 0) = false := by simpa using h0
   clear hE
   go_enter Tryz.func75, Tryz.ntmps75
   go_wp2_with fail
   rw [← hwz]
   clear hwz
   refine (keep_any J _ _ (HV.out.below hbz) HS.out HCS.out).mono ?_
   rintro e w1 ⟨p, rfl, _, _, hb1⟩
   have HY1 := hid (HBY.out.below hb1)
   have hb01 := below_tr hbz hb1
   have y0 := HY1.out.cell 0 rfl
   have y1 := HY1.out.cell 1 rfl
   have y2 := HY1.out.cell 2 rfl
   have y3 := HY1.out.cell 3 rfl
   have y4 := HY1.out.cell 4 rfl
   have g0 := HY1.out.fr 0
   have g1 := HY1.out.fr 1
   have g2 := HY1.out.fr 2
   have g3 := HY1.out.fr 3
   have g4 := HY1.out.fr 4
   go_wp2_with fail
   refine bodyPost_ret (v := .tuple #[.agg #[.bool false, .slice none 0 0, .slice none 0 0, .int .i64 0, .bool false], .int .i64 (Jn.chkE J)]) (by simp [results, Tryz.results75, go_sem, y0, y1, y2, y3, y4]) rfl ⟨_, by rw [HE.out], ?_, ?_⟩
   · rw [HR.out]
     exact ownP_zero _ _
   · exact (((((hb01.setCell (p := ⟨w.heap.size + 1, 0, none⟩) (Nat.le_succ _) _).setCell (p := ⟨w.heap.size + 1, 1, none⟩) (Nat.le_succ _) _).setCell (p := ⟨w.heap.size + 1, 2, none⟩) (Nat.le_succ _) _).setCell (p := ⟨w.heap.size + 1, 3, none⟩) (Nat.le_succ _) _).setCell (p := ⟨w.heap.size + 1, 4, none⟩) (Nat.le_succ _) _)
end Go.Proofs.YtchlgpeiombmdaaGreat
set_option linter.unusedSimpArgs false
set_option linter.unusedVariables false
namespace Go.Proofs.YtchlgpeiombmdaaGreat.Pp

/-- One round: the grant goes ahead of the first one that is not ahead of it; what the same one had is left out. -/
def gstp (x : Gr) (s : List Gr × Bool) (y : Gr) : List Gr × Bool :=
 (if othG x y = true then (if s.2 = false ∧ ltG y x = false then s.1 ++ [x] else s.1) ++ [y] else (if s.2 = false ∧ ltG y x = false then s.1 ++ [x] else s.1), s.2 || !(ltG y x))
def gputS (x : Gr) (b : Bool) (L : List Gr) : List Gr × Bool := L.foldl (gstp x) ([], b)
def gputR (x : Gr) (b : Bool) (L : List Gr) : List Gr := if (gputS x b L).2 = true then (gputS x b L).1 else (gputS x b L).1 ++ [x]
theorem gputS_snoc (x : Gr) (b : Bool) (A : List Gr) (y : Gr) : gputS x b (A ++ [y]) = gstp x (gputS x b A) y := by rw [gputS, List.foldl_append]; rfl
theorem ginsG_pre {x : Gr} : ∀ {A : List Gr}, (∀ y ∈ A, ltG y x = true) → ∀ B, insG x (A ++ B) = A ++ insG x B
 | [], _, _ => rfl
 | y :: r, h, B => by
  rw [List.cons_append, insG, if_pos (h y (by simp)), ginsG_pre (fun z hz => h z (by simp [hz]))]; rfl
theorem gins_snoc {x y : Gr} (h : ltG y x = false) : ∀ K, insG x (K ++ [y]) = insG x K ++ [y]
 | [] => by simp [insG, h]
 | z :: r => by
  rw [List.cons_append, insG, insG]
  split
  · rw [gins_snoc h r]; rfl
  · rfl
theorem gout_all {x : Gr} {A : List Gr} (h : ∀ y ∈ A, ltG y x = true) : outG x A = A := by
 rw [outG, List.filter_eq_self]
 intro y hy
 exact (oth_iff x y).2 (Or.inl (h y hy))
theorem gout_app (x : Gr) (A B : List Gr) : outG x (A ++ B) = outG x A ++ outG x B := by rw [outG, List.filter_append]; rfl
/-- Where the grant itself is to be put. -/
theorem gputS_take {x : Gr} {L : List Gr} (hL : L.Pairwise (fun x y => ltG x y = true)) : ∀ k, k ≤ L.length → gputS x false (L.take k) = if (L.take k).all (fun y => ltG y x) = true then (L.take k, false) else (insG x (outG x (L.take k)), true) := by
 intro k
 induction k with
 | zero => intro _; simp [gputS]
 | succ k ih =>
  intro hk
  have hlt : k < L.length := by omega
  have ih := ih (by omega)
  have hpre : ∀ z ∈ L.take k, ltG z L[k] = true := fun z hz => by
   obtain ⟨i, hi, rfl⟩ := List.getElem_of_mem hz
   rw [List.length_take] at hi
   rw [List.getElem_take]
   exact List.pairwise_iff_getElem.1 hL i k (by omega) hlt (by omega)
  rw [List.take_succ_eq_append_getElem hlt, gputS_snoc, ih]
  generalize L[k] = y at *
  generalize L.take k = A at *
  cases hall : A.all (fun y => ltG y x) with
  | true =>
   have hA : ∀ z ∈ A, ltG z x = true := fun z hz => List.all_eq_true.1 hall z hz
   cases hy : ltG y x with
   | true =>
    have ho : othG x y = true := (oth_iff x y).2 (Or.inl hy)
    have e1 : (A ++ [y]).all (fun y => ltG y x) = true := by rw [List.all_append, hall]; simp [hy]
    rw [if_pos rfl, if_pos e1, gstp]
    simp [hy, ho]
   | false =>
    have e1 : (A ++ [y]).all (fun y => ltG y x) = false := by rw [List.all_append, hall]; simp [hy]
    rw [if_pos rfl, if_neg (by rw [e1]; decide), gstp, gout_app, gout_all hA, ginsG_pre hA]
    cases ho : othG x y with
    | true =>
     have e2 : outG x [y] = [y] := by simp [outG, ho]
     rw [e2]; simp [insG, hy]
    | false =>
     have e2 : outG x [y] = [] := by simp [outG, ho]
     rw [e2]; simp [insG, hy]
  | false =>
   obtain ⟨z, hz, hzx⟩ : ∃ z ∈ A, ltG z x = false := by
    have := List.all_eq_false.1 hall
    simpa using this
   have hzy := hpre z hz
   have hy : ltG y x = false := by
    cases hh : ltG y x with
    | false => rfl
    | true => rw [ltG_trans z y x hzy hh] at hzx; cases hzx
   have hxy : ltG x y = true := by
    cases hh : ltG x y with
    | true => rfl
    | false => have := ltG_ntrans z x y hzx hh; rw [this] at hzy; cases hzy
   have ho : othG x y = true := (oth_iff x y).2 (Or.inr hxy)
   have e1 : (A ++ [y]).all (fun y => ltG y x) = false := by rw [List.all_append, hall]; rfl
   have e2 : outG x [y] = [y] := by simp [outG, ho]
   rw [if_neg (by decide), if_neg (by rw [e1]; decide), gstp, gout_app, e2, gins_snoc hy]
   simp [ho]
theorem gputR_eq {x : Gr} {L : List Gr} (hL : L.Pairwise (fun x y => ltG x y = true)) : gputR x false L = insG x (outG x L) := by
 have h := gputS_take (x := x) hL L.length (Nat.le_refl _)
 rw [List.take_length] at h
 rw [gputR, h]
 cases hall : L.all (fun y => ltG y x) with
 | true =>
  have hA : ∀ z ∈ L, ltG z x = true := fun z hz => List.all_eq_true.1 hall z hz
  have e := ginsG_pre hA []
  rw [List.append_nil] at e
  rw [gout_all hA, e]; simp [insG]
 | false => simp
/-- Where a right is taken. -/
theorem gputS_none (x : Gr) (L : List Gr) : gputS x true L = (outG x L, true) := by
 have : ∀ (L A : List Gr), L.foldl (gstp x) (A, true) = (A ++ outG x L, true) := by
  intro L
  induction L with
  | nil => intro A; simp [outG]
  | cons y r ih =>
   intro A
   rw [List.foldl_cons]
   have e : gstp x (A, true) y = (A ++ outG x [y], true) := by
    rw [gstp]
    cases ho : othG x y <;> simp [outG, ho]
   rw [e, ih, show outG x (y :: r) = outG x [y] ++ outG x r from by rw [← gout_app]; rfl, List.append_assoc]
 rw [gputS, this, List.nil_append]
theorem gputR_none (x : Gr) (L : List Gr) : gputR x true L = outG x L := by rw [gputR, gputS_none, if_pos rfl]
end Go.Proofs.YtchlgpeiombmdaaGreat.Pp
set_option linter.unusedSimpArgs false
set_option linter.unusedVariables false
namespace Go.Proofs.YtchlgpeiombmdaaGreat
open Go.RowKit

namespace Pp
theorem gstp_ny {x : Gr} {X : List Gr} {pb : Bool} {y : Gr} (h : pb = true ∨ ltG y x = true) (h2 : othG x y = true) : gstp x (X, pb) y = (X ++ [y], pb) := by
 rw [gstp]
 rcases h with h | h
 · subst h; simp [h2]
 · simp [h2, h]
theorem gstp_nn {x : Gr} {X : List Gr} {y : Gr} (h2 : othG x y = false) : gstp x (X, true) y = (X, true) := by
 rw [gstp]; simp [h2]
theorem gstp_yn {x : Gr} {X : List Gr} {y : Gr} (h : ltG y x = false) (h2 : othG x y = false) : gstp x (X, false) y = (X ++ [x], true) := by
 rw [gstp]; simp [h2, h]
theorem gstp_yy {x : Gr} {X : List Gr} {y : Gr} (h : ltG y x = false) (h2 : othG x y = true) : gstp x (X, false) y = (X ++ [x] ++ [y], true) := by
 rw [gstp]; simp [h2, h]
theorem cS_eq {a b : ByteArray} (h1 : Op.bytesLess a.toList b.toList = false) (h2 : (a.toList == b.toList) = true) : cS a b = 0 := by rw [cS, h1, h2]; simp
theorem oth_wh {x y : Gr} (h1 : Op.bytesLess y.fo.toList x.fo.toList = false) (h2 : (y.fo.toList == x.fo.toList) = true) (h : (y.wh.toList == x.wh.toList) = false) : othG x y = true := by
 have h3 := cS_ne h
 rw [othG, cG, if_pos (cS_eq h1 h2)]; simpa using h3
theorem oth_no {x y : Gr} (h1 : Op.bytesLess y.fo.toList x.fo.toList = false) (h2 : (y.fo.toList == x.fo.toList) = true) (h3 : Op.bytesLess y.wh.toList x.wh.toList = false) (h : (y.wh.toList == x.wh.toList) = true) : othG x y = false := by
 rw [othG, cG, if_pos (cS_eq h1 h2), cS_eq h3 h]; rfl
theorem gputS_len (x : Gr) (b : Bool) (L : List Gr) : ∀ k, k ≤ L.length → (gputS x b (L.take k)).1.length ≤ 2 * k := by
 intro k
 induction k with
 | zero => intro _; simp [gputS]
 | succ k ih =>
  intro hk
  have := ih (by omega)
  rw [List.take_succ_eq_append_getElem (by omega), gputS_snoc, gstp]
  split <;> split <;> simp only [List.length_append, List.length_cons, List.length_nil] <;> omega
end Pp
theorem grown_cell {w w' : World} {row : Option Nat} {p : Addr} {v : Value} (hg : w.grownBy w' row) (hp : p.block < w.heap.size) (hr : row ≠ some p.block) (h : w.cell? p = some v) : w'.cell? p = some v :=
 (World.cell?_of_block (w := w) (hg.block p.block hp (fun e => hr e.symm))).trans h
end Go.Proofs.YtchlgpeiombmdaaGreat
set_option linter.unusedSimpArgs false
set_option linter.unusedVariables false
namespace Go.Proofs.YtchlgpeiombmdaaGreat
open Go.RowKit

namespace Pp
theorem gputR_pg {f h : ByteArray} {r : Int} {G : List Gr} (hG : G.Pairwise (fun x y => ltG x y = true)) : gputR ⟨f, h, r⟩ (r == 0) G = pgN ⟨f, h, r⟩ G := by
 by_cases hr : r = 0
 · rw [pgN_no hr, show (r == 0) = true by simpa using hr]; exact gputR_none _ _
 · rw [pgN_yes hr, show (r == 0) = false by simpa using hr]; exact gputR_eq hG
/-- 9: who gives is no owner; 5: who is taken from has none. -/
def gvgE (G : List Gr) (b : ByteArray) (x : Gr) : Int := if (x.ri = 0 ∧ (b.toList == x.wh.toList) = true) ∨ rgt G x.fo b = 3 then (if x.ri = 0 ∧ rgt G x.fo x.wh = 0 then 5 else 0) else 9
theorem chg_cases (G : List Gr) (b : ByteArray) (x : Gr) :
    (¬ x.ri = 0 ∧ ¬ rgt G x.fo b = 3 ∧ gvgE G b x = 9) ∨ (¬ x.ri = 0 ∧ rgt G x.fo b = 3 ∧ gvgE G b x = 0) ∨
    (x.ri = 0 ∧ (b.toList == x.wh.toList) = true ∧ rgt G x.fo x.wh = 0 ∧ gvgE G b x = 5) ∨ (x.ri = 0 ∧ (b.toList == x.wh.toList) = true ∧ ¬ rgt G x.fo x.wh = 0 ∧ gvgE G b x = 0) ∨
    (x.ri = 0 ∧ (b.toList == x.wh.toList) = false ∧ ¬ rgt G x.fo b = 3 ∧ gvgE G b x = 9) ∨
    (x.ri = 0 ∧ (b.toList == x.wh.toList) = false ∧ rgt G x.fo b = 3 ∧ rgt G x.fo x.wh = 0 ∧ gvgE G b x = 5) ∨ (x.ri = 0 ∧ (b.toList == x.wh.toList) = false ∧ rgt G x.fo b = 3 ∧ ¬ rgt G x.fo x.wh = 0 ∧ gvgE G b x = 0) := by
 by_cases h0 : x.ri = 0 <;> cases hS : (b.toList == x.wh.toList) <;> by_cases h3 : rgt G x.fo b = 3 <;> by_cases hz : rgt G x.fo x.wh = 0 <;> simp [gvgE, h0, hS, h3, hz]
end Pp

set_option maxRecDepth 100000 in
set_option maxHeartbeats 2000000 in
theorem checkGive_any (G : List Gr) (v : Value) (b : ByteArray) (x : Gr) (w : World) (hv : LiesG w v G) :
    Calls Tryz.prog 48 #[v, .string b, .agg #[.string x.fo, .string x.wh, .int .i64 x.ri]] w fun e w' => e = .returned (.int .i64 (Pp.gvgE G b x)) ∧ Below w.heap.size w w' := by
 have HV := ghid hv
 clear hv
 rcases Pp.chg_cases G b x with ⟨h0, h3, hE⟩ | ⟨h0, h3, hE⟩ | ⟨h0, hS, h5, hE⟩ | ⟨h0, hS, h5, hE⟩ | ⟨h0, hS, h3, hE⟩ | ⟨h0, hS, h3, h5, hE⟩ | ⟨h0, hS, h3, h5, hE⟩
 · have hz : (x.ri == 0) = false := by simpa using h0
   have h3' : (Pp.rgt G x.fo b == 3) = false := by simpa using h3
   have HE := ghid hE
   clear hE h0 h3
   go_enter Tryz.func48, Tryz.ntmps48
   go_wp2_with fail
   refine (right_any G _ x.fo b _ (HV.out.below ((Below.refl _ _).alloc (Nat.le_refl _) _))).mono ?_
   rintro e w1 ⟨rfl, hb1⟩
   obtain ⟨c0, c1, c2, hbw, hlt⟩ := bxG3 hb1
   clear hb1
   go_wp2
   go_ret
   exact ⟨by rw [HE.out]; rfl, hbw⟩
 · have hz : (x.ri == 0) = false := by simpa using h0
   have H3 := ghid h3
   have HE := ghid hE
   clear hE h0 h3
   go_enter Tryz.func48, Tryz.ntmps48
   go_wp2_with fail
   refine (right_any G _ x.fo b _ (HV.out.below ((Below.refl _ _).alloc (Nat.le_refl _) _))).mono ?_
   rintro e w1 ⟨rfl, hb1⟩
   rw [H3.out]
   obtain ⟨c0, c1, c2, hbw, hlt⟩ := bxG3 hb1
   clear hb1
   go_wp2
   go_ret
   exact ⟨by rw [HE.out]; rfl, hbw⟩
 · have hz : (x.ri == 0) = true := by simpa using h0
   have H5 := ghid h5
   have HE := ghid hE
   clear hE h0 h5
   go_enter Tryz.func48, Tryz.ntmps48
   go_wp2_with fail
   refine (right_any G _ x.fo x.wh _ (HV.out.below ((Below.refl _ _).alloc (Nat.le_refl _) _))).mono ?_
   rintro e w1 ⟨rfl, hb1⟩
   rw [H5.out]
   obtain ⟨c0, c1, c2, hbw, hlt⟩ := bxG3 hb1
   clear hb1
   go_wp2
   go_ret
   exact ⟨by rw [HE.out]; rfl, hbw⟩
 · have hz : (x.ri == 0) = true := by simpa using h0
   have h5' : (Pp.rgt G x.fo x.wh == 0) = false := by simpa using h5
   have HE := ghid hE
   clear hE h0 h5
   go_enter Tryz.func48, Tryz.ntmps48
   go_wp2_with fail
   refine (right_any G _ x.fo x.wh _ (HV.out.below ((Below.refl _ _).alloc (Nat.le_refl _) _))).mono ?_
   rintro e w1 ⟨rfl, hb1⟩
   obtain ⟨c0, c1, c2, hbw, hlt⟩ := bxG3 hb1
   clear hb1
   go_wp2
   go_ret
   exact ⟨by rw [HE.out]; rfl, hbw⟩
 · have hz : (x.ri == 0) = true := by simpa using h0
   have h3' : (Pp.rgt G x.fo b == 3) = false := by simpa using h3
   have HE := ghid hE
   clear hE h0 h3
   go_enter Tryz.func48, Tryz.ntmps48
   go_wp2_with fail
   refine (right_any G _ x.fo b _ (HV.out.below ((Below.refl _ _).alloc (Nat.le_refl _) _))).mono ?_
   rintro e w1 ⟨rfl, hb1⟩
   obtain ⟨c0, c1, c2, hbw, hlt⟩ := bxG3 hb1
   clear hb1
   go_wp2
   go_ret
   exact ⟨by rw [HE.out]; rfl, hbw⟩
 all_goals
  have hz : (x.ri == 0) = true := by simpa using h0
  have H3 := ghid h3
  have HE := ghid hE
  first
   | (have H5 : Hid (Pp.rgt G x.fo x.wh = 0) := h5)
   | (have h5' : (Pp.rgt G x.fo x.wh == 0) = false := by simpa using h5)
  clear hE h0 h3 h5
  go_enter Tryz.func48, Tryz.ntmps48
  go_wp2_with fail
  refine (right_any G _ x.fo b _ (HV.out.below ((Below.refl _ _).alloc (Nat.le_refl _) _))).mono ?_
  rintro e w1 ⟨rfl, hb1⟩
  rw [H3.out]
  obtain ⟨c0, c1, c2, hbw, hlt⟩ := bxG3 hb1
  clear hb1
  go_wp2_with fail
  refine (right_any G _ x.fo x.wh _ (HV.out.below hbw)).mono ?_
  rintro e w2 ⟨rfl, hb2⟩
  try rw [H5.out]
  have hb02 := below_trans hbw hb2
  clear hb2 hbw
  go_wp2
  go_ret
  exact ⟨by rw [HE.out]; rfl, hb02⟩
end Go.Proofs.YtchlgpeiombmdaaGreat
set_option linter.unusedSimpArgs false
set_option linter.unusedVariables false
namespace Go.Proofs.YtchlgpeiombmdaaGreat
open Go.RowKit

namespace Pp
/-- Give, of grants that pass Check. -/
def gvE (G : List Gr) (f b m : ByteArray) (r : Int) : Int :=
 if nmsE [f, b, m] = 0 then (if r < 0 ∨ 3 < r then 3 else if gvgE G b ⟨f, m, r⟩ = 0 then (if (pgN ⟨f, m, r⟩ G).any (ownF f) = true then (if 60 < (pgN ⟨f, m, r⟩ G).length then 2 else 0) else 4) else gvgE G b ⟨f, m, r⟩) else 1
theorem gv_cases (G : List Gr) (f b m : ByteArray) (r : Int) :
    (nmsE [f, b, m] = 1 ∧ gvE G f b m r = 1) ∨ (nmsE [f, b, m] = 0 ∧ r < 0 ∧ gvE G f b m r = 3) ∨ (nmsE [f, b, m] = 0 ∧ 0 ≤ r ∧ 3 < r ∧ gvE G f b m r = 3) ∨
    (nmsE [f, b, m] = 0 ∧ 0 ≤ r ∧ r ≤ 3 ∧ ¬ gvgE G b ⟨f, m, r⟩ = 0 ∧ gvE G f b m r = gvgE G b ⟨f, m, r⟩) ∨
    (nmsE [f, b, m] = 0 ∧ 0 ≤ r ∧ r ≤ 3 ∧ gvgE G b ⟨f, m, r⟩ = 0 ∧ (pgN ⟨f, m, r⟩ G).any (ownF f) = false ∧ gvE G f b m r = 4) ∨
    (nmsE [f, b, m] = 0 ∧ 0 ≤ r ∧ r ≤ 3 ∧ gvgE G b ⟨f, m, r⟩ = 0 ∧ (pgN ⟨f, m, r⟩ G).any (ownF f) = true ∧ 60 < (pgN ⟨f, m, r⟩ G).length ∧ gvE G f b m r = 2) ∨
    (nmsE [f, b, m] = 0 ∧ 0 ≤ r ∧ r ≤ 3 ∧ gvgE G b ⟨f, m, r⟩ = 0 ∧ (pgN ⟨f, m, r⟩ G).any (ownF f) = true ∧ (pgN ⟨f, m, r⟩ G).length ≤ 60 ∧ gvE G f b m r = 0) := by
 rcases nms_cases [f, b, m] with h | h
 · right
   have e1 : gvE G f b m r = (if r < 0 ∨ 3 < r then 3 else if gvgE G b ⟨f, m, r⟩ = 0 then (if (pgN ⟨f, m, r⟩ G).any (ownF f) = true then (if 60 < (pgN ⟨f, m, r⟩ G).length then 2 else 0) else 4) else gvgE G b ⟨f, m, r⟩) := if_pos h
   by_cases h1 : r < 0
   · left; exact ⟨h, h1, by rw [e1, if_pos (Or.inl h1)]⟩
   · right
     by_cases h2 : 3 < r
     · left; exact ⟨h, by omega, h2, by rw [e1, if_pos (Or.inr h2)]⟩
     · right
       rw [if_neg (by omega)] at e1
       by_cases h3 : gvgE G b ⟨f, m, r⟩ = 0
       · right
         rw [if_pos h3] at e1
         cases h4 : (pgN ⟨f, m, r⟩ G).any (ownF f) with
         | false => left; exact ⟨h, by omega, by omega, h3, rfl, by rw [e1, h4]; rfl⟩
         | true =>
          right
          rw [h4, if_pos rfl] at e1
          by_cases h5 : 60 < (pgN ⟨f, m, r⟩ G).length
          · left; exact ⟨h, by omega, by omega, h3, rfl, h5, by rw [e1, if_pos h5]⟩
          · right; exact ⟨h, by omega, by omega, h3, rfl, by omega, by rw [e1, if_neg h5]⟩
       · left; exact ⟨h, by omega, by omega, h3, by rw [e1, if_neg h3]⟩
 · left; exact ⟨h, by rw [gvE, if_neg (by rw [h]; decide)]⟩
def giE (G : List Gr) (f b m : ByteArray) (r : Int) : Int := if gchE G = 0 then gvE G f b m r else gchE G
def giL (G : List Gr) (f b m : ByteArray) (r : Int) : List Gr := if giE G f b m r = 0 then pgN ⟨f, m, r⟩ G else []
theorem giL_no {G : List Gr} {f b m : ByteArray} {r : Int} (h : ¬ giE G f b m r = 0) : giL G f b m r = [] := if_neg h
theorem giL_yes {G : List Gr} {f b m : ByteArray} {r : Int} (h : giE G f b m r = 0) : giL G f b m r = pgN ⟨f, m, r⟩ G := if_pos h
theorem chg_vals (G : List Gr) (b : ByteArray) (x : Gr) : gvgE G b x = 0 ∨ gvgE G b x = 5 ∨ gvgE G b x = 9 := by
 rw [gvgE]; split
 · split <;> simp
 · simp
end Pp

set_option maxRecDepth 100000 in
set_option maxHeartbeats 4000000 in
theorem give_any (G : List Gr) (v : Value) (f b m : ByteArray) (r : Int) (w : World) (hv : LiesG w v G) (hs : SizedG G) (hf : f.size ≤ 150000000000000) (hb : b.size ≤ 150000000000000) (hm : m.size ≤ 150000000000000) :
    Calls Tryz.prog 27 #[v, .string f, .string b, .string m, .int .i64 r] w fun e w' => ∃ u, e = .returned (.tuple #[u, .int .i64 (Pp.giE G f b m r)]) ∧ (LiesG w' u (Pp.giL G f b m r) ∧ Fr w.heap.size u) ∧ Below w.heap.size w w' := by
 have HV := ghid hv
 have HS := ghid hs
 clear hv hs
 have hsz : ∀ i (hi : i < [f, b, m].length), ([f, b, m][i]).size ≤ 1000000000000000 := fun i hi => by match i, hi with | 0, _ => exact Nat.le_trans hf (by decide) | 1, _ => exact Nat.le_trans hb (by decide) | 2, _ => exact Nat.le_trans hm (by decide)
 have HSZ := ghid hsz
 clear hsz hf hb hm
 by_cases hg0 : Pp.gchE G = 0
 case neg =>
  have eE : Pp.giE G f b m r = Pp.gchE G := if_neg hg0
  have eC : Pp.calE G [f, b, m] = Pp.gchE G := if_neg hg0
  have HL : Hid (Pp.giL G f b m r = []) := Pp.giL_no (by rw [eE]; exact hg0)
  have HE := ghid eE
  have HC := ghid eC
  have hz : (Pp.gchE G == 0) = false := by simpa using hg0
  clear eE eC hg0
  go_enter Tryz.func27, Tryz.ntmps27
  go_wp2_with fail
  refine (gcheckAll_any G _ [f, b, m] w.heap.size 3 _ (HV.out.below ((Below.refl _ _).alloc (Nat.le_refl _) _)) HS.out (by simp) HSZ.out (by simp) (fun i hi => by match i, hi with | 0, _ => simp | 1, _ => simp | 2, _ => simp)).mono ?_
  rintro e w1 ⟨rfl, hb1⟩
  rw [HC.out]
  have hb01 : Below w.heap.size w w1 := ((Below.refl _ _).alloc (Nat.le_refl _) _).trans (hb1.mono (by simp))
  clear hb1
  generalize hy : Pp.gchE G = y at *
  go_wp2
  go_ret2
  exact ⟨_, by rw [HE.out]; rfl, by rw [HL.out]; exact ⟨liesG_nil _, fr_nil _⟩, hb01⟩
 case pos =>
 have eE : Pp.giE G f b m r = Pp.gvE G f b m r := if_pos hg0
 have eC : Pp.calE G [f, b, m] = Pp.nmsE [f, b, m] := if_pos hg0
 obtain ⟨hl60, _, hris, _⟩ := Pp.gch0 hg0
 have HPW := ghid ((Pp.risG_pair G).1 hris)
 have hpl := Pp.pgN_len ⟨f, m, r⟩ G
 clear hris
 rcases Pp.gv_cases G f b m r with ⟨hn, hE⟩ | ⟨hn, h1, hE⟩ | ⟨hn, h1, h2, hE⟩ | ⟨hn, h1, h2, hc, hE⟩ | ⟨hn, h1, h2, hc, ha, hE⟩ | ⟨hn, h1, h2, hc, ha, h6, hE⟩ | ⟨hn, h1, h2, hc, ha, h6, hE⟩
 case inl =>
  have HL : Hid (Pp.giL G f b m r = []) := Pp.giL_no (by rw [eE, hE]; decide)
  have HE := ghid (eE.trans hE)
  have HC := ghid (eC.trans hn)
  clear eE eC hE hn hg0
  go_enter Tryz.func27, Tryz.ntmps27
  go_wp2_with fail
  refine (gcheckAll_any G _ [f, b, m] w.heap.size 3 _ (HV.out.below ((Below.refl _ _).alloc (Nat.le_refl _) _)) HS.out (by simp) HSZ.out (by simp) (fun i hi => by match i, hi with | 0, _ => simp | 1, _ => simp | 2, _ => simp)).mono ?_
  rintro e w1 ⟨rfl, hb1⟩
  rw [HC.out]
  have hb01 : Below w.heap.size w w1 := ((Below.refl _ _).alloc (Nat.le_refl _) _).trans (hb1.mono (by simp))
  clear hb1
  go_wp2
  go_ret2
  exact ⟨_, by rw [HE.out]; rfl, by rw [HL.out]; exact ⟨liesG_nil _, fr_nil _⟩, hb01⟩
 case inr.inl =>
  have HL : Hid (Pp.giL G f b m r = []) := Pp.giL_no (by rw [eE, hE]; decide)
  have HE := ghid (eE.trans hE)
  have HC := ghid (eC.trans hn)
  clear eE eC hE hn hg0
  go_enter Tryz.func27, Tryz.ntmps27
  go_wp2_with fail
  refine (gcheckAll_any G _ [f, b, m] w.heap.size 3 _ (HV.out.below ((Below.refl _ _).alloc (Nat.le_refl _) _)) HS.out (by simp) HSZ.out (by simp) (fun i hi => by match i, hi with | 0, _ => simp | 1, _ => simp | 2, _ => simp)).mono ?_
  rintro e w1 ⟨rfl, hb1⟩
  rw [HC.out]
  have hb01 : Below w.heap.size w w1 := ((Below.refl _ _).alloc (Nat.le_refl _) _).trans (hb1.mono (by simp))
  clear hb1
  go_wp2
  go_ret2
  exact ⟨_, by rw [HE.out]; rfl, by rw [HL.out]; exact ⟨liesG_nil _, fr_nil _⟩, hb01⟩
 case inr.inr.inl =>
  have HL : Hid (Pp.giL G f b m r = []) := Pp.giL_no (by rw [eE, hE]; decide)
  have HE := ghid (eE.trans hE)
  have HC := ghid (eC.trans hn)
  clear eE eC hE hn hg0
  go_enter Tryz.func27, Tryz.ntmps27
  go_wp2_with fail
  refine (gcheckAll_any G _ [f, b, m] w.heap.size 3 _ (HV.out.below ((Below.refl _ _).alloc (Nat.le_refl _) _)) HS.out (by simp) HSZ.out (by simp) (fun i hi => by match i, hi with | 0, _ => simp | 1, _ => simp | 2, _ => simp)).mono ?_
  rintro e w1 ⟨rfl, hb1⟩
  rw [HC.out]
  have hb01 : Below w.heap.size w w1 := ((Below.refl _ _).alloc (Nat.le_refl _) _).trans (hb1.mono (by simp))
  clear hb1
  go_wp2
  go_ret2
  exact ⟨_, by rw [HE.out]; rfl, by rw [HL.out]; exact ⟨liesG_nil _, fr_nil _⟩, hb01⟩
 case inr.inr.inr.inl =>
  have HL : Hid (Pp.giL G f b m r = []) := Pp.giL_no (by rw [eE, hE]; exact hc)
  have HE := ghid (eE.trans hE)
  have HC := ghid (eC.trans hn)
  have hz : (Pp.gvgE G b ⟨f, m, r⟩ == 0) = false := by simpa using hc
  clear eE eC hE hn hg0 hc
  go_enter Tryz.func27, Tryz.ntmps27
  go_wp2_with fail
  refine (gcheckAll_any G _ [f, b, m] w.heap.size 3 _ (HV.out.below ((Below.refl _ _).alloc (Nat.le_refl _) _)) HS.out (by simp) HSZ.out (by simp) (fun i hi => by match i, hi with | 0, _ => simp | 1, _ => simp | 2, _ => simp)).mono ?_
  rintro e w1 ⟨rfl, hb1⟩
  rw [HC.out]
  have hb01 : Below w.heap.size w w1 := ((Below.refl _ _).alloc (Nat.le_refl _) _).trans (hb1.mono (by simp))
  clear hb1
  go_wp2_with fail
  refine (checkGive_any G _ b ⟨f, m, r⟩ _ (HV.out.below (by first | exact hb01 | exact hb01.alloc hb01.size _))).mono ?_
  rintro e w2 ⟨rfl, hb2⟩
  obtain ⟨c0, c1, c2, hbw, hlt⟩ := bxG3 hb2
  have hb02 := below_trans hb01 hbw
  clear hb2 hbw hb01
  generalize Pp.gvgE G b ⟨f, m, r⟩ = y at *
  go_wp2
  go_ret2
  exact ⟨_, by rw [HE.out]; rfl, by rw [HL.out]; exact ⟨liesG_nil _, fr_nil _⟩, hb02⟩
 case inr.inr.inr.inr.inl =>
  have HL : Hid (Pp.giL G f b m r = []) := Pp.giL_no (by rw [eE, hE]; decide)
  have HE := ghid (eE.trans hE)
  have HC := ghid (eC.trans hn)
  have HG := ghid hc
  have HA := ghid ha
  clear eE eC hE hn hg0 hc ha
  go_enter Tryz.func27, Tryz.ntmps27
  go_wp2_with fail
  refine (gcheckAll_any G _ [f, b, m] w.heap.size 3 _ (HV.out.below ((Below.refl _ _).alloc (Nat.le_refl _) _)) HS.out (by simp) HSZ.out (by simp) (fun i hi => by match i, hi with | 0, _ => simp | 1, _ => simp | 2, _ => simp)).mono ?_
  rintro e w1 ⟨rfl, hb1⟩
  rw [HC.out]
  have hb01 : Below w.heap.size w w1 := ((Below.refl _ _).alloc (Nat.le_refl _) _).trans (hb1.mono (by simp))
  clear hb1
  go_wp2_with fail
  refine (checkGive_any G _ b ⟨f, m, r⟩ _ (HV.out.below (by first | exact hb01 | exact hb01.alloc hb01.size _))).mono ?_
  rintro e w2 ⟨rfl, hb2⟩
  rw [HG.out]
  obtain ⟨c0, c1, c2, hbw, hlt⟩ := bxG3 hb2
  have hb02 := below_trans hb01 hbw
  clear hb2 hbw hb01
  go_wp2_with fail
  refine (gput_any G _ ⟨f, m, r⟩ _ (HV.out.below hb02) (by omega) HPW.out).mono ?_
  rintro e w4 ⟨u, rfl, ⟨hli, hfr⟩, hb4⟩
  have HFR := ghid (hfr.mono hb02.size)
  clear hfr
  have HLI := ghid hli
  have hb04 := below_trans hb02 hb4
  clear hli hb4 hb02 c0 c1 c2
  go_wp2_with fail
  refine (isOwned_any _ _ f _ HLI.out).mono ?_
  rintro e w5 ⟨rfl, hb5⟩
  rw [HA.out]
  have hb05 := below_trans hb04 hb5
  clear hb5 hb04
  go_wp2
  go_ret2
  exact ⟨_, by rw [HE.out]; rfl, by rw [HL.out]; exact ⟨liesG_nil _, fr_nil _⟩, hb05⟩
 case inr.inr.inr.inr.inr.inl =>
  have HL : Hid (Pp.giL G f b m r = []) := Pp.giL_no (by rw [eE, hE]; decide)
  have HE := ghid (eE.trans hE)
  have HC := ghid (eC.trans hn)
  have HG := ghid hc
  have HA := ghid ha
  clear eE eC hE hn hg0 hc ha
  go_enter Tryz.func27, Tryz.ntmps27
  go_wp2_with fail
  refine (gcheckAll_any G _ [f, b, m] w.heap.size 3 _ (HV.out.below ((Below.refl _ _).alloc (Nat.le_refl _) _)) HS.out (by simp) HSZ.out (by simp) (fun i hi => by match i, hi with | 0, _ => simp | 1, _ => simp | 2, _ => simp)).mono ?_
  rintro e w1 ⟨rfl, hb1⟩
  rw [HC.out]
  have hb01 : Below w.heap.size w w1 := ((Below.refl _ _).alloc (Nat.le_refl _) _).trans (hb1.mono (by simp))
  clear hb1
  go_wp2_with fail
  refine (checkGive_any G _ b ⟨f, m, r⟩ _ (HV.out.below (by first | exact hb01 | exact hb01.alloc hb01.size _))).mono ?_
  rintro e w2 ⟨rfl, hb2⟩
  rw [HG.out]
  obtain ⟨c0, c1, c2, hbw, hlt⟩ := bxG3 hb2
  have hb02 := below_trans hb01 hbw
  clear hb2 hbw hb01
  go_wp2_with fail
  refine (gput_any G _ ⟨f, m, r⟩ _ (HV.out.below hb02) (by omega) HPW.out).mono ?_
  rintro e w4 ⟨u, rfl, ⟨hli, hfr⟩, hb4⟩
  have HFR := ghid (hfr.mono hb02.size)
  clear hfr
  have HLI := ghid hli
  have hb04 := below_trans hb02 hb4
  clear hli hb4 hb02 c0 c1 c2
  go_wp2_with fail
  refine (isOwned_any _ _ f _ HLI.out).mono ?_
  rintro e w5 ⟨rfl, hb5⟩
  rw [HA.out]
  have hb05 := below_trans hb04 hb5
  have HLI5 := ghid (HLI.out.below hb5)
  clear hb5 hb04 HLI
  go_wp2_with fail
  refine (bounded_no _ _ _ HLI5.out h6).mono ?_
  rintro e w6 ⟨rfl, hw⟩
  rw [hw]
  clear hw w6
  go_wp2
  go_ret2
  exact ⟨_, by rw [HE.out]; rfl, by rw [HL.out]; exact ⟨liesG_nil _, fr_nil _⟩, hb05⟩
 case inr.inr.inr.inr.inr.inr =>
  have HL : Hid (Pp.giL G f b m r = Pp.pgN ⟨f, m, r⟩ G) := Pp.giL_yes (eE.trans hE)
  have HE := ghid (eE.trans hE)
  have HC := ghid (eC.trans hn)
  have HG := ghid hc
  have HA := ghid ha
  clear eE eC hE hn hg0 hc ha
  go_enter Tryz.func27, Tryz.ntmps27
  go_wp2_with fail
  refine (gcheckAll_any G _ [f, b, m] w.heap.size 3 _ (HV.out.below ((Below.refl _ _).alloc (Nat.le_refl _) _)) HS.out (by simp) HSZ.out (by simp) (fun i hi => by match i, hi with | 0, _ => simp | 1, _ => simp | 2, _ => simp)).mono ?_
  rintro e w1 ⟨rfl, hb1⟩
  rw [HC.out]
  have hb01 : Below w.heap.size w w1 := ((Below.refl _ _).alloc (Nat.le_refl _) _).trans (hb1.mono (by simp))
  clear hb1
  go_wp2_with fail
  refine (checkGive_any G _ b ⟨f, m, r⟩ _ (HV.out.below (by first | exact hb01 | exact hb01.alloc hb01.size _))).mono ?_
  rintro e w2 ⟨rfl, hb2⟩
  rw [HG.out]
  obtain ⟨c0, c1, c2, hbw, hlt⟩ := bxG3 hb2
  have hb02 := below_trans hb01 hbw
  clear hb2 hbw hb01
  go_wp2_with fail
  refine (gput_any G _ ⟨f, m, r⟩ _ (HV.out.below hb02) (by omega) HPW.out).mono ?_
  rintro e w4 ⟨u, rfl, ⟨hli, hfr⟩, hb4⟩
  have HFR := ghid (hfr.mono hb02.size)
  clear hfr
  have HLI := ghid hli
  have hb04 := below_trans hb02 hb4
  clear hli hb4 hb02 c0 c1 c2
  go_wp2_with fail
  refine (isOwned_any _ _ f _ HLI.out).mono ?_
  rintro e w5 ⟨rfl, hb5⟩
  rw [HA.out]
  have hb05 := below_trans hb04 hb5
  have HLI5 := ghid (HLI.out.below hb5)
  clear hb5 hb04 HLI
  go_wp2_with fail
  refine (bounded_ok _ _ _ HLI5.out h6).mono ?_
  rintro e w6 ⟨rfl, hw⟩
  rw [hw]
  clear hw w6
  go_wp2
  go_ret2
  exact ⟨_, by rw [HE.out]; rfl, by rw [HL.out]; exact ⟨HLI5.out, HFR.out⟩, hb05⟩
end Go.Proofs.YtchlgpeiombmdaaGreat
set_option linter.unusedSimpArgs false
set_option linter.unusedVariables false
namespace Go.Proofs.YtchlgpeiombmdaaGreat
open Go.RowKit

set_option maxRecDepth 100000 in
set_option maxHeartbeats 4000000 in
theorem sgive_any (H : Hb) (q : Rq) (vq : Value) (g mb : Nat) (w : World) (hsv : SvL w g mb H) (hs : SizedG H.gs) (hq : LiesQ w vq q) (hsq : SizedQ q) :
    Calls Tryz.prog 78 #[.pointer (some ⟨g, 0, none⟩), vq] w fun z w' => z = .returned (.int .i64 (Pp.giE H.gs q.fo q.who q.name q.num)) ∧ SvL w' g mb (Hu.gsH H (Pp.giE H.gs q.fo q.who q.name q.num) (Pp.giL H.gs q.fo q.who q.name q.num)) ∧ w.grownBy w' (some g) := by
 have HSG := hid hs
 have HSQ := hid hsq
 clear hs hsq
 obtain ⟨va, rfl, lq⟩ := hq
 have HLQ := hid lq
 obtain ⟨qa, qc, rfl, _⟩ := lq
 obtain ⟨kind, who, fo, name, key, text, num, off, base, ch⟩ := q
 simp only at *
 obtain ⟨wz, hwz⟩ : ∃ wz, wz = w.alloc (.cells #[.int .i64 kind, .string who, .string fo, .string name, .string key, .string text, .int .i64 num, .int .i64 off, .int .i64 base, .slice qa ch.length qc] 31) := ⟨_, rfl⟩
 have hbz : Below w.heap.size w wz := by rw [hwz]; exact (Below.refl _ _).alloc (Nat.le_refl _) _
 have HQX : Hid (Cs wz w.heap.size [.int .i64 kind, .string who, .string fo, .string name, .string key, .string text, .int .i64 num, .int .i64 off, .int .i64 base, .slice qa ch.length qc]) := (by rw [hwz]; exact Cs.new w [.int .i64 kind, .string who, .string fo, .string name, .string key, .string text, .int .i64 num, .int .i64 off, .int .i64 base, .slice qa ch.length qc] _ : Cs wz w.heap.size _)
 obtain ⟨fos, gs, ss, nx, la, ro, now⟩ := H
 obtain ⟨fa, fc, ga, gc, sa, sc, hC, hF, hG, hS⟩ := hsv.shape
 simp only at *
 have HC := hid hC
 have HF := hid hF
 have HG := hid hG
 have HS := hid hS
 have hgl := hC.lt
 have HCz := hid (HC.out.below hbz)
 have HGz := hid (HG.out.below hbz)
 have hgz : g < wz.heap.size := Nat.lt_of_lt_of_le hgl hbz.size
 have hqz := HQX.out.lt
 clear hsv hF hG hS hC
 have p1 := HCz.out.cell 1 rfl
 have x2 := HQX.out.cell 2 rfl
 have x1 := HQX.out.cell 1 rfl
 have x3 := HQX.out.cell 3 rfl
 have x6 := HQX.out.cell 6 rfl
 obtain ⟨E, hE⟩ : ∃ E, E = Pp.giE gs fo who name num := ⟨_, rfl⟩
 obtain ⟨L, hL⟩ : ∃ L, L = Pp.giL gs fo who name num := ⟨_, rfl⟩
 rw [← hE, ← hL]
 have HE := hid hE
 have HL := hid hL
 clear hE hL
 go_enter Tryz.func78, Tryz.ntmps78
 go_upto_region 1 with fail
 rw [← hwz]
 clear hwz
 go_region_held3 (fun W => W.cell? ⟨g, 1, none⟩ = some (.slice ga gs.length gc) ∧ W.cell? ⟨w.heap.size, 2, none⟩ = some (.string fo) ∧ W.cell? ⟨w.heap.size, 1, none⟩ = some (.string who) ∧ W.cell? ⟨w.heap.size, 3, none⟩ = some (.string name) ∧ W.cell? ⟨w.heap.size, 6, none⟩ = some (.int .i64 num)) (go_keep) (first
  | (go_at_call 27; refine (give_any gs _ fo who name num _ (HGz.out.below (Below.refl _ _).drew) HSG.out HSQ.out.fo HSQ.out.who HSQ.out.name).mono ?_; rw [← HE.out, ← HL.out]; rintro e wa ⟨u, rfl, ⟨hlu, _⟩, hba⟩; have hya : Below wz.heap.size wz wa := ((Below.refl _ _).drew).trans hba; have j0 := (hya.cell (p := ⟨g, 1, none⟩) hgz).trans p1; have j1 := (hya.cell (p := ⟨w.heap.size, 2, none⟩) hqz).trans x2; have j2 := (hya.cell (p := ⟨w.heap.size, 1, none⟩) hqz).trans x1; have j3 := (hya.cell (p := ⟨w.heap.size, 3, none⟩) hqz).trans x3; have j4 := (hya.cell (p := ⟨w.heap.size, 6, none⟩) hqz).trans x6))
 have HLU := hid hlu
 obtain ⟨ua, uc, rfl, _⟩ := hlu
 have hb0a := below_tr hbz hya
 have HCa := hid (HC.out.below hb0a)
 clear p1 x1 x2 x3 x6 j0 j1 j2 j3 j4
 by_cases he : E = 0
 · subst he
   obtain ⟨w2, hw2⟩ : ∃ w2, w2 = wa.setCell ⟨g, 1, none⟩ (.slice ua L.length uc) := ⟨_, rfl⟩
   have hg2 : wa.grownBy w2 (some g) := by rw [hw2]; exact nb_set _ _ _ _
   have HC2 : Hid (Cs w2 g [.slice fa fos.length fc, .slice ua L.length uc, .slice sa ss.length sc, .int .i64 nx, .int .i64 la, .int .i64 ro, .int .i64 now, .map (some mb)]) := (by rw [hw2]; exact HCa.out.set 1 _ : Cs w2 g _)
   have HNS := hid (noStr_sv HCa.out)
   have HR := hid (show SvL w2 g mb ⟨fos, L, ss, nx, la, ro, now⟩ from ⟨_, _, _, HC2.out, (HF.out.below hb0a).nb hg2 HNS.out, HLU.out.nb hg2 HNS.out, (HS.out.below hb0a).nb hg2 HNS.out⟩)
   have hg0 : w.grownBy w2 (some g) := Nb.trans (Nb.below g hb0a) hg2
   have p1 := HCa.out.cell 1 rfl
   have f1 := HCa.out.fr 1
   go_wp2_with fail
   rw [← hw2]
   go_ret
   exact ⟨rfl, by rw [Hu.gsH, if_pos rfl]; exact HR.out, hg0⟩
 · have hz : (E == 0) = false := by simpa using he
   have HNE := hid he
   have HR := hid (show SvL wa g mb ⟨fos, gs, ss, nx, la, ro, now⟩ from ⟨_, _, _, HCa.out, HF.out.below hb0a, HG.out.below hb0a, HS.out.below hb0a⟩)
   clear he
   go_wp2_with fail
   go_ret
   exact ⟨rfl, by rw [Hu.gsH, if_neg HNE.out]; exact HR.out, Nb.below g hb0a⟩
end Go.Proofs.YtchlgpeiombmdaaGreat
set_option linter.unusedSimpArgs false
set_option linter.unusedVariables false
namespace Go.Proofs.YtchlgpeiombmdaaGreat
open Go.RowKit

set_option maxRecDepth 100000 in
set_option maxHeartbeats 4000000 in
theorem snum_give (H : Hb) (q : Rq) (vq vf : Value) (g mb : Nat) (w : World) (hsv : SvL w g mb H) (hs : SizedG H.gs) (hq : LiesQ w vq q) (hsq : SizedQ q) (hk : q.kind = 3) :
    Calls Tryz.prog 42 #[.pointer (some ⟨g, 0, none⟩), vq] w fun z w' => z = .returned (.tuple #[.int .i64 0, .int .i64 (Pp.giE H.gs q.fo q.who q.name q.num)]) ∧ SvL w' g mb (Hu.gsH H (Pp.giE H.gs q.fo q.who q.name q.num) (Pp.giL H.gs q.fo q.who q.name q.num)) ∧ Nb2 w w' g (bo vf g) := by
 have HSG := hid hs
 clear hs
 have HSV := hid hsv
 have HSQ := hid hsq
 clear hsv hsq
 obtain ⟨va, rfl, lq⟩ := hq
 have HLQ := hid lq
 obtain ⟨qa, qc, rfl, _⟩ := lq
 obtain ⟨kind, who, fo, name, key, text, num, off, base, ch⟩ := q
 simp only at *
 obtain ⟨wz, hwz⟩ : ∃ wz, wz = w.alloc (.cells #[.int .i64 kind, .string who, .string fo, .string name, .string key, .string text, .int .i64 num, .int .i64 off, .int .i64 base, .slice qa ch.length qc] 31) := ⟨_, rfl⟩
 have hbz : Below w.heap.size w wz := by rw [hwz]; exact (Below.refl _ _).alloc (Nat.le_refl _) _
 have HQX : Hid (Cs wz w.heap.size [.int .i64 kind, .string who, .string fo, .string name, .string key, .string text, .int .i64 num, .int .i64 off, .int .i64 base, .slice qa ch.length qc]) := (by rw [hwz]; exact Cs.new w [.int .i64 kind, .string who, .string fo, .string name, .string key, .string text, .int .i64 num, .int .i64 off, .int .i64 base, .slice qa ch.length qc] _ : Cs wz w.heap.size _)
 subst hk
 have x0 := HQX.out.cell 0 rfl
 have x1 := HQX.out.cell 1 rfl
 have x2 := HQX.out.cell 2 rfl
 have x3 := HQX.out.cell 3 rfl
 have x4 := HQX.out.cell 4 rfl
 have x5 := HQX.out.cell 5 rfl
 have x6 := HQX.out.cell 6 rfl
 have x7 := HQX.out.cell 7 rfl
 have x8 := HQX.out.cell 8 rfl
 have x9 := HQX.out.cell 9 rfl
 have hs01 := hbz.size
 go_enter Tryz.func42, Tryz.ntmps42
 go_upto_region 1 with fail
 rw [← hwz]
 clear hwz
 go_wp2_with fail
 refine (sgive_any H ⟨3, who, fo, name, key, text, num, off, base, ch⟩ _ g mb wz (HSV.out.below hbz) HSG.out ⟨_, rfl, HLQ.out.below hbz⟩ HSQ.out).mono ?_
 rintro z w3 ⟨rfl, hs3, hn3⟩
 have HS3 := hid hs3
 have HN3 := hid (show Nb2 w w3 g (bo vf g) from (Nb2.of_below _ _ hbz).trans (Nb2.of_left _ hn3))
 clear hs3 hn3
 go_wp2_with fail
 go_ret2
 exact ⟨rfl, HS3.out, HN3.out⟩
end Go.Proofs.YtchlgpeiombmdaaGreat
set_option linter.unusedSimpArgs false
set_option linter.unusedVariables false
namespace Go.Proofs.YtchlgpeiombmdaaGreat
open Go.RowKit

theorem noStr_pg {w : World} {g : Nat} {c : Int} {r m : Bool} {x y : Option Addr} {a b a' b' : Nat} (h : Cs w g [.bool r, .slice x a b, .slice y a' b', .int .i64 c, .bool m]) : NoStr w g := h.noStr (fun s hs => by simp at hs)
theorem LiesPg.nb {W W' : World} {v : Value} {P : Pg} {g : Nat} (h : LiesPg W v P) (hw : W.grownBy W' (some g)) (hn : NoStr W g) : LiesPg W' v P := by
 obtain ⟨vt, vc, rfl, h2, h3⟩ := h
 exact ⟨vt, vc, rfl, h2.nb hw hn, h3.nb hw hn⟩
set_option maxRecDepth 100000 in
set_option maxHeartbeats 8000000 in
theorem spage_any (H : Hb) (q : Rq) (vq vf vg vs : Value) (g mb n : Nat) (w : World) (hb : Cs w g [vf, vg, vs, .int .i64 H.nx, .int .i64 H.la, .int .i64 H.ro, .int .i64 H.now, .map (some mb)]) (hf : LiesF w vf H.fos) (hm : SvM w mb n H) (hs : SizedF H.fos) (hq : LiesQ w vq q) (hsq : SizedQ q) (hi : Hu.whr H.fos H.gs q.fo < H.fos.length) :
    Calls Tryz.prog 41 #[.pointer (some ⟨g, 0, none⟩), vq] w fun z w' => ∃ u, z = .returned (.tuple #[u, .int .i64 (Jn.rdE (Hu.joAt H (Hu.whr H.fos H.gs q.fo)) q.num 10)]) ∧ LiesPg w' u (Jn.rdR (Hu.joAt H (Hu.whr H.fos H.gs q.fo)) q.num 10) ∧ Below w.heap.size w w' := by
 have HB := hid hb
 have HF := hid hf
 have HM := hid hm
 have HSQ := hid hsq
 have HI := hid hi
 have HSJ := hid (show Sized (Hu.joAt H (Hu.whr H.fos H.gs q.fo)).base ∧ SizedO 150000000000000 (Hu.joAt H (Hu.whr H.fos H.gs q.fo)).cos from by rw [Hu.joAt_eq hi]; exact (hs _ (List.getElem_mem hi)).2)
 clear hb hf hm hs hsq hi
 obtain ⟨va, rfl, lq⟩ := hq
 obtain ⟨qa, qc, rfl, _⟩ := lq
 obtain ⟨kind, who, fo, name, key, text, num, off, base, ch⟩ := q
 simp only at *
 obtain ⟨J, hJ⟩ : ∃ J, J = Hu.joAt H (Hu.whr H.fos H.gs fo) := ⟨_, rfl⟩
 have HJC := hid (show ∀ W, Below w.heap.size w W → Calls Tryz.prog 76 #[.pointer (some ⟨g, 0, none⟩), .string fo] W fun e w' => ∃ u, e = .returned u ∧ LiesJ w' u J ∧ Below W.heap.size W w' from fun W hW => by
  have h := sjournal_any H _ _ _ g mb n fo W (HB.out.below hW) (HF.out.below hW) (HM.out.below hW) HSQ.out.fo HI.out
  refine h.mono ?_
  rintro e w' ⟨u, rfl, hl, hb⟩
  exact ⟨u, rfl, by rw [hJ, Hu.joAt_eq HI.out]; exact hl, hb⟩)
 rw [← hJ] at HSJ ⊢
 clear hJ
 obtain ⟨E, hE⟩ : ∃ E, E = Jn.rdE J num 10 := ⟨_, rfl⟩
 obtain ⟨P, hP⟩ : ∃ P, P = Jn.rdR J num 10 := ⟨_, rfl⟩
 have HRD := hid (show ∀ W v, LiesJ W v J → Calls Tryz.prog 75 #[v, .int .i64 num, .int .i64 10] W fun e w' => ∃ r, e = .returned (.tuple #[r, .int .i64 E]) ∧ LiesPg w' r P ∧ Below W.heap.size W w' from fun W v hv => by
  refine (jread_any J v num 10 W hv HSJ.out.1 HSJ.out.2).mono ?_
  rintro e w' ⟨r, rfl, hp, hb⟩
  exact ⟨r, by rw [hE], by rw [hP]; exact hp.lies, hb⟩)
 rw [← hE, ← hP]
 clear hE hP
 obtain ⟨wa, hwa⟩ : ∃ wa, wa = w.alloc (.cells #[.int .i64 kind, .string who, .string fo, .string name, .string key, .string text, .int .i64 num, .int .i64 off, .int .i64 base, .slice qa ch.length qc] 31) := ⟨_, rfl⟩
 obtain ⟨wz, hwz⟩ : ∃ wz, wz = wa.alloc (.cells #[.bool false, .slice none 0 0, .slice none 0 0, .int .i64 0, .bool false] 37) := ⟨_, rfl⟩
 have sa1 : wa.heap.size = w.heap.size + 1 := by rw [hwa]; simp
 have bwa : Below w.heap.size w wa := by rw [hwa]; exact (Below.refl _ _).alloc (Nat.le_refl _) _
 have bwz : Below wa.heap.size wa wz := by rw [hwz]; exact (Below.refl _ _).alloc (Nat.le_refl _) _
 have hbz : Below w.heap.size w wz := below_tr bwa bwz
 have HQX : Hid (Cs wz w.heap.size [.int .i64 kind, .string who, .string fo, .string name, .string key, .string text, .int .i64 num, .int .i64 off, .int .i64 base, .slice qa ch.length qc]) := ((by rw [hwa]; exact Cs.new w [.int .i64 kind, .string who, .string fo, .string name, .string key, .string text, .int .i64 num, .int .i64 off, .int .i64 base, .slice qa ch.length qc] _ : Cs wa w.heap.size [.int .i64 kind, .string who, .string fo, .string name, .string key, .string text, .int .i64 num, .int .i64 off, .int .i64 base, .slice qa ch.length qc]).below bwz : Cs wz w.heap.size _)
 have HPX : Hid (Cs wz (w.heap.size + 1) [.bool false, .slice none 0 0, .slice none 0 0, .int .i64 0, .bool false]) := (by rw [← sa1, hwz]; exact Cs.new wa [.bool false, .slice none 0 0, .slice none 0 0, .int .i64 0, .bool false] _ : Cs wz (w.heap.size + 1) _)
 have hwzz : (w.alloc (.cells #[.int .i64 kind, .string who, .string fo, .string name, .string key, .string text, .int .i64 num, .int .i64 off, .int .i64 base, .slice qa ch.length qc] 31)).alloc (.cells #[.bool false, .slice none 0 0, .slice none 0 0, .int .i64 0, .bool false] 37) = wz := by rw [hwz, hwa]
 have HWZ := hid hwzz
 have x2 := HQX.out.cell 2 rfl
 have x6 := HQX.out.cell 6 rfl
 have hsz : w.heap.size + 1 < wz.heap.size := HPX.out.lt
 have hdr : Below wz.heap.size wz wz.drew := (Below.refl _ _).drew
 have hdrw := below_tr hbz hdr
 clear hwa hwz bwa bwz sa1 hwzz
 go_enter Tryz.func41, Tryz.ntmps41
 go_upto_region 1 with fail
 rw [HWZ.out]
 clear HWZ
 go_region_held3 (fun W => W.cell? ⟨w.heap.size, 2, none⟩ = some (.string fo) ∧ W.cell? ⟨w.heap.size, 6, none⟩ = some (.int .i64 num)) (first | go_keep | (have hx := (HQX.out.below hb45).nb (grown_on (grown_on (grown_on (grown_on (nb_set w5 (w.heap.size + 1) 0 (.bool P.reset)) (nb_set _ (w.heap.size + 1) 1 (.slice pta P.tree.length ptc))) (nb_set _ (w.heap.size + 1) 2 (.slice pca P.cos.length pcc))) (nb_set _ (w.heap.size + 1) 3 (.int .i64 P.cur))) (nb_set _ (w.heap.size + 1) 4 (.bool P.more))) (by omega); exact ⟨hx.cell 2 rfl, hx.cell 6 rfl⟩)) (first
  | (go_at_call 76; refine (HJC.out _ hdrw).mono ?_; rintro e w3 ⟨u3, rfl, hJ3, hb3⟩; have hb23 := below_tr hdr hb3; have HJ3 := hid hJ3; obtain ⟨vb3, vc3, rfl, lb3, lc3⟩ := hJ3; obtain ⟨_, _, rfl, _⟩ := lb3; obtain ⟨_, _, rfl⟩ := liesO_shape lc3; clear lc3; have q2 := (HQX.out.below hb23).cell 2 rfl; have q6 := (HQX.out.below hb23).cell 6 rfl)
  | (go_at_call 75; refine (HRD.out _ _ HJ3.out).mono ?_; rintro e w5 ⟨u5, rfl, hP5, hb5⟩; have hb45 := below_tr hb23 hb5; have HP5 := hid hP5; obtain ⟨vt5, vc5, rfl, lt5, lc5⟩ := hP5; obtain ⟨pta, ptc, rfl, _⟩ := lt5; obtain ⟨pca, pcc, rfl⟩ := liesO_shape lc5; clear lc5; have HY := hid (HPX.out.below hb45); have r2 := (HQX.out.below hb45).cell 2 rfl; have r6 := (HQX.out.below hb45).cell 6 rfl; have y0 := HY.out.cell 0 rfl; have y1 := HY.out.cell 1 rfl; have y2 := HY.out.cell 2 rfl; have y3 := HY.out.cell 3 rfl; have y4 := HY.out.cell 4 rfl; have f0 := HY.out.fr 0; have f1 := HY.out.fr 1; have f2 := HY.out.fr 2; have f3 := HY.out.fr 3; have f4 := HY.out.fr 4))
 all_goals
  go_wp2_with fail
  refine bodyPost_ret (v := .tuple #[.agg #[.bool P.reset, .slice pta P.tree.length ptc, .slice pca P.cos.length pcc, .int .i64 P.cur, .bool P.more], .int .i64 E]) (by simp [results, Tryz.results41, go_sem, y0, y1, y2, y3, y4]) rfl ⟨_, rfl, HP5.out.nb (grown_on (grown_on (grown_on (grown_on (nb_set w5 (w.heap.size + 1) 0 (.bool P.reset)) (nb_set _ (w.heap.size + 1) 1 (.slice pta P.tree.length ptc))) (nb_set _ (w.heap.size + 1) 2 (.slice pca P.cos.length pcc))) (nb_set _ (w.heap.size + 1) 3 (.int .i64 P.cur))) (nb_set _ (w.heap.size + 1) 4 (.bool P.more))) (noStr_pg HY.out), ?_⟩
  exact ((((((below_tr hbz hb45).setCell (p := ⟨w.heap.size + 1, 0, none⟩) (Nat.le_succ _) _).setCell (p := ⟨w.heap.size + 1, 1, none⟩) (Nat.le_succ _) _).setCell (p := ⟨w.heap.size + 1, 2, none⟩) (Nat.le_succ _) _).setCell (p := ⟨w.heap.size + 1, 3, none⟩) (Nat.le_succ _) _).setCell (p := ⟨w.heap.size + 1, 4, none⟩) (Nat.le_succ _) _)
end Go.Proofs.YtchlgpeiombmdaaGreat
set_option linter.unusedSimpArgs false
set_option linter.unusedVariables false
namespace Go.Proofs.YtchlgpeiombmdaaGreat
open Go.RowKit

set_option maxRecDepth 100000 in
set_option maxHeartbeats 8000000 in
theorem sanswer_page (H : Hb) (q : Rq) (vq vf vg vs : Value) (B g mb n : Nat) (w : World) (hfull : Sv B w g mb vf vg vs H) (hm : SvM w mb n H) (hsF : SizedF H.fos) (hs : SizedG H.gs) (hq : LiesQ w vq q) (hsq : SizedQ q) (hck : Hu.ckE H.gs q = 0) (hk : q.kind = 2) (hi : Hu.whr H.fos H.gs q.fo < H.fos.length) : AnsOK w g mb vf vq ⟨Jn.rdE (Hu.joAt H (Hu.whr H.fos H.gs q.fo)) q.num 10, 0, Jn.rdR (Hu.joAt H (Hu.whr H.fos H.gs q.fo)) q.num 10⟩ H := by
 have HSG := hid hs
 have HSQ := hid hsq
 have HCK := hid hck
 have HFU := hid hfull
 have HM := hid hm
 have HSF := hid hsF
 have HI := hid hi
 have hsv := hfull.lies
 clear hs hsq hck hfull hm hsF hi
 unfold AnsOK
 have HKI := hid hk
 clear hk
 obtain ⟨va, rfl, lq⟩ := hq
 have HLQ := hid lq
 obtain ⟨qa, qc, rfl, _⟩ := lq
 obtain ⟨kind, who, fo, name, key, text, num, off, base, ch⟩ := q
 simp only at *
 obtain ⟨wa, hwa⟩ : ∃ wa, wa = w.alloc (.cells #[.int .i64 kind, .string who, .string fo, .string name, .string key, .string text, .int .i64 num, .int .i64 off, .int .i64 base, .slice qa ch.length qc] 31) := ⟨_, rfl⟩
 obtain ⟨wz, hwz⟩ : ∃ wz, wz = wa.alloc (.cells #[.int .i64 0, .int .i64 0, .bool false, .slice none 0 0, .slice none 0 0, .int .i64 0, .bool false] 39) := ⟨_, rfl⟩
 have sa1 : wa.heap.size = w.heap.size + 1 := by rw [hwa]; simp
 have bwa : Below w.heap.size w wa := by rw [hwa]; exact (Below.refl _ _).alloc (Nat.le_refl _) _
 have bwz : Below wa.heap.size wa wz := by rw [hwz]; exact (Below.refl _ _).alloc (Nat.le_refl _) _
 have hbz : Below w.heap.size w wz := below_tr bwa bwz
 have HQX : Hid (Cs wz w.heap.size [.int .i64 kind, .string who, .string fo, .string name, .string key, .string text, .int .i64 num, .int .i64 off, .int .i64 base, .slice qa ch.length qc]) := ((by rw [hwa]; exact Cs.new w [.int .i64 kind, .string who, .string fo, .string name, .string key, .string text, .int .i64 num, .int .i64 off, .int .i64 base, .slice qa ch.length qc] _ : Cs wa w.heap.size [.int .i64 kind, .string who, .string fo, .string name, .string key, .string text, .int .i64 num, .int .i64 off, .int .i64 base, .slice qa ch.length qc]).below bwz : Cs wz w.heap.size _)
 have HAX := hid (show Cs wz (w.heap.size + 1) [.int .i64 0, .int .i64 0, .bool false, .slice none 0 0, .slice none 0 0, .int .i64 0, .bool false] from by rw [← sa1, hwz]; exact Cs.new wa [.int .i64 0, .int .i64 0, .bool false, .slice none 0 0, .slice none 0 0, .int .i64 0, .bool false] _)
 have hwzz : (w.alloc (.cells #[.int .i64 kind, .string who, .string fo, .string name, .string key, .string text, .int .i64 num, .int .i64 off, .int .i64 base, .slice qa ch.length qc] 31)).alloc (.cells #[.int .i64 0, .int .i64 0, .bool false, .slice none 0 0, .slice none 0 0, .int .i64 0, .bool false] 39) = wz := by rw [hwz, hwa]
 have HWZ := hid hwzz
 have hsz2 : w.heap.size + 1 < wz.heap.size := HAX.out.lt
 clear hwa hwz bwa bwz sa1 hwzz
 obtain ⟨fa, fc, ga, gc, sa, sc, hC, hF, hG, hS⟩ := hsv.shape
 have HSVz := hid (hsv.below hbz)
 have HCz := hid (hC.below hbz)
 have HGz := hid (hG.below hbz)
 have hgl := hC.lt
 have hgz : g < wz.heap.size := Nat.lt_of_lt_of_le hgl hbz.size
 clear hC hF hG hS
 have x0 := HQX.out.cell 0 rfl
 have x1 := HQX.out.cell 1 rfl
 have x2 := HQX.out.cell 2 rfl
 have x3 := HQX.out.cell 3 rfl
 have x4 := HQX.out.cell 4 rfl
 have x5 := HQX.out.cell 5 rfl
 have x6 := HQX.out.cell 6 rfl
 have x7 := HQX.out.cell 7 rfl
 have x8 := HQX.out.cell 8 rfl
 have x9 := HQX.out.cell 9 rfl
 go_enter Tryz.func21, Tryz.ntmps21
 go_upto_region 1 with fail
 rw [HWZ.out]
 clear HWZ
 go_wp2_with fail
 refine (scheck_any H.gs ⟨kind, who, fo, name, key, text, num, off, base, ch⟩ _ _ g wz hgz (HCz.out.cell 1 rfl) HGz.out HSG.out ⟨_, rfl, HLQ.out.below hbz⟩ HSQ.out).mono ?_
 rintro e w1 ⟨rfl, hb1⟩
 clear x0 x1 x2 x3 x4 x5 x6 x7 x8 x9
 have hb01 := below_tr hbz hb1
 have HSV1 := hid (HSVz.out.below hb1)
 have HQ1 := hid (HQX.out.below hb1)
 have HA1 := hid (HAX.out.below hb1)
 have hs1 := hb1.size
 rw [HCK.out]
 obtain rfl : kind = 2 := HKI.out
 clear HKI
 clear HCK
 obtain ⟨E, hE⟩ : ∃ E, E = Jn.rdE (Hu.joAt H (Hu.whr H.fos H.gs fo)) num 10 := ⟨_, rfl⟩
 obtain ⟨P, hP⟩ : ∃ P, P = Jn.rdR (Hu.joAt H (Hu.whr H.fos H.gs fo)) num 10 := ⟨_, rfl⟩
 have HE := hid hE
 have HP := hid hP
 clear hE hP
 obtain ⟨w2, hw2⟩ : ∃ w2, w2 = w1.alloc (.cells #[.int .i64 0, .int .i64 0, .bool false, .slice none 0 0, .slice none 0 0, .int .i64 0, .bool false] 39) := ⟨_, rfl⟩
 have hb2 : Below w1.heap.size w1 w2 := by rw [hw2]; exact (Below.refl _ _).alloc (Nat.le_refl _) _
 have HB2 := hid (show Cs w2 w1.heap.size [.int .i64 0, .int .i64 0, .bool false, .slice none 0 0, .slice none 0 0, .int .i64 0, .bool false] from by rw [hw2]; exact Cs.new w1 [.int .i64 0, .int .i64 0, .bool false, .slice none 0 0, .slice none 0 0, .int .i64 0, .bool false] _)
 have HQ2 := hid (HQ1.out.below hb2)
 have HA2 := hid (HA1.out.below hb2)
 have hb02 := below_tr hb01 hb2
 have hs2 := hb2.size
 have hl2 := HB2.out.lt
 have HSV2 := hid (HSV1.out.below hb2)
 have HF2 := hid (HFU.out.below hb02)
 have x0 := HQ2.out.cell 0 rfl
 have x1 := HQ2.out.cell 1 rfl
 have x2 := HQ2.out.cell 2 rfl
 have x3 := HQ2.out.cell 3 rfl
 have x4 := HQ2.out.cell 4 rfl
 have x5 := HQ2.out.cell 5 rfl
 have x6 := HQ2.out.cell 6 rfl
 have x7 := HQ2.out.cell 7 rfl
 have x8 := HQ2.out.cell 8 rfl
 have x9 := HQ2.out.cell 9 rfl
 go_upto_region 5 with fail
 rw [← hw2]
 clear hw2
 go_wp2_with fail
 refine (spage_any H ⟨2, who, fo, name, key, text, num, off, base, ch⟩ _ vf vg vs g mb n w2 HF2.out.1 HF2.out.2.1.lies (HM.out.below hb02) HSF.out ⟨_, rfl, HLQ.out.below hb02⟩ HSQ.out HI.out).mono ?_
 rw [← HE.out, ← HP.out]
 rintro z w3 ⟨u3, rfl, hp3, hb3⟩
 have HP3 := hid hp3
 obtain ⟨vt5, vc5, rfl, lt5, lc5⟩ := hp3
 obtain ⟨pta, ptc, rfl, _⟩ := lt5
 obtain ⟨pca, pcc, rfl⟩ := liesO_shape lc5
 clear lc5
 have HSV3 := hid (HSV2.out.below hb3)
 have HB3 := hid (HB2.out.below hb3)
 have HA3 := hid (HA2.out.below hb3)
 have hb03 := below_tr hb02 hb3
 have hs3 := hb3.size
 clear x0 x1 x2 x3 x4 x5 x6 x7 x8 x9
 obtain ⟨w4, hw4⟩ : ∃ w4, w4 = (((((w3.setCell ⟨w1.heap.size, 2, none⟩ (.bool P.reset)).setCell ⟨w1.heap.size, 2 + 1, none⟩ (.slice pta P.tree.length ptc)).setCell ⟨w1.heap.size, 2 + 2, none⟩ (.slice pca P.cos.length pcc)).setCell ⟨w1.heap.size, 2 + 3, none⟩ (.int .i64 P.cur)).setCell ⟨w1.heap.size, 2 + 4, none⟩ (.bool P.more)).setCell ⟨w1.heap.size, 0, none⟩ (.int .i64 E) := ⟨_, rfl⟩
 have hg4 : w3.grownBy w4 (some w1.heap.size) := by rw [hw4]; exact grown_on (grown_on (grown_on (grown_on (grown_on (nb_set _ _ _ _) (nb_set _ _ _ _)) (nb_set _ _ _ _)) (nb_set _ _ _ _)) (nb_set _ _ _ _)) (nb_set _ _ _ _)
 have HB4 : Hid (Cs w4 w1.heap.size [.int .i64 E, .int .i64 0, .bool P.reset, .slice pta P.tree.length ptc, .slice pca P.cos.length pcc, .int .i64 P.cur, .bool P.more]) := (by rw [hw4]; exact (((((HB3.out.set 2 (.bool P.reset)).set 3 (.slice pta P.tree.length ptc)).set 4 (.slice pca P.cos.length pcc)).set 5 (.int .i64 P.cur)).set 6 (.bool P.more)).set 0 (.int .i64 E) : Cs w4 w1.heap.size _)
 have HA4 := hid (HA3.out.nb hg4 (by omega))
 have HSV4 := hid (HSV3.out.nb hg4 (noStr_ans HB3.out) (by omega))
 have HP4 := hid (HP3.out.nb hg4 (noStr_ans HB3.out))
 have hb04 : Below w.heap.size w w4 := by rw [hw4]; exact (((((hb03.setCell (p := ⟨w1.heap.size, 2, none⟩) hb01.size _).setCell (p := ⟨w1.heap.size, 2 + 1, none⟩) hb01.size _).setCell (p := ⟨w1.heap.size, 2 + 2, none⟩) hb01.size _).setCell (p := ⟨w1.heap.size, 2 + 3, none⟩) hb01.size _).setCell (p := ⟨w1.heap.size, 2 + 4, none⟩) hb01.size _).setCell (p := ⟨w1.heap.size, 0, none⟩) hb01.size _
 have p0 := HB3.out.cell 0 rfl
 have f0 := HB3.out.fr 0
 have p1 := HB3.out.cell 1 rfl
 have f1 := HB3.out.fr 1
 have p2 := HB3.out.cell 2 rfl
 have f2 := HB3.out.fr 2
 have p3 := HB3.out.cell 3 rfl
 have f3 := HB3.out.fr 3
 have p4 := HB3.out.cell 4 rfl
 have f4 := HB3.out.fr 4
 have p5 := HB3.out.cell 5 rfl
 have f5 := HB3.out.fr 5
 have p6 := HB3.out.cell 6 rfl
 have f6 := HB3.out.fr 6
 go_upto_region 8 with fail
 rw [← hw4]
 clear hw4 p0 p1 p2 p3 p4 p5 p6 f0 f1 f2 f3 f4 f5 f6
 obtain ⟨w5, hw5⟩ : ∃ w5, w5 = (((((((w4.setCell ⟨w.heap.size + 1, 0, none⟩ (.int .i64 E)).setCell ⟨w.heap.size + 1, 1, none⟩ (.int .i64 0)).setCell ⟨w.heap.size + 1, 2, none⟩ (.bool P.reset)).setCell ⟨w.heap.size + 1, 3, none⟩ (.slice pta P.tree.length ptc)).setCell ⟨w.heap.size + 1, 4, none⟩ (.slice pca P.cos.length pcc)).setCell ⟨w.heap.size + 1, 5, none⟩ (.int .i64 P.cur)).setCell ⟨w.heap.size + 1, 6, none⟩ (.bool P.more)) := ⟨_, rfl⟩
 have hg5 : w4.grownBy w5 (some (w.heap.size + 1)) := by rw [hw5]; exact (grown_on (grown_on (grown_on (grown_on (grown_on (grown_on (nb_set w4 (w.heap.size + 1) 0 (.int .i64 E)) (nb_set _ (w.heap.size + 1) 1 (.int .i64 0))) (nb_set _ (w.heap.size + 1) 2 (.bool P.reset))) (nb_set _ (w.heap.size + 1) 3 (.slice pta P.tree.length ptc))) (nb_set _ (w.heap.size + 1) 4 (.slice pca P.cos.length pcc))) (nb_set _ (w.heap.size + 1) 5 (.int .i64 P.cur))) (nb_set _ (w.heap.size + 1) 6 (.bool P.more)))
 have HA5 : Hid (Cs w5 (w.heap.size + 1) [.int .i64 E, .int .i64 0, .bool P.reset, .slice pta P.tree.length ptc, .slice pca P.cos.length pcc, .int .i64 P.cur, .bool P.more]) := (by rw [hw5]; exact (((((((HA4.out.set 0 (.int .i64 E)).set 1 (.int .i64 0)).set 2 (.bool P.reset)).set 3 (.slice pta P.tree.length ptc)).set 4 (.slice pca P.cos.length pcc)).set 5 (.int .i64 P.cur)).set 6 (.bool P.more)) : Cs w5 (w.heap.size + 1) _)
 have HSV5 := hid (HSV4.out.nb hg5 (noStr_ans HA4.out) (by omega))
 have HP5 := hid (HP4.out.nb hg5 (noStr_ans HA4.out))
 have hb05 : Below w.heap.size w w5 := by rw [hw5]; exact (((((((hb04.setCell (p := ⟨w.heap.size + 1, 0, none⟩) (Nat.le_succ _) _).setCell (p := ⟨w.heap.size + 1, 1, none⟩) (Nat.le_succ _) _).setCell (p := ⟨w.heap.size + 1, 2, none⟩) (Nat.le_succ _) _).setCell (p := ⟨w.heap.size + 1, 3, none⟩) (Nat.le_succ _) _).setCell (p := ⟨w.heap.size + 1, 4, none⟩) (Nat.le_succ _) _).setCell (p := ⟨w.heap.size + 1, 5, none⟩) (Nat.le_succ _) _).setCell (p := ⟨w.heap.size + 1, 6, none⟩) (Nat.le_succ _) _)
 have HL5 := hid (show LiesA w5 (.agg #[.int .i64 E, .int .i64 0, .bool P.reset, .slice pta P.tree.length ptc, .slice pca P.cos.length pcc, .int .i64 P.cur, .bool P.more]) ⟨E, 0, P⟩ from by
  obtain ⟨a, b, e, l1, l2⟩ := HP5.out
  injection e with e
  simp only [Array.mk.injEq, List.cons.injEq] at e
  obtain ⟨_, e1, e2, _⟩ := e
  subst e1 e2
  exact ⟨_, _, rfl, l1, l2⟩)
 have q0 := HB4.out.cell 0 rfl
 have q1 := HB4.out.cell 1 rfl
 have q2 := HB4.out.cell 2 rfl
 have q3 := HB4.out.cell 3 rfl
 have q4 := HB4.out.cell 4 rfl
 have q5 := HB4.out.cell 5 rfl
 have q6 := HB4.out.cell 6 rfl
 have p0 := HA4.out.cell 0 rfl
 have f0 := HA4.out.fr 0
 have p1 := HA4.out.cell 1 rfl
 have f1 := HA4.out.fr 1
 have p2 := HA4.out.cell 2 rfl
 have f2 := HA4.out.fr 2
 have p3 := HA4.out.cell 3 rfl
 have f3 := HA4.out.fr 3
 have p4 := HA4.out.cell 4 rfl
 have f4 := HA4.out.fr 4
 have p5 := HA4.out.cell 5 rfl
 have f5 := HA4.out.fr 5
 have p6 := HA4.out.cell 6 rfl
 have f6 := HA4.out.fr 6
 go_wp2_with fail
 rw [← hw5]
 clear p0 p1 p2 p3 p4 p5 p6
 have y0 := HA5.out.cell 0 rfl
 have y1 := HA5.out.cell 1 rfl
 have y2 := HA5.out.cell 2 rfl
 have y3 := HA5.out.cell 3 rfl
 have y4 := HA5.out.cell 4 rfl
 have y5 := HA5.out.cell 5 rfl
 have y6 := HA5.out.cell 6 rfl
 refine bodyPost_ret (v := .agg #[.int .i64 E, .int .i64 0, .bool P.reset, .slice pta P.tree.length ptc, .slice pca P.cos.length pcc, .int .i64 P.cur, .bool P.more]) (by simp [results, Tryz.results21, go_sem, y0, y1, y2, y3, y4, y5, y6]) rfl ⟨_, rfl, by rw [← HE.out, ← HP.out]; exact HL5.out, HSV5.out, Nb2.of_below _ _ hb05⟩
end Go.Proofs.YtchlgpeiombmdaaGreat
set_option linter.unusedSimpArgs false
set_option linter.unusedVariables false
namespace Go.Proofs.YtchlgpeiombmdaaGreat
open Go.RowKit

theorem serve_err (H : Hb) (q : Rq) (v vq : Value) (w : World) (hv : LiesH w v H) (hs : SizedH H) (hq : LiesQ w vq q) (hsq : SizedQ q) (h0 : Hu.hE H = 0) (hck : ¬ Hu.ckE H.gs q = 0) :
    Calls Tryz.prog 9 #[v, vq] w fun e w' => ∃ u a, e = .returned (.tuple #[u, a, .int .i64 0]) ∧ LiesH w' u H ∧ LiesA w' a ⟨Hu.ckE H.gs q, 0, Jn.zeroP⟩ ∧ Below w.heap.size w w' := by
 refine serve_ok H H _ q v vq w hv hs hq h0 ?_
 intro B W g mb vf vg vs vq hsv hm hgB hBW hq
 exact sanswer_err H q vq vf g mb W hsv.lies hs.gs hq hsq hck
theorem serve_give (H : Hb) (q : Rq) (v vq : Value) (w : World) (hv : LiesH w v H) (hs : SizedH H) (hq : LiesQ w vq q) (hsq : SizedQ q) (h0 : Hu.hE H = 0) (hk : q.kind = 3) (hck : Hu.ckE H.gs q = 0) :
    Calls Tryz.prog 9 #[v, vq] w fun e w' => ∃ u a, e = .returned (.tuple #[u, a, .int .i64 0]) ∧ LiesH w' u (Hu.gsH H (Pp.giE H.gs q.fo q.who q.name q.num) (Pp.giL H.gs q.fo q.who q.name q.num)) ∧ LiesA w' a ⟨Pp.giE H.gs q.fo q.who q.name q.num, 0, Jn.zeroP⟩ ∧ Below w.heap.size w w' := by
 refine serve_ok H _ _ q v vq w hv hs hq h0 ?_
 intro B W g mb vf vg vs vq hsv hm hgB hBW hq
 exact sanswer_num H _ q vq vf g mb 0 _ W hsv.lies hs.gs hq hsq hck (by rw [hk]; decide) (fun W' vq' hW hq' => snum_give H q vq' vf g mb W' (hsv.below hW).lies hs.gs hq' hsq hk) hsv.vlt
theorem serve_page (H : Hb) (q : Rq) (v vq : Value) (w : World) (hv : LiesH w v H) (hs : SizedH H) (hq : LiesQ w vq q) (hsq : SizedQ q) (h0 : Hu.hE H = 0) (hk : q.kind = 2) (hck : Hu.ckE H.gs q = 0) :
    Calls Tryz.prog 9 #[v, vq] w fun e w' => ∃ u a, e = .returned (.tuple #[u, a, .int .i64 0]) ∧ LiesH w' u H ∧ LiesA w' a ⟨Jn.rdE (Hu.joAt H (Hu.whr H.fos H.gs q.fo)) q.num 10, 0, Jn.rdR (Hu.joAt H (Hu.whr H.fos H.gs q.fo)) q.num 10⟩ ∧ Below w.heap.size w w' := by
 have hin : Hu.inG H.gs q.fo = true := Hu.rig_in (h := q.who) (by have := (Hu.ck_parts hck).2.2.2; rw [hk] at this; have e : Hu.lst 2 = 1 := rfl; omega)
 have hi : Hu.whr H.fos H.gs q.fo < H.fos.length := (Hu.whr_at h0 hin).elim (fun h _ => h)
 refine serve_ok H _ _ q v vq w hv hs hq h0 ?_
 intro B W g mb vf vg vs vq hsv hm hgB hBW hq
 exact sanswer_page H q vq vf vg vs B g mb _ W hsv hm hs.fos hs.gs hq hsq hck hk hi
end Go.Proofs.YtchlgpeiombmdaaGreat
set_option linter.unusedSimpArgs false
set_option linter.unusedVariables false
namespace Go.Proofs.YtchlgpeiombmdaaGreat
open Go.RowKit

/-- copy of rows, each element of k cells, into a row that is known whole. -/
theorem copy_rows {P : Program} (w : World) (dT sT ty elem : TypeId) (k g o dLen dCap : Nat) (a : Addr) (sLen sCap : Nat) (cur : List Value) (t : TypeId) (cs : List Value)
    (hu : P.underlying dT = some (.slice elem)) (hs : (P.info? elem).map (·.size) = some k) (hg : w.heap[g]? = some (.cells cur.toArray t (0, 0))) (hn : cs.length = Nat.min sLen dLen * k)
    (hsrc : ∀ j v, cs[j]? = some v → w.cell? (a.add j) = some v) (hfit : o + cs.length ≤ cur.length) (h1 : ∀ v ∈ cs, v.oneCell' = true) :
    (Builtin.copy_ #[dT, sT] ty #[.slice (some ⟨g, o, none⟩) dLen dCap, .slice (some a) sLen sCap]).run P w = .ok (goInt (Nat.min sLen dLen : Nat)) (w.setRow g (splice cur o cs).toArray) := by
 have hl := run_firstCells_some (P := P) w k (Nat.min sLen dLen) a sLen sCap cs hn hsrc
 have hst := run_storeCells_at P g o t cs 0 cur.toArray w hg (by simpa using hfit) h1
 simp only [Nat.add_zero, List.append_assoc] at hst
 cases hq : P.info? elem with
 | none => simp [hq] at hs
 | some i =>
  have hi : i.size = k := by simpa [hq] using hs
  subst hi
  have hst' : (storeCells ⟨g, o, none⟩ cs 0).run P w = .ok () (w.setRow g (splice cur o cs).toArray) := hst
  simp [Builtin.copy_, run_underlying hu, Builtin.lenOf, Go.sizeOf, typeInfo, hq, hl, hst']
theorem wpList_copy_rows {P : Program} {w : World} {ops : Array Oper} {rest : List Oper} {o : Oper} {a : Act} {Q : Exit → Act → World → Prop} (hgd : o.guard = none) (d s : Operand) (dT sT : TypeId)
    (ho : o.op = .call { callee := .builtin .copy, args := #[d, s], argTypes := #[dT, sT] }) (v u : Value) (hd : a.eval d = v) (hs : a.eval s = u) {v' : Value} {w' : World}
    (hr : (Builtin.copy_ #[dT, sT] o.type #[v, u]).run P w = .ok v' w') (h : wpList P ops Q rest (a.put o.dst v') w') : wpList P ops Q (o :: rest) a w := by
 refine wpList_plain hgd fun K hK => ?_
 unfold Oper.wp
 simp [execOp, ho, resolve, invoke, builtin, hd, hs, hr, Result.andThen]
 exact hK _ _ h
theorem step_copy_rows {P : Program} {ops : Array Oper} {o : Oper} {a : Act} {w : World} {K : Act → World → Prop} {Q : Exit → Act → World → Prop} {E : Prop} (hgd : o.guard = none) (d s : Operand) (dT sT : TypeId)
    (ho : o.op = .call { callee := .builtin .copy, args := #[d, s], argTypes := #[dT, sT] }) (v u : Value) (hd : a.eval d = v) (hs : a.eval s = u) {v' : Value} {w' : World}
    (hr : (Builtin.copy_ #[dT, sT] o.type #[v, u]).run P w = .ok v' w') (hK : K (a.put o.dst v') w') :
    if Region.wanted o (yielded ops a.tmps) = true then Oper.wp P o a w K Q else E := by
 have hw : Region.wanted o (yielded ops a.tmps) = true := by simp [Region.wanted, hgd]
 rw [if_pos hw]
 unfold Oper.wp
 simp [execOp, ho, resolve, invoke, builtin, hd, hs, hr, Result.andThen]
 exact hK
theorem wpList_append_eq {P : Program} {w : World} {ops : Array Oper} {rest : List Oper} {o : Oper} {a : Act} {Q : Exit → Act → World → Prop} (hgd : o.guard = none) (d s : Operand) (dT sT : TypeId)
    (ho : o.op = .call { callee := .builtin .append, args := #[d, s], argTypes := #[dT, sT] }) (v u : Value) (hd : a.eval d = v) (hs : a.eval s = u) {v' : Value} {w' : World}
    (hr : (Builtin.append_ #[dT, sT] o.type #[v, u]).run P w = .ok v' w') (h : wpList P ops Q rest (a.put o.dst v') w') : wpList P ops Q (o :: rest) a w := by
 refine wpList_plain hgd fun K hK => ?_
 unfold Oper.wp
 simp [execOp, ho, resolve, invoke, builtin, hd, hs, hr, Result.andThen]
 exact hK _ _ h
namespace Hu
theorem flat_take {R : List (List Value)} {k : Nat} (h : ∀ r ∈ R, r.length = k) : ∀ i, (R.take i).flatten = R.flatten.take (i * k) := by
 induction R with
 | nil => intro i; simp
 | cons r R ih =>
  intro i
  cases i with
  | zero => simp
  | succ i =>
   have hr := h r (List.mem_cons_self ..)
   have e : (i + 1) * k - r.length = i * k := by rw [hr, Nat.succ_mul]; omega
   have t : r.take ((i + 1) * k) = r := List.take_of_length_le (by rw [hr, Nat.succ_mul]; omega)
   rw [List.take_succ_cons, List.flatten_cons, List.flatten_cons, ih (fun x hx => h x (List.mem_cons_of_mem _ hx)) i, List.take_append, t, e]
theorem flat_drop {R : List (List Value)} {k : Nat} (h : ∀ r ∈ R, r.length = k) : ∀ i, (R.drop i).flatten = R.flatten.drop (i * k) := by
 induction R with
 | nil => intro i; simp
 | cons r R ih =>
  intro i
  cases i with
  | zero => simp
  | succ i =>
   have hr := h r (List.mem_cons_self ..)
   have e : (i + 1) * k - r.length = i * k := by rw [hr, Nat.succ_mul]; omega
   have t : r.drop ((i + 1) * k) = [] := List.drop_eq_nil_of_le (by rw [hr, Nat.succ_mul]; omega)
   rw [List.drop_succ_cons, List.flatten_cons, ih (fun x hx => h x (List.mem_cons_of_mem _ hx)) i, List.drop_append, t, e, List.nil_append]
theorem take_app {α : Type} {X Y : List α} {n : Nat} (h : X.length ≤ n) : (X ++ Y).take n = X ++ Y.take (n - X.length) := by rw [List.take_append, List.take_of_length_le h]
theorem drop_app {α : Type} {X Y : List α} {n : Nat} (h : X.length ≤ n) : (X ++ Y).drop n = Y.drop (n - X.length) := by rw [List.drop_append, List.drop_eq_nil_of_le h, List.nil_append]
theorem len_take {α : Type} {X : List α} {n : Nat} (h : n ≤ X.length) : (X.take n).length = n := by rw [List.length_take, Nat.min_eq_left h]
/-- What stands in the row behind both copies. -/
theorem spl_two {cur X N : List Value} {a : Nat} (hN : N.length = 4) (hX : X.length + 4 ≤ cur.length) (ha : a ≤ X.length) (hc : cur.take X.length = X) :
    (splice (splice cur (a + 4) (X.drop a)) a N).take (X.length + 4) = X.take a ++ (N ++ X.drop a) := by
 have l1 : (X.drop a).length = X.length - a := List.length_drop ..
 have l2 : (cur.take (a + 4)).length = a + 4 := len_take (by omega)
 have l3 : (X.take a).length = a := len_take ha
 have e1 : (splice cur (a + 4) (X.drop a)).take a = X.take a := by
  rw [splice, List.take_append, l2, show a - (a + 4) = 0 by omega, List.take_zero, List.append_nil, List.take_take, Nat.min_eq_left (by omega : a ≤ a + 4)]
  conv => rhs; rw [← hc, List.take_take, Nat.min_eq_left ha]
 have e2 : (splice cur (a + 4) (X.drop a)).drop (a + 4) = X.drop a ++ cur.drop (a + 4 + (X.drop a).length) := by
  rw [splice, drop_app (by rw [l2]; omega), l2, Nat.sub_self, List.drop_zero]
 rw [show splice (splice cur (a + 4) (X.drop a)) a N = X.take a ++ (N ++ (X.drop a ++ cur.drop (a + 4 + (X.drop a).length))) by rw [splice, e1, hN, e2]]
 rw [take_app (by omega), l3, take_app (by omega), hN, take_app (by omega), l1, show X.length + 4 - a - 4 - (X.length - a) = 0 by omega, List.take_zero, List.append_nil]
/-- .. of a new row. -/
theorem spl_new {cur X N : List Value} {a : Nat} (hN : N.length = 4) (hX : X.length + 4 ≤ cur.length) (ha : a ≤ X.length) (hc : cur.take a = X.take a) :
    (splice (splice cur a N) (a + 4) (X.drop a)).take (X.length + 4) = X.take a ++ (N ++ X.drop a) := by
 have l1 : (X.drop a).length = X.length - a := List.length_drop ..
 have l2 : (cur.take a).length = a := len_take (by omega)
 have l3 : (X.take a).length = a := len_take ha
 have l4 : (X.take a ++ N).length = a + 4 := by rw [List.length_append, l3, hN]
 have e1 : (splice cur a N).take (a + 4) = X.take a ++ N := by
  rw [splice, take_app (by rw [l2]; omega), l2, show a + 4 - a = 4 by omega, take_app (by omega), hN, Nat.sub_self, List.take_zero, List.append_nil, hc]
 rw [show splice (splice cur a N) (a + 4) (X.drop a) = (X.take a ++ N) ++ (X.drop a ++ (splice cur a N).drop (a + 4 + (X.drop a).length)) by rw [splice, e1]]
 rw [take_app (by omega), l4, take_app (by omega), l1, show X.length + 4 - (a + 4) - (X.length - a) = 0 by omega, List.take_zero, List.append_nil, List.append_assoc]
end Hu
theorem grown_setRow (w : World) (g : Nat) (cs : Array Value) : w.grownBy (w.setRow g cs) (some g) := ⟨rfl, rfl, rfl, by simp [World.setRow], fun k hk hne => setRow_other w g k cs (fun e => hne (by rw [e]))⟩
end Go.Proofs.YtchlgpeiombmdaaGreat
set_option linter.unusedSimpArgs false
set_option linter.unusedVariables false
namespace Go.Proofs.YtchlgpeiombmdaaGreat
open Go.RowKit

theorem Tryz.sizeSh : (Tryz.prog.info? 51).map (·.size) = some 4 := by
 obtain ⟨i0, hi0, _, hz1, _⟩ := info_parts Tryz.infoRF
 rw [hi0]; simp [hz1]
theorem Tryz.sizeOfSh (w : World) : (Go.sizeOf 51).run Tryz.prog w = .ok 4 w := by
 obtain ⟨i0, hi0, _, hz1, _⟩ := info_parts Tryz.infoRF
 simp [Go.sizeOf, typeInfo, hi0, hz1]
theorem cs_shape {W : World} {b : Nat} {vs : List Value} (h : Cs W b vs) : ∃ T, W.shape? b = some (T, vs.length) := by
 obtain ⟨T, h⟩ := h
 exact ⟨T, by simp [World.shape?, h]⟩
set_option maxRecDepth 100000 in
set_option maxHeartbeats 4000000 in
theorem insert_shift (g n cap i vb : Nat) (cur X : List Value) (na : ByteArray) (W : World) (hi : i < n) (hroom : n + 1 ≤ cap) (hcap : cap ≤ maxLen) (hh : W.heap[g]? = some (.cells cur.toArray 51 (0, 0))) (hcl : cur.length = cap * 4) (hX : X.length = n * 4) (hc : cur.take X.length = X) (h1 : ∀ v ∈ X, v.oneCell' = true) (hN : Cs W vb (newC na)) (hvb : vb ≠ g) :
    Calls Tryz.prog 108 #[.slice (some ⟨g, 0, none⟩) n cap, .int .i64 i, .slice (some ⟨vb, 0, none⟩) 1 1] W fun e w' => e = .returned (.slice (some ⟨g, 0, none⟩) (n + 1) cap) ∧ w'.heap[g]? = some (.cells (splice (splice cur (i * 4 + 4) (X.drop (i * 4))) (i * 4) (newC na)).toArray 51 (0, 0)) ∧ W.grownBy w' (some g) := by
 unfold maxLen at hcap
 have HG := hid hh
 obtain ⟨tA, hsa⟩ := cs_shape hN
 have hsb : W.shape? g = some (51, cur.length) := by simp [World.shape?, hh]
 have hfa : W.frozen? ⟨vb, 0, none⟩ = false := hN.fr 0
 have hfe : W.frozen? ⟨vb, (newC na).length, none⟩ = false := hN.fr _
 have hov : ∀ lb cb, (callFunc 129 #[.slice (some ⟨vb, 0, none⟩) 1 1, .slice (some ⟨g, (i + 1) * 4, none⟩) lb cb]).run Tryz.prog W = .ok (.value (.bool false)) W := fun lb cb => by
  rw [run_callFunc_extern Tryz.func129 (by kernel_rfl) (by kernel_rfl) (by kernel_rfl) (e := Extern.SlicesOverlaps.overlaps #[22, 22] #[4]) (by kernel_rfl),
   Lib.run_overlaps_apart W 22 4 51 Tryz.underlying22 4 Tryz.sizeOfSh ⟨vb, 0, none⟩ ⟨g, (i + 1) * 4, none⟩ 1 1 lb cb hvb tA 51 _ _ hsa hsb (by omega) hfa hfe]
  rfl
 have hz2 : ¬ ((i : Int) = (n : Int)) := by omega
 have hw1 : IntKind.i64.wrap ((i : Int) + 1) = (i : Int) + 1 := by rw [IntKind.wrap_i64]; omega
 have hw2 : IntKind.i64.wrap ((n : Int) + 1) = (n : Int) + 1 := by rw [IntKind.wrap_i64]; omega
 have hb1 : (0 : Int) ≤ (i : Int) + 1 := by omega
 have hb0 : (0 : Int) ≤ (n : Int) + 1 := by omega
 have hbi : (0 : Int) ≤ (i : Int) := by omega
 have hin : i ≤ n := by omega
 have htn : ((i : Int) + 1).toNat = i + 1 := by omega
 have htm : ((n : Int) + 1).toNat = n + 1 := by omega
 have hb2 : ¬ (cap = i + 1) := by omega
 have hb3 : (i : Int) ≤ (n : Int) + 1 := by omega
 have hb4 : ¬ (cap = i) := by omega
 have hb5 : ¬ ((cap : Int) < (n : Int) + 1) := by omega
 have hb6 : (n : Int) + 1 ≤ (cap : Int) := by omega
 have hb7 : (i : Int) + 1 ≤ (n : Int) + 1 := by omega
 have hXl : (X.drop (i * 4)).length = (n - i) * 4 := by rw [List.length_drop, hX]; omega
 have hcx : ∀ j, j < X.length → cur[j]? = X[j]? := fun j hj => by
  conv => rhs; rw [← hc]
  rw [List.getElem?_take, if_pos hj]
 have e4 : (i + 1) * 4 = i * 4 + 4 := by omega
 have hcp1 : ∀ ty dc sc, (Builtin.copy_ #[22, 22] ty #[.slice (some ⟨g, (i + 1) * 4, none⟩) (n + 1 - (i + 1)) dc, .slice (some ⟨g, i * 4, none⟩) (n + 1 - i) sc]).run Tryz.prog W.drew = .ok (goInt (Nat.min (n + 1 - i) (n + 1 - (i + 1)) : Nat)) (W.drew.setRow g (splice cur ((i + 1) * 4) (X.drop (i * 4))).toArray) := fun ty dc sc =>
  copy_rows W.drew _ _ ty 51 4 g ((i + 1) * 4) (n + 1 - (i + 1)) dc ⟨g, i * 4, none⟩ (n + 1 - i) sc cur 51 (X.drop (i * 4)) Tryz.underlying22 Tryz.sizeSh hh (by rw [hXl]; simp only [Nat.min_def]; split <;> omega)
   (fun j v hj => by
    rw [Addr.add_lit]
    rw [List.getElem?_drop] at hj
    have hjl : i * 4 + j < X.length := (List.getElem?_eq_some_iff.1 hj).1
    have hcj := (hcx _ hjl).trans hj
    show W.cell? _ = _
    simp only [World.cell?, hh]
    simpa using hcj) (by rw [hXl, hcl]; omega) (fun v hv => h1 v (List.mem_of_mem_drop hv))
 obtain ⟨W1, hW1⟩ : ∃ W1, W1 = W.drew.setRow g (splice cur ((i + 1) * 4) (X.drop (i * 4))).toArray := ⟨_, rfl⟩
 rw [← hW1] at hcp1
 have hH1 : W1.heap[g]? = some (.cells (splice cur ((i + 1) * 4) (X.drop (i * 4))).toArray 51 (0, 0)) := by rw [hW1]; exact setRow_heap W.drew g _ _ _ _ hh
 have hg1 : W.grownBy W1 (some g) := by rw [hW1]; exact Nb.trans (Nb.below g ((Below.refl W.heap.size W).drew)) (grown_setRow W.drew g _)
 have hsl : (splice cur ((i + 1) * 4) (X.drop (i * 4))).length = cap * 4 := by rw [length_splice _ _ _ (by rw [hXl, hcl]; omega), hcl]
 have hN1 : Cs W1 vb (newC na) := hN.nb hg1 hvb
 have hcp2 : ∀ ty dc, (Builtin.copy_ #[22, 22] ty #[.slice (some ⟨g, i * 4, none⟩) (n + 1 - i) dc, .slice (some ⟨vb, 0, none⟩) 1 1]).run Tryz.prog W1 = .ok (goInt (Nat.min 1 (n + 1 - i) : Nat)) (W1.setRow g (splice (splice cur ((i + 1) * 4) (X.drop (i * 4))) (i * 4) (newC na)).toArray) := fun ty dc =>
  copy_rows W1 _ _ ty 51 4 g (i * 4) (n + 1 - i) dc ⟨vb, 0, none⟩ 1 1 _ 51 (newC na) Tryz.underlying22 Tryz.sizeSh hH1 (by rw [(newC_one na).1]; simp only [Nat.min_def]; split <;> omega)
   (fun j v hj => by rw [Addr.add_lit, Nat.zero_add]; exact hN1.cell j hj) (by rw [hsl, (newC_one na).1]; omega) (newC_one na).2
 obtain ⟨W2, hW2⟩ : ∃ W2, W2 = W1.setRow g (splice (splice cur ((i + 1) * 4) (X.drop (i * 4))) (i * 4) (newC na)).toArray := ⟨_, rfl⟩
 rw [← hW2] at hcp2
 have hH2 : W2.heap[g]? = some (.cells (splice (splice cur (i * 4 + 4) (X.drop (i * 4))) (i * 4) (newC na)).toArray 51 (0, 0)) := by rw [← e4, hW2]; exact setRow_heap W1 g _ _ _ _ hH1
 have hg2 : W.grownBy W2 (some g) := by rw [hW2]; exact grown_on hg1 (grown_setRow W1 g _)
 have HH2 := hid hH2
 have HG2 := hid hg2
 clear hXl hcx e4 hH1 hg1 hsl hN1 hH2 hg2 hW1 hW2 hc hX h1 hN hh HG hsa hsb hfa hfe hcl
 go_enter Tryz.func108, Tryz.ntmps108
 go_wp2_with (simp only [hov])
 go_region_law (refine step_copy_rows rfl (.tmp 73) (.tmp 76) 22 22 rfl (.slice (some ⟨g, (i + 1) * 4, none⟩) (n + 1 - (i + 1)) (cap - (i + 1))) (.slice (some ⟨g, i * 4, none⟩) (n + 1 - i) (cap - i)) (by simp [Act.eval, Act.put]) (by simp [Act.eval, Act.put]) (hcp1 _ _ _) ?_)
 go_wp2_with (at_builtin; refine wpList_copy_rows rfl _ _ 22 22 rfl (.slice (some ⟨g, i * 4, none⟩) (n + 1 - i) (cap - i)) (.slice (some ⟨vb, 0, none⟩) 1 1) (by simp [Act.eval, Act.put]) (by simp [Act.eval, Act.put]) (hcp2 _ _) ?_)
 go_ret
 exact ⟨rfl, HH2.out, HG2.out⟩
set_option maxRecDepth 100000 in
set_option maxHeartbeats 4000000 in
theorem insert_grow (g n i vb : Nat) (X : List Value) (na : ByteArray) (W : World) (hi : i < n) (h8 : n ≤ 8) (hcs : ∀ j v, X[j]? = some v → W.cell? ⟨g, j, none⟩ = some v) (hgl : g < W.heap.size) (hX : X.length = n * 4) (h1 : ∀ v ∈ X, v.oneCell' = true) (hN : Cs W vb (newC na)) :
    Calls Tryz.prog 108 #[.slice (some ⟨g, 0, none⟩) n n, .int .i64 i, .slice (some ⟨vb, 0, none⟩) 1 1] W fun e w' => ∃ (G : Nat) (cur : List Value), e = .returned (.slice (some ⟨W.heap.size, 0, none⟩) (n + 1) G) ∧ n + 1 ≤ G ∧ G ≤ maxLen ∧ cur.length = G * 4 ∧ cur.take (X.length + 4) = X.take (i * 4) ++ (newC na ++ X.drop (i * 4)) ∧ w'.heap[W.heap.size]? = some (.cells cur.toArray 51 (0, 0)) ∧ Below W.heap.size W w' := by
 obtain ⟨i0, hi0, hz0, hzs, hzb⟩ := info_parts Tryz.infoRF
 have hold : (Builtin.firstCells i0.size i (.slice (some ⟨g, 0, none⟩) i n)).run Tryz.prog W.drew = .ok (X.take (i * 4)).toArray W.drew := by
  rw [hzs]
  exact run_firstCells_some W.drew 4 i ⟨g, 0, none⟩ i n (X.take (i * 4)) (by rw [List.length_take, hX]; omega) (fun j v hj => by
   rw [Addr.add_lit, Nat.zero_add]
   rw [List.getElem?_take] at hj
   split at hj
   · exact hcs j v hj
   · cases hj)
 obtain ⟨G, hG⟩ : ∃ G, G = grownCap W (n + 1) n 51 := ⟨_, rfl⟩
 have hGn : n + 1 ≤ G := by rw [hG]; exact grownCap_ge W _ _ _
 have hGm : G ≤ maxLen := by rw [hG]; exact grownCap_le_maxLen W (n + 1) n 51 (by unfold maxLen; omega)
 obtain ⟨R, hR⟩ : ∃ R : List Value, R.toArray = (X.take (i * 4)).toArray ++ Builtin.zeroCells (Value.agg #[.string ⟨#[]⟩, .slice none 0 0, .int .i64 0, .slice none 0 0]).cells (n + 1 - i) ++ Builtin.zeroCells (Value.agg #[.string ⟨#[]⟩, .slice none 0 0, .int .i64 0, .slice none 0 0]).cells (G - (n + 1)) := ⟨_, Array.toArray_toList⟩
 have hRl : R.length = G * 4 ∧ R.take (i * 4) = X.take (i * 4) := by
  have e : R = X.take (i * 4) ++ ((Builtin.zeroCells (Value.agg #[.string ⟨#[]⟩, .slice none 0 0, .int .i64 0, .slice none 0 0]).cells (n + 1 - i)).toList ++ (Builtin.zeroCells (Value.agg #[.string ⟨#[]⟩, .slice none 0 0, .int .i64 0, .slice none 0 0]).cells (G - (n + 1))).toList) := by
   have := congrArg Array.toList hR
   simpa using this
  have l0 : (X.take (i * 4)).length = i * 4 := Hu.len_take (by omega)
  refine ⟨?_, by rw [e, Hu.take_app (by omega), l0, Nat.sub_self, List.take_zero, List.append_nil]⟩
  rw [e]
  simp [Builtin.zeroCells, Value.cells, l0]
  omega
 obtain ⟨W1, hW1⟩ : ∃ W1, W1 = W.drew.alloc (.cells R.toArray 51) := ⟨_, rfl⟩
 have hkk : (n : Int) + 1 - (i : Int) = ((n + 1 - i : Nat) : Int) := by omega
 have hrz : ∀ ty, (Builtin.append_ #[22, 3] ty #[.slice (some ⟨g, 0, none⟩) i n, .int .i64 ((n : Int) + 1 - (i : Int))]).run Tryz.prog W = .ok (.slice (some ⟨W.heap.size, 0, none⟩) (n + 1) G) W1 := fun ty => by
  have h := Lib.run_append_grow_zeros W 22 3 ty 51 i0 _ .i64 .i64 Tryz.underlying22 Tryz.underlying3 hi0 hz0 (some ⟨g, 0, none⟩) i n (X.take (i * 4)) hold (n + 1 - i) (by omega) (by omega) (by omega) (by omega) (by rw [hzb]; omega) (by rw [hzb, show i + (n + 1 - i) = n + 1 by omega]; exact growslice_fits (by omega) (by omega))
  rw [show i + (n + 1 - i) = n + 1 by omega, ← hG, ← hR, ← hW1] at h
  rw [hkk]
  exact h
 have hb1 : Below W.heap.size W W1 := by rw [hW1]; exact ((Below.refl _ _).drew).alloc (Nat.le_refl _) _
 have hH1 : W1.heap[W.heap.size]? = some (.cells R.toArray 51 (0, 0)) := by rw [hW1]; show (W.heap.push _)[W.heap.size]? = _; simp
 have hN1 : Cs W1 vb (newC na) := hN.below hb1
 have hvl := hN.lt
 have hcpA : ∀ ty dc, (Builtin.copy_ #[22, 22] ty #[.slice (some ⟨W.heap.size, i * 4, none⟩) (n + 1 - i) dc, .slice (some ⟨vb, 0, none⟩) 1 1]).run Tryz.prog W1 = .ok (goInt (Nat.min 1 (n + 1 - i) : Nat)) (W1.setRow W.heap.size (splice R (i * 4) (newC na)).toArray) := fun ty dc =>
  copy_rows W1 _ _ ty 51 4 W.heap.size (i * 4) (n + 1 - i) dc ⟨vb, 0, none⟩ 1 1 R 51 (newC na) Tryz.underlying22 Tryz.sizeSh hH1 (by rw [(newC_one na).1]; simp only [Nat.min_def]; split <;> omega)
   (fun j v hj => by rw [Addr.add_lit, Nat.zero_add]; exact hN1.cell j hj) (by rw [hRl.1, (newC_one na).1]; omega) (newC_one na).2
 obtain ⟨W2, hW2⟩ : ∃ W2, W2 = W1.setRow W.heap.size (splice R (i * 4) (newC na)).toArray := ⟨_, rfl⟩
 rw [← hW2] at hcpA
 have hH2 : W2.heap[W.heap.size]? = some (.cells (splice R (i * 4) (newC na)).toArray 51 (0, 0)) := by rw [hW2]; exact setRow_heap W1 _ _ _ _ _ hH1
 have hb2 : Below W.heap.size W W2 := by rw [hW2]; exact below_setRow hb1 (Nat.le_refl _) _
 have hl2 : (splice R (i * 4) (newC na)).length = G * 4 := by rw [length_splice _ _ _ (by rw [(newC_one na).1, hRl.1]; omega), hRl.1]
 have hXl : (X.drop (i * 4)).length = (n - i) * 4 := by rw [List.length_drop, hX]; omega
 have hcpB : ∀ ty dc sc, (Builtin.copy_ #[22, 22] ty #[.slice (some ⟨W.heap.size, (i + 1) * 4, none⟩) (n + 1 - (i + 1)) dc, .slice (some ⟨g, i * 4, none⟩) (n - i) sc]).run Tryz.prog W2.drew = .ok (goInt (Nat.min (n - i) (n + 1 - (i + 1)) : Nat)) (W2.drew.setRow W.heap.size (splice (splice R (i * 4) (newC na)) ((i + 1) * 4) (X.drop (i * 4))).toArray) := fun ty dc sc =>
  copy_rows W2.drew _ _ ty 51 4 W.heap.size ((i + 1) * 4) (n + 1 - (i + 1)) dc ⟨g, i * 4, none⟩ (n - i) sc _ 51 (X.drop (i * 4)) Tryz.underlying22 Tryz.sizeSh hH2 (by rw [hXl]; simp only [Nat.min_def]; split <;> omega)
   (fun j v hj => by
    rw [Addr.add_lit]
    rw [List.getElem?_drop] at hj
    exact (hb2.cell (p := ⟨g, i * 4 + j, none⟩) hgl).trans (hcs _ v hj)) (by rw [hXl, hl2]; omega) (fun v hv => h1 v (List.mem_of_mem_drop hv))
 obtain ⟨W3, hW3⟩ : ∃ W3, W3 = W2.drew.setRow W.heap.size (splice (splice R (i * 4) (newC na)) ((i + 1) * 4) (X.drop (i * 4))).toArray := ⟨_, rfl⟩
 rw [← hW3] at hcpB
 have HH3 := hid (show W3.heap[W.heap.size]? = some (.cells (splice (splice R (i * 4) (newC na)) (i * 4 + 4) (X.drop (i * 4))).toArray 51 (0, 0)) from by rw [show i * 4 + 4 = (i + 1) * 4 by omega, hW3]; exact setRow_heap W2.drew _ _ _ _ _ hH2)
 have HB3 := hid (show Below W.heap.size W W3 from by rw [hW3]; exact below_setRow hb2.drew (Nat.le_refl _) _)
 have HL3 := hid (show (splice (splice R (i * 4) (newC na)) (i * 4 + 4) (X.drop (i * 4))).length = G * 4 ∧ (splice (splice R (i * 4) (newC na)) (i * 4 + 4) (X.drop (i * 4))).take (X.length + 4) = X.take (i * 4) ++ (newC na ++ X.drop (i * 4)) from ⟨by rw [length_splice _ _ _ (by rw [hXl, hl2]; omega), hl2], Hu.spl_new (newC_one na).1 (by rw [hX, hRl.1]; omega) (by omega) hRl.2⟩)
 have HGn := hid hGn
 have HGm := hid hGm
 have hz2 : ¬ ((i : Int) = (n : Int)) := by omega
 have hw1 : IntKind.i64.wrap ((i : Int) + 1) = (i : Int) + 1 := by rw [IntKind.wrap_i64]; omega
 have hw2 : IntKind.i64.wrap ((n : Int) + 1) = (n : Int) + 1 := by rw [IntKind.wrap_i64]; omega
 have hw3 : IntKind.i64.wrap ((n : Int) + 1 - (i : Int)) = (n : Int) + 1 - (i : Int) := by rw [IntKind.wrap_i64]; omega
 have hq1 : (0 : Int) ≤ (i : Int) + 1 := by omega
 have hq0 : (0 : Int) ≤ (n : Int) + 1 := by omega
 have hbi : (0 : Int) ≤ (i : Int) := by omega
 have hin : i ≤ n := by omega
 have htn : ((i : Int) + 1).toNat = i + 1 := by omega
 have hq2 : ¬ (G = i + 1) := by omega
 have hq4 : ¬ (G = i) := by omega
 have hq5 : ((n : Int) < (n : Int) + 1) := by omega
 have hq6 : (i : Int) ≤ (n : Int) := by omega
 have hq7 : (i : Int) + 1 ≤ (n : Int) + 1 := by omega
 have hq8 : ¬ (n = i) := by omega
 have hq9 : (i : Int) ≤ (n : Int) + 1 := by omega
 unfold maxLen at hGm
 clear hold hR hRl hkk hb1 hH1 hN1 hH2 hb2 hl2 hXl hG hX h1 hcs hN hW1 hW2 hW3 hi0 hz0 hzs hzb
 go_enter Tryz.func108, Tryz.ntmps108
 go_wp2_with (first
  | (at_builtin; refine wpList_append_eq rfl _ _ 22 3 rfl (.slice (some ⟨g, 0, none⟩) i n) (.int .i64 ((n : Int) + 1 - (i : Int))) (by simp [Act.eval, Act.put]) (by simp [Act.eval, Act.put]) (hrz _) ?_)
  | (at_builtin; refine wpList_copy_rows rfl _ _ 22 22 rfl (.slice (some ⟨W.heap.size, i * 4, none⟩) (n + 1 - i) (G - i)) (.slice (some ⟨vb, 0, none⟩) 1 1) (by simp [Act.eval, Act.put]) (by simp [Act.eval, Act.put]) (hcpA _ _) ?_))
 go_region_law (refine step_copy_rows rfl (.tmp 50) (.tmp 53) 22 22 rfl (.slice (some ⟨W.heap.size, (i + 1) * 4, none⟩) (n + 1 - (i + 1)) (G - (i + 1))) (.slice (some ⟨g, i * 4, none⟩) (n - i) (n - i)) (by simp [Act.eval, Act.put]) (by simp [Act.eval, Act.put]) (hcpB _ _ _) ?_)
 go_wp2_with fail
 go_ret
 exact ⟨G, _, rfl, HGn.out, HGm.out, HL3.out.1, HL3.out.2, HH3.out, HB3.out⟩
theorem insert_any (B : Nat) (v : Value) (L : List Sh) (i : Nat) (na : ByteArray) (h8 : L.length ≤ 8) (hi : i ≤ L.length) : InsOK B v L i na := by
 by_cases hie : i = L.length
 · subst hie; exact insert_end B v L na h8
 intro W vb hO hM hc hb
 obtain ⟨us, hj, hr, ho, hx⟩ := hO
 have hlr := rowsF_len hj.1
 have hone : ∀ r ∈ rowsF L us, r.length = 4 ∧ ∀ u ∈ r, u.oneCell' = true := by obtain ⟨_, _, _, _, _, h4, _⟩ := hr; exact h4
 have hfl : ∀ r ∈ rowsF L us, r.length = 4 := fun r hr => (hone r hr).1
 have hrow := own_of_rm hr hM (ho.mono (Nat.zero_le B))
 obtain ⟨hl, h2⟩ := hrow
 rcases h2 with ⟨_, hz⟩ | ⟨g, cap, cur, rfl, _, hh, hnc, hm, hz, htake⟩
 · rw [hlr] at hz; omega
 have hone' : ∀ u ∈ (rowsF L us).flatten, u.oneCell' = true := fun u hu => by
  obtain ⟨r, hr, hu⟩ := List.mem_flatten.1 hu
  exact (hone r hr).2 u hu
 have hnew : ∀ r ∈ (rowsF L us).take i ++ newC na :: (rowsF L us).drop i, r.length = 4 ∧ ∀ u ∈ r, u.oneCell' = true := fun r hr => by
  rcases List.mem_append.1 hr with h | h
  · exact hone r (List.mem_of_mem_take h)
  · rcases List.mem_cons.1 h with rfl | h
    · exact newC_one na
    · exact hone r (List.mem_of_mem_drop h)
 have hnl : ((rowsF L us).take i ++ newC na :: (rowsF L us).drop i).length = L.length + 1 := by simp [hlr]; omega
 have hnf : ((rowsF L us).take i ++ newC na :: (rowsF L us).drop i).flatten = (rowsF L us).flatten.take (i * 4) ++ (newC na ++ (rowsF L us).flatten.drop (i * 4)) := by
  rw [List.flatten_append, List.flatten_cons, Hu.flat_take hfl, Hu.flat_drop hfl]
 have hnfl : ((rowsF L us).take i ++ newC na :: (rowsF L us).drop i).flatten.length = (L.length + 1) * 4 := by rw [flatten_len (n := 4) (fun r hr => (hnew r hr).1), hnl]
 have hXl : (rowsF L us).flatten.length = L.length * 4 := by rw [hl, hlr]
 have hvb : g < vb := hb g rfl
 rw [hlr] at hnc hx ⊢
 rw [hlr] at htake
 by_cases hroom : L.length + 1 ≤ cap
 · refine (insert_shift g L.length cap i vb cur.toList (rowsF L us).flatten na W (by omega) hroom hm (by simpa using hh) (by simpa using hz) hXl (by rw [hXl]; exact htake) hone' hc (by omega)).mono ?_
   rintro e w' ⟨rfl, hH, hG⟩
   refine ⟨_, rfl, ?_, hG⟩
   have hsp : (splice (splice cur.toList (i * 4 + 4) ((rowsF L us).flatten.drop (i * 4))) (i * 4) (newC na)).length = cap * 4 := by
    have hd : ((rowsF L us).flatten.drop (i * 4)).length = (L.length - i) * 4 := by rw [List.length_drop, hXl]; omega
    rw [length_splice _ _ _ (by rw [length_splice _ _ _ (by rw [hd]; simp; omega), (newC_one na).1]; simp; omega), length_splice _ _ _ (by rw [hd]; simp; omega)]
    simpa using hz
   have hown : w'.ownsRow 0 51 4 (.slice (some ⟨g, 0, none⟩) (L.length + 1) cap) ((rowsF L us).take i ++ newC na :: (rowsF L us).drop i).length ((rowsF L us).take i ++ newC na :: (rowsF L us).drop i).flatten := by
    rw [hnl]
    refine ⟨hnfl, Or.inr ⟨g, cap, _, rfl, Nat.zero_le _, hH, by omega, hm, by simpa using hsp, ?_⟩⟩
    rw [hnf, ← Hu.spl_two (cur := cur.toList) (newC_one na).1 (by rw [hXl]; simp; omega) (by rw [hXl]; omega) (by rw [hXl]; exact htake), hXl]
    simp [Nat.add_mul]
   exact liesF_new (josAt_row hj hx hG) (by omega) (liesR_own hown (by rw [hnl]; omega) hnew)
 · obtain rfl : cap = L.length := by omega
   have hcs : ∀ j u, (rowsF L us).flatten[j]? = some u → W.cell? ⟨g, j, none⟩ = some u := fun j u hj => by
    have hjl : j < L.length * 4 := by rw [← hXl]; exact (List.getElem?_eq_some_iff.1 hj).1
    simp only [World.cell?, hh]
    rw [← htake, List.getElem?_take, if_pos hjl] at hj
    simpa using hj
   refine (insert_grow g L.length i vb (rowsF L us).flatten na W (by omega) h8 hcs (heap_lt hh) hXl hone' hc).mono ?_
   rintro e w' ⟨G, c2, rfl, hGn, hGm, hcl, htk, hH, hB⟩
   have hG : W.grownBy w' (some g) := Nb.below g hB
   refine ⟨_, rfl, ?_, hG⟩
   have hown : w'.ownsRow 0 51 4 (.slice (some ⟨W.heap.size, 0, none⟩) (L.length + 1) G) ((rowsF L us).take i ++ newC na :: (rowsF L us).drop i).length ((rowsF L us).take i ++ newC na :: (rowsF L us).drop i).flatten := by
    rw [hnl]
    refine ⟨hnfl, Or.inr ⟨W.heap.size, G, _, rfl, Nat.zero_le _, hH, by omega, hGm, by simpa using hcl, ?_⟩⟩
    rw [hnf, ← htk, hXl]
    simp [Nat.add_mul]
   exact liesF_new (josAt_row hj hx hG) (by omega) (liesR_own hown (by rw [hnl]; omega) hnew)
end Go.Proofs.YtchlgpeiombmdaaGreat
set_option linter.unusedSimpArgs false
set_option linter.unusedVariables false
namespace Go.Proofs.YtchlgpeiombmdaaGreat.Pp

theorem beq_tl {a b : ByteArray} (h : (a.toList == b.toList) = true) : a.data.toList = b.data.toList := by
 rw [Lib.toList_data, Lib.toList_data] at h; simpa using h
theorem tl_eq {a b : ByteArray} (h : (a.toList == b.toList) = true) : a.toList = b.toList := by simpa using h
theorem ofW_iff {f m : ByteArray} {e : Gr} : ofW f m e = true ↔ e.fo.toList = f.toList ∧ e.wh.toList = m.toList := by simp [ofW]
theorem ofW_oth {x e : Gr} (h : ofW x.fo x.wh e = true) : othG x e = false := by
 obtain ⟨h1, h2⟩ := ofW_iff.1 h
 have i1 : cS e.fo x.fo = 0 := by
  rcases tri e.fo x.fo with ⟨t1, t2, t3, t4⟩ | ⟨t1, t2, t3, t4⟩ | ⟨t1, t2, t3, t4⟩
  · rw [h1] at t3; simp at t3
  · exact cS_eq t1 t3
  · rw [h1] at t3; simp at t3
 have i2 : cS e.wh x.wh = 0 := by
  rcases tri e.wh x.wh with ⟨t1, t2, t3, t4⟩ | ⟨t1, t2, t3, t4⟩ | ⟨t1, t2, t3, t4⟩
  · rw [h2] at t3; simp at t3
  · exact cS_eq t1 t3
  · rw [h2] at t3; simp at t3
 rw [othG, cG, if_pos i1, i2]; rfl
theorem oth_ofW {x e : Gr} (h : ofW x.fo x.wh e = false) : othG x e = true := by
 cases h1 : (e.fo.toList == x.fo.toList) with
 | false => exact oth_fo h1
 | true =>
  have h2 : (e.wh.toList == x.wh.toList) = false := by rw [ofW, h1] at h; simpa using h
  rcases tri e.fo x.fo with ⟨t1, t2, t3, t4⟩ | ⟨t1, t2, t3, t4⟩ | ⟨t1, t2, t3, t4⟩
  · rw [h1] at t3; cases t3
  · exact oth_wh t1 t3 h2
  · rw [h1] at t3; cases t3
theorem pg_mem {x y : Gr} {G : List Gr} (h : y ∈ pgN x G) : (y = x ∧ ¬ x.ri = 0) ∨ (y ∈ G ∧ othG x y = true) := by
 by_cases h0 : x.ri = 0
 · rw [pgN_no h0] at h; exact Or.inr (List.mem_filter.1 h)
 · rw [pgN_yes h0] at h
   rcases List.mem_cons.1 ((insG_perm x _).mem_iff.1 h) with h | h
   · exact Or.inl ⟨h, h0⟩
   · exact Or.inr (List.mem_filter.1 h)
theorem pg_in {x y : Gr} {G : List Gr} (h : y ∈ G) (ho : othG x y = true) : y ∈ pgN x G := by
 have h1 : y ∈ outG x G := List.mem_filter.2 ⟨h, ho⟩
 by_cases h0 : x.ri = 0
 · rw [pgN_no h0]; exact h1
 · rw [pgN_yes h0]; exact (insG_perm x _).mem_iff.2 (List.mem_cons_of_mem _ h1)
theorem pg_self {x : Gr} {G : List Gr} (h0 : ¬ x.ri = 0) : x ∈ pgN x G := by
 rw [pgN_yes h0]; exact (insG_perm x _).mem_iff.2 (List.mem_cons_self ..)
theorem find_of {p : Gr → Bool} {L : List Gr} {x : Gr} (hx : x ∈ L) (hp : p x = true) (hu : ∀ y ∈ L, p y = true → y = x) : L.find? p = some x := by
 cases h : L.find? p with
 | none => exact absurd hp (by simpa using List.find?_eq_none.1 h x hx)
 | some y => rw [hu y (List.mem_of_find?_eq_some h) (List.find?_some h)]
theorem rgt_given (x : Gr) (G : List Gr) : rgt (pgN x G) x.fo x.wh = x.ri := by
 have key : ∀ y ∈ pgN x G, ofW x.fo x.wh y = true → y = x := fun y hy hp => by
  rcases pg_mem hy with ⟨h, _⟩ | ⟨_, h⟩
  · exact h
  · rw [ofW_oth hp] at h; cases h
 by_cases h0 : x.ri = 0
 · have : (pgN x G).find? (ofW x.fo x.wh) = none := by
    rw [List.find?_eq_none]
    intro y hy hp
    rcases pg_mem hy with ⟨_, h⟩ | ⟨_, h⟩
    · exact h h0
    · rw [ofW_oth hp] at h; cases h
   rw [rgt, this, h0]
 · rw [rgt, find_of (pg_self h0) (by simp [ofW]) key]
theorem find_ins {p : Gr → Bool} {x : Gr} (hp : p x = false) : ∀ L : List Gr, (insG x L).find? p = L.find? p
 | [] => by simp [insG, hp]
 | y :: r => by
  rw [insG]; split
  · rw [List.find?_cons, List.find?_cons, find_ins hp r]
  · rw [List.find?_cons, hp]
theorem find_out {p q : Gr → Bool} (hpq : ∀ y, p y = true → q y = true) : ∀ L : List Gr, (L.filter q).find? p = L.find? p
 | [] => rfl
 | y :: r => by
  rw [List.filter_cons]
  cases hp : p y with
  | true => rw [if_pos (hpq y hp), List.find?_cons, List.find?_cons, hp]
  | false =>
   split
   · rw [List.find?_cons, List.find?_cons, hp, find_out hpq r]
   · rw [List.find?_cons, hp, find_out hpq r]
theorem rgt_other {x : Gr} {f m : ByteArray} (h : ¬ (f.toList = x.fo.toList ∧ m.toList = x.wh.toList)) (G : List Gr) : rgt (pgN x G) f m = rgt G f m := by
 have hx : ofW f m x = false := by
  cases hh : ofW f m x with
  | false => rfl
  | true => obtain ⟨h1, h2⟩ := ofW_iff.1 hh; exact absurd ⟨h1.symm, h2.symm⟩ h
 have hq : ∀ y, ofW f m y = true → othG x y = true := fun y hy => by
  cases hh : ofW x.fo x.wh y with
  | false => exact oth_ofW hh
  | true =>
   obtain ⟨h1, h2⟩ := ofW_iff.1 hy
   obtain ⟨h3, h4⟩ := ofW_iff.1 hh
   exact absurd ⟨h1.symm.trans h3, h2.symm.trans h4⟩ h
 have e : (pgN x G).find? (ofW f m) = G.find? (ofW f m) := by
  by_cases h0 : x.ri = 0
  · rw [pgN_no h0, outG, find_out hq]
  · rw [pgN_yes h0, find_ins hx, outG, find_out hq]
 rw [rgt, rgt, e]
theorem grs_mem {G : List Gr} : grsE G = 0 ↔ ∀ g ∈ G, grE g = 0 := by
 induction G with
 | nil => simp [grsE]
 | cons g r ih =>
  rw [grsE]
  by_cases h : grE g = 0
  · rw [if_pos h, ih]; simp [h]
  · rw [if_neg h]; simp [h]
theorem owns_mem {G : List Gr} : ownsE G = 0 ↔ ∀ g ∈ G, G.any (ownF g.fo) = true := by
 rw [ownsE]
 constructor
 · intro h
   split at h
   · rename_i h1; exact fun g hg => List.all_eq_true.1 h1 g hg
   · cases h
 · intro h
   rw [if_pos (List.all_eq_true.2 h)]
/-- What Give leaves passes Check. -/
theorem gch_pg {G : List Gr} {f m : ByteArray} {r : Int} (h0 : gchE G = 0) (hf : nameB f.data.toList = true) (hm : nameB m.data.toList = true) (h1 : 0 ≤ r) (h3 : r ≤ 3) (ha : (pgN ⟨f, m, r⟩ G).any (ownF f) = true) (hl : (pgN ⟨f, m, r⟩ G).length ≤ 60) : gchE (pgN ⟨f, m, r⟩ G) = 0 := by
 obtain ⟨_, hg, hris, hown⟩ := gch0 h0
 have hG := (risG_pair G).1 hris
 have hris2 : risG (pgN ⟨f, m, r⟩ G) = true := by
  rw [risG_pair]
  have hF : (outG ⟨f, m, r⟩ G).Pairwise (fun x y => ltG x y = true) := List.Pairwise.filter _ hG
  by_cases hr : r = 0
  · rw [pgN_no hr]; exact hF
  · rw [pgN_yes hr]; exact insG_sorted _ hF fun y hy => (List.mem_filter.1 hy).2
 have hg2 : grsE (pgN ⟨f, m, r⟩ G) = 0 := by
  rw [grs_mem]
  intro g hgm
  rcases pg_mem hgm with ⟨rfl, hr⟩ | ⟨hgm, _⟩
  · have hr' : ¬ r = 0 := hr
    have : nm2 ⟨f, m, r⟩ = true := by simp [nm2, hf, hm]
    rw [grE, if_pos this, if_neg]
    show ¬ (r < 1 ∨ 3 < r)
    omega
  · exact grs_mem.1 hg g hgm
 rw [gch_own (by omega) hg2 hris2, owns_mem]
 intro g hgm
 cases hfo : (g.fo.toList == f.toList) with
 | true =>
  have e := tl_eq hfo
  rw [List.any_eq_true] at ha ⊢
  obtain ⟨y, hy, hy2⟩ := ha
  refine ⟨y, hy, ?_⟩
  rw [ownF] at hy2 ⊢; rw [e]; exact hy2
 | false =>
  rcases pg_mem hgm with ⟨rfl, _⟩ | ⟨hgm, _⟩
  · simp at hfo
  · have := owns_mem.1 hown g hgm
    rw [List.any_eq_true] at this ⊢
    obtain ⟨y, hy, hy2⟩ := this
    refine ⟨y, pg_in hy (oth_fo ?_), hy2⟩
    have h4 : y.fo.toList = g.fo.toList := by rw [ownF] at hy2; simp at hy2; exact hy2.1
    show (y.fo.toList == f.toList) = false
    rw [h4]; exact hfo
end Go.Proofs.YtchlgpeiombmdaaGreat.Pp
