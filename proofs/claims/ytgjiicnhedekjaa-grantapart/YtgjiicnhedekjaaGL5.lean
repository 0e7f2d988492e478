/- What the law GrantApart answers: true, for every list of grants, three texts, a number and a grant. -/
import Derived.Test.YtgjiicnhedekjaaG23
set_option linter.unusedSimpArgs false
set_option linter.unusedVariables false
namespace Go.Proofs.Ytgjiicnhedekjaa
open Go.RowKit

namespace Pp
theorem nm_of3 {f b m : ByteArray} (h : nmsE [f, b, m] = 0) : nameB f.data.toList = true ∧ nameB b.data.toList = true ∧ nameB m.data.toList = true := by
  rw [nmsE] at h
  split at h
  · rename_i h1; simpa using h1
  · cases h
theorem cal_ok {G : List Gr} {f b : ByteArray} (h0 : gchE G = 0) (hf : nameB f.data.toList = true) (hb : nameB b.data.toList = true) : calE G [f, b] = 0 := by
  rw [calE, if_pos h0, nmsE, if_pos (by simp [hf, hb])]
theorem cal_bad {G : List Gr} {f b m : ByteArray} {r : Int} (h : giE G f b m r = 0) : gchE G = 0 ∧ nmsE [f, b, m] = 0 ∧ 0 ≤ r ∧ r ≤ 3 ∧ chgE G b ⟨f, m, r⟩ = 0 ∧ (pgN ⟨f, m, r⟩ G).any (ownF f) = true ∧ (pgN ⟨f, m, r⟩ G).length ≤ 60 := by
  by_cases h0 : gchE G = 0
  · have e : giE G f b m r = gvE G f b m r := if_pos h0
    rw [e] at h
    rcases gv_cases G f b m r with ⟨hn, hE⟩ | ⟨hn, h1, hE⟩ | ⟨hn, h1, h2, hE⟩ | ⟨hn, h1, h2, hc, hE⟩ | ⟨hn, h1, h2, hc, ha, hE⟩ | ⟨hn, h1, h2, hc, ha, h6, hE⟩ | ⟨hn, h1, h2, hc, ha, h6, hE⟩
    · rw [h] at hE; cases hE
    · rw [h] at hE; cases hE
    · rw [h] at hE; cases hE
    · rw [h] at hE; exact absurd hE.symm hc
    · rw [h] at hE; cases hE
    · rw [h] at hE; cases hE
    · exact ⟨h0, hn, h1, h2, hc, ha, h6⟩
  · have e : giE G f b m r = gchE G := if_neg h0
    rw [e] at h; exact absurd h h0
theorem pg_sized {G : List Gr} {x : Gr} (hs : SizedG G) (hf : x.fo.size ≤ 150000000000000) (hm : x.wh.size ≤ 150000000000000) : SizedG (pgN x G) := fun g hg => by
  rcases pg_mem hg with ⟨rfl, _⟩ | ⟨h, _⟩
  · exact ⟨hf, hm⟩
  · exact hs g h
end Pp

set_option maxRecDepth 100000 in
set_option maxHeartbeats 4000000 in
theorem grantApart_walk (G : List Gr) (v : Value) (f b m : ByteArray) (r : Int) (x : Gr) (w : World) (hv : LiesG w v G) (hs : SizedG G) (hf : f.size ≤ 150000000000000) (hb : b.size ≤ 150000000000000) (hm : m.size ≤ 150000000000000) (hxf : x.fo.size ≤ 150000000000000) (hxh : x.wh.size ≤ 150000000000000) :
    Calls Try.prog 5 #[v, .string f, .string b, .string m, .int .i64 r, .agg #[.string x.fo, .string x.wh, .int .i64 x.ri]] w fun e w' => e = .returned (.bool true) ∧ Below w.heap.size w w' := by
  have HV := ghid hv
  have HS := ghid hs
  clear hv
  by_cases hg : Pp.giE G f b m r = 0
  case neg =>
    have hz : (Pp.giE G f b m r != 0) = true := by simpa using hg
    clear hg hs
    by_cases hc : Pp.calE G [f, b] = 0
    · have HC := ghid hc
      clear hc
      go_enter Try.func5, Try.ntmps5
      go_wp2_with fail
      refine (grantBegun_yes _).mono ?_
      rintro e w1 ⟨rfl, hb1⟩
      obtain ⟨c0, c1, c2, hbw, hlt⟩ := bx3 hb1
      clear hb1
      go_wp2_with fail
      refine (right2_any G _ f b _ (HV.out.below hbw) HS.out hf hb).mono ?_
      rintro e w2 ⟨rfl, hb2⟩
      rw [HC.out]
      have hb02 := below_trans hbw hb2
      clear hb2 hbw
      generalize Pp.rigR G f b = y at *
      go_wp2_with fail
      refine (give_any G _ f b m r _ (HV.out.below hb02) HS.out hf hb hm).mono ?_
      rintro e w3 ⟨u3, rfl, _, hb3⟩
      have hb03 := below_trans hb02 hb3
      clear hb3 hb02
      generalize Pp.giE G f b m r = z at *
      go_wp2
      go_ret
      exact ⟨Pp.ret_bool (by simp), hb03⟩
    · have hc' : (Pp.calE G [f, b] != 0) = true := by simpa using hc
      clear hc
      go_enter Try.func5, Try.ntmps5
      go_wp2_with fail
      refine (grantBegun_yes _).mono ?_
      rintro e w1 ⟨rfl, hb1⟩
      obtain ⟨c0, c1, c2, hbw, hlt⟩ := bx3 hb1
      clear hb1
      go_wp2_with fail
      refine (right2_any G _ f b _ (HV.out.below hbw) HS.out hf hb).mono ?_
      rintro e w2 ⟨rfl, hb2⟩
      have hb02 := below_trans hbw hb2
      clear hb2 hbw
      generalize Pp.rigR G f b = y at *
      generalize Pp.calE G [f, b] = y2 at *
      go_wp2_with fail
      refine (give_any G _ f b m r _ (HV.out.below hb02) HS.out hf hb hm).mono ?_
      rintro e w3 ⟨u3, rfl, _, hb3⟩
      have hb03 := below_trans hb02 hb3
      clear hb3 hb02
      generalize Pp.giE G f b m r = z at *
      go_wp2
      go_ret
      exact ⟨Pp.ret_bool (by simp), hb03⟩
  case pos =>
  obtain ⟨h0, hn, h1, h3, hch, hany, hl⟩ := Pp.cal_bad hg
  obtain ⟨nf, nb, nm⟩ := Pp.nm_of3 hn
  have HG := ghid hg
  have HC := ghid (Pp.cal_ok h0 nf nb)
  have HRI : Hid (Pp.rigR G f b = Pp.rgt G f b) := (if_pos (Pp.cal_ok h0 nf nb) : Pp.rigR G f b = Pp.rgt G f b)
  have hk := Pp.gch_pg h0 nf nm h1 h3 hany hl
  have HK := ghid hk
  have HC2 := ghid (Pp.cal_ok hk nf nm)
  have HR2 : Hid (Pp.rigR (Pp.pgN ⟨f, m, r⟩ G) f m = r) := (by rw [Pp.rigR, if_pos (Pp.cal_ok hk nf nm)]; exact Pp.rgt_given ⟨f, m, r⟩ G : Pp.rigR (Pp.pgN ⟨f, m, r⟩ G) f m = r)
  have HL : Hid (Pp.giL G f b m r = Pp.pgN ⟨f, m, r⟩ G) := Pp.giL_yes hg
  have HSP := ghid (Pp.pg_sized (x := ⟨f, m, r⟩) hs hf hm)
  have HCE : Hid (Pp.calE (Pp.pgN ⟨f, m, r⟩ G) [x.fo, x.wh] = Pp.calE G [x.fo, x.wh]) := (by rw [Pp.calE, Pp.calE, if_pos hk, if_pos h0] : Pp.calE (Pp.pgN ⟨f, m, r⟩ G) [x.fo, x.wh] = Pp.calE G [x.fo, x.wh])
  have hwas : (Pp.rgt G f b = 3) ∨ (¬ Pp.rgt G f b = 3 ∧ r = 0 ∧ (b.toList == m.toList) = true) := by
    by_cases hy : Pp.rgt G f b = 3
    · exact Or.inl hy
    · right
      have := hch
      rw [Pp.chgE] at this
      split at this
      · rename_i hh
        rcases hh with hh | hh
        · exact ⟨hy, hh.1, hh.2⟩
        · exact absurd hh hy
      · cases this
  have hoth : (Pp.rigR (Pp.pgN ⟨f, m, r⟩ G) x.fo x.wh = Pp.rigR G x.fo x.wh) ∨ (¬ Pp.rigR G x.fo x.wh = Pp.rigR (Pp.pgN ⟨f, m, r⟩ G) x.fo x.wh ∧ (x.fo.toList == f.toList) = true ∧ (x.wh.toList == m.toList) = true) := by
    by_cases hx : x.fo.toList = f.toList ∧ x.wh.toList = m.toList
    · by_cases he : Pp.rigR G x.fo x.wh = Pp.rigR (Pp.pgN ⟨f, m, r⟩ G) x.fo x.wh
      · exact Or.inl he.symm
      · exact Or.inr ⟨he, by simpa using hx.1, by simpa using hx.2⟩
    · left
      rw [Pp.rigR, Pp.rigR, HCE.out, Pp.rgt_other (x := ⟨f, m, r⟩) hx]
  clear hg h0 hn hch hany nf nb nm hk hs hl
  rcases hwas with hw3 | ⟨hw3, hr0, hS⟩
  · have HW := ghid hw3
    clear hw3
    go_enter Try.func5, Try.ntmps5
    go_wp2_with fail
    refine (grantBegun_yes _).mono ?_
    rintro e w1 ⟨rfl, hb1⟩
    obtain ⟨c0, c1, c2, hbw, hlt⟩ := bx3 hb1
    clear hb1
    go_wp2_with fail
    refine (right2_any G _ f b _ (HV.out.below hbw) HS.out hf hb).mono ?_
    rintro e w2 ⟨rfl, hb2⟩
    rw [HC.out, HRI.out, HW.out]
    have hb02 := below_trans hbw hb2
    have d0 := (hb2.cell (p := ⟨w.heap.size, 0, none⟩) hlt).trans c0
    have d1 := (hb2.cell (p := ⟨w.heap.size, 1, none⟩) hlt).trans c1
    have d2 := (hb2.cell (p := ⟨w.heap.size, 2, none⟩) hlt).trans c2
    have hlt2 := Nat.lt_of_lt_of_le hlt hb2.size
    clear hb2 hbw c0 c1 c2 hlt
    go_wp2_with fail
    refine (give_any G _ f b m r _ (HV.out.below hb02) HS.out hf hb hm).mono ?_
    rintro e w3 ⟨u3, rfl, hli3, hb3⟩
    rw [HL.out] at hli3
    rw [HG.out]
    have HU3 := ghid hli3
    have hb03 := below_trans hb02 hb3
    have e0 := (hb3.cell (p := ⟨w.heap.size, 0, none⟩) hlt2).trans d0
    have e1 := (hb3.cell (p := ⟨w.heap.size, 1, none⟩) hlt2).trans d1
    have e2 := (hb3.cell (p := ⟨w.heap.size, 2, none⟩) hlt2).trans d2
    have hlt3 := Nat.lt_of_lt_of_le hlt2 hb3.size
    clear hli3 hb3 hb02 d0 d1 d2 hlt2
    go_wp2_with fail
    refine (gcheck_any _ _ _ HU3.out HSP.out).mono ?_
    rintro e w4 ⟨rfl, hb4⟩
    rw [HK.out]
    have HU4 := ghid (HU3.out.below hb4)
    have hb04 := below_trans hb03 hb4
    have c0 := (hb4.cell (p := ⟨w.heap.size, 0, none⟩) hlt3).trans e0
    have c1 := (hb4.cell (p := ⟨w.heap.size, 1, none⟩) hlt3).trans e1
    have c2 := (hb4.cell (p := ⟨w.heap.size, 2, none⟩) hlt3).trans e2
    have hlt4 := Nat.lt_of_lt_of_le hlt3 hb4.size
    clear hb4 hb03 e0 e1 e2 hlt3 HU3
    go_wp2_with fail
    refine (right2_any _ _ f m _ HU4.out HSP.out hf hm).mono ?_
    rintro e w5 ⟨rfl, hb5⟩
    rw [HC2.out, HR2.out]
    have HU5 := ghid (HU4.out.below hb5)
    have hb05 := below_trans hb04 hb5
    have d0 := (hb5.cell (p := ⟨w.heap.size, 0, none⟩) hlt4).trans c0
    have d1 := (hb5.cell (p := ⟨w.heap.size, 1, none⟩) hlt4).trans c1
    have d2 := (hb5.cell (p := ⟨w.heap.size, 2, none⟩) hlt4).trans c2
    have hlt5 := Nat.lt_of_lt_of_le hlt4 hb5.size
    clear hb5 hb04 c0 c1 c2 hlt4 HU4
    go_wp2_with fail
    refine (right2_any G _ x.fo x.wh _ (HV.out.below hb05) HS.out hxf hxh).mono ?_
    rintro e w6 ⟨rfl, hb6⟩
    have HU6 := ghid (HU5.out.below hb6)
    have hb06 := below_trans hb05 hb6
    have e0 := (hb6.cell (p := ⟨w.heap.size, 0, none⟩) hlt5).trans d0
    have e1 := (hb6.cell (p := ⟨w.heap.size, 1, none⟩) hlt5).trans d1
    have e2 := (hb6.cell (p := ⟨w.heap.size, 2, none⟩) hlt5).trans d2
    have hlt6 := Nat.lt_of_lt_of_le hlt5 hb6.size
    clear hb6 hb05 d0 d1 d2 hlt5 HU5
    go_wp2_with fail
    refine (right2_any _ _ x.fo x.wh _ HU6.out HSP.out hxf hxh).mono ?_
    rintro e w7 ⟨rfl, hb7⟩
    rw [HCE.out]
    have hb07 := below_trans hb06 hb7
    have c0 := (hb7.cell (p := ⟨w.heap.size, 0, none⟩) hlt6).trans e0
    have c1 := (hb7.cell (p := ⟨w.heap.size, 1, none⟩) hlt6).trans e1
    have c2 := (hb7.cell (p := ⟨w.heap.size, 2, none⟩) hlt6).trans e2
    clear hb7 hb06 e0 e1 e2 hlt6
    rcases hoth with ho | ⟨ho, hx1, hx2⟩
    · rw [ho]
      generalize Pp.calE G [x.fo, x.wh] = y at *
      generalize Pp.rigR G x.fo x.wh = z at *
      go_wp2
      go_ret
      exact ⟨rfl, hb07⟩
    · have ho' : (Pp.rigR G x.fo x.wh == Pp.rigR (Pp.pgN ⟨f, m, r⟩ G) x.fo x.wh) = false := by simpa using ho
      generalize Pp.calE G [x.fo, x.wh] = y at *
      generalize Pp.rigR G x.fo x.wh = z at *
      generalize Pp.rigR (Pp.pgN ⟨f, m, r⟩ G) x.fo x.wh = z2 at *
      go_wp2
      go_ret
      exact ⟨rfl, hb07⟩
  · have hw3' : (Pp.rgt G f b != 3) = true := by simpa using hw3
    clear hw3
    subst hr0
    go_enter Try.func5, Try.ntmps5
    go_wp2_with fail
    refine (grantBegun_yes _).mono ?_
    rintro e w1 ⟨rfl, hb1⟩
    obtain ⟨c0, c1, c2, hbw, hlt⟩ := bx3 hb1
    clear hb1
    go_wp2_with fail
    refine (right2_any G _ f b _ (HV.out.below hbw) HS.out hf hb).mono ?_
    rintro e w2 ⟨rfl, hb2⟩
    rw [HC.out, HRI.out]
    have hb02 := below_trans hbw hb2
    have d0 := (hb2.cell (p := ⟨w.heap.size, 0, none⟩) hlt).trans c0
    have d1 := (hb2.cell (p := ⟨w.heap.size, 1, none⟩) hlt).trans c1
    have d2 := (hb2.cell (p := ⟨w.heap.size, 2, none⟩) hlt).trans c2
    have hlt2 := Nat.lt_of_lt_of_le hlt hb2.size
    clear hb2 hbw c0 c1 c2 hlt
    go_wp2_with fail
    refine (give_any G _ f b m 0 _ (HV.out.below hb02) HS.out hf hb hm).mono ?_
    rintro e w3 ⟨u3, rfl, hli3, hb3⟩
    rw [HL.out] at hli3
    rw [HG.out]
    have HU3 := ghid hli3
    have hb03 := below_trans hb02 hb3
    have e0 := (hb3.cell (p := ⟨w.heap.size, 0, none⟩) hlt2).trans d0
    have e1 := (hb3.cell (p := ⟨w.heap.size, 1, none⟩) hlt2).trans d1
    have e2 := (hb3.cell (p := ⟨w.heap.size, 2, none⟩) hlt2).trans d2
    have hlt3 := Nat.lt_of_lt_of_le hlt2 hb3.size
    clear hli3 hb3 hb02 d0 d1 d2 hlt2
    go_wp2_with fail
    refine (gcheck_any _ _ _ HU3.out HSP.out).mono ?_
    rintro e w4 ⟨rfl, hb4⟩
    rw [HK.out]
    have HU4 := ghid (HU3.out.below hb4)
    have hb04 := below_trans hb03 hb4
    have c0 := (hb4.cell (p := ⟨w.heap.size, 0, none⟩) hlt3).trans e0
    have c1 := (hb4.cell (p := ⟨w.heap.size, 1, none⟩) hlt3).trans e1
    have c2 := (hb4.cell (p := ⟨w.heap.size, 2, none⟩) hlt3).trans e2
    have hlt4 := Nat.lt_of_lt_of_le hlt3 hb4.size
    clear hb4 hb03 e0 e1 e2 hlt3 HU3
    go_wp2_with fail
    refine (right2_any _ _ f m _ HU4.out HSP.out hf hm).mono ?_
    rintro e w5 ⟨rfl, hb5⟩
    rw [HC2.out, HR2.out]
    have HU5 := ghid (HU4.out.below hb5)
    have hb05 := below_trans hb04 hb5
    have d0 := (hb5.cell (p := ⟨w.heap.size, 0, none⟩) hlt4).trans c0
    have d1 := (hb5.cell (p := ⟨w.heap.size, 1, none⟩) hlt4).trans c1
    have d2 := (hb5.cell (p := ⟨w.heap.size, 2, none⟩) hlt4).trans c2
    have hlt5 := Nat.lt_of_lt_of_le hlt4 hb5.size
    clear hb5 hb04 c0 c1 c2 hlt4 HU4
    go_wp2_with fail
    refine (right2_any G _ x.fo x.wh _ (HV.out.below hb05) HS.out hxf hxh).mono ?_
    rintro e w6 ⟨rfl, hb6⟩
    have HU6 := ghid (HU5.out.below hb6)
    have hb06 := below_trans hb05 hb6
    have e0 := (hb6.cell (p := ⟨w.heap.size, 0, none⟩) hlt5).trans d0
    have e1 := (hb6.cell (p := ⟨w.heap.size, 1, none⟩) hlt5).trans d1
    have e2 := (hb6.cell (p := ⟨w.heap.size, 2, none⟩) hlt5).trans d2
    have hlt6 := Nat.lt_of_lt_of_le hlt5 hb6.size
    clear hb6 hb05 d0 d1 d2 hlt5 HU5
    go_wp2_with fail
    refine (right2_any _ _ x.fo x.wh _ HU6.out HSP.out hxf hxh).mono ?_
    rintro e w7 ⟨rfl, hb7⟩
    rw [HCE.out]
    have hb07 := below_trans hb06 hb7
    have c0 := (hb7.cell (p := ⟨w.heap.size, 0, none⟩) hlt6).trans e0
    have c1 := (hb7.cell (p := ⟨w.heap.size, 1, none⟩) hlt6).trans e1
    have c2 := (hb7.cell (p := ⟨w.heap.size, 2, none⟩) hlt6).trans e2
    clear hb7 hb06 e0 e1 e2 hlt6
    rcases hoth with ho | ⟨ho, hx1, hx2⟩
    · rw [ho]
      generalize Pp.calE G [x.fo, x.wh] = y at *
      generalize Pp.rigR G x.fo x.wh = z at *
      go_wp2
      go_ret
      exact ⟨rfl, hb07⟩
    · have ho' : (Pp.rigR G x.fo x.wh == Pp.rigR (Pp.pgN ⟨f, m, 0⟩ G) x.fo x.wh) = false := by simpa using ho
      generalize Pp.calE G [x.fo, x.wh] = y at *
      generalize Pp.rigR G x.fo x.wh = z at *
      generalize Pp.rigR (Pp.pgN ⟨f, m, 0⟩ G) x.fo x.wh = z2 at *
      go_wp2
      go_ret
      exact ⟨rfl, hb07⟩
end Go.Proofs.Ytgjiicnhedekjaa
