/- What the law GrantRights answers: true, for every list of grants and every two texts. -/
import Derived.Test.YtgbokcmmknabcafG15
set_option linter.unusedSimpArgs false
set_option linter.unusedVariables false
namespace Go.Proofs.Ytgbokcmmknabcaf
open Go.RowKit

namespace Pp
theorem nms1 (f : ByteArray) : nmsE [f] = if nameB f.data.toList = true then 0 else 1 := by simp [nmsE]
theorem nms2 (f h : ByteArray) : nmsE [f, h] = if (nameB f.data.toList && nameB h.data.toList) = true then 0 else 1 := by simp [nmsE]
end Pp

set_option maxRecDepth 100000 in
set_option maxHeartbeats 2000000 in
theorem grantRights_walk (G : List Gr) (v : Value) (f h : ByteArray) (w : World) (hv : LiesG w v G) (hs : SizedG G) (hf : f.size ≤ 150000000000000) (hh : h.size ≤ 150000000000000) :
    Calls Try.prog 5 #[v, .string f, .string h] w fun e w' => e = .returned (.bool true) ∧ Below w.heap.size w w' := by
  have HV := ghid hv
  have HS := ghid hs
  clear hv hs
  have hcs : (¬ Pp.gchE G = 0 ∧ Pp.calE G [f, h] = Pp.gchE G ∧ Pp.rigR G f h = 0 ∧ Pp.calE G [f] = Pp.gchE G ∧ Pp.whoN G f = []) ∨
      (Pp.gchE G = 0 ∧ Pp.nameB f.data.toList = false ∧ Pp.calE G [f, h] = 1 ∧ Pp.rigR G f h = 0 ∧ Pp.calE G [f] = 1 ∧ Pp.whoN G f = []) ∨
      (Pp.gchE G = 0 ∧ Pp.nameB f.data.toList = true ∧ Pp.nameB h.data.toList = false ∧ Pp.calE G [f, h] = 1 ∧ Pp.rigR G f h = 0 ∧ Pp.calE G [f] = 0 ∧ Pp.whoN G f = Pp.whoR G f ∧ G.length ≤ 60) ∨
      (Pp.gchE G = 0 ∧ Pp.nameB f.data.toList = true ∧ Pp.nameB h.data.toList = true ∧ Pp.calE G [f, h] = 0 ∧ Pp.rigR G f h = Pp.rgt G f h ∧ Pp.calE G [f] = 0 ∧ Pp.whoN G f = Pp.whoR G f ∧ G.length ≤ 60) := by
    by_cases h0 : Pp.gchE G = 0
    · right
      have e2 : Pp.calE G [f, h] = Pp.nmsE [f, h] := if_pos h0
      have e1 : Pp.calE G [f] = Pp.nmsE [f] := if_pos h0
      rw [Pp.nms2] at e2
      rw [Pp.nms1] at e1
      cases hn : Pp.nameB f.data.toList with
      | false =>
        left
        rw [hn] at e1 e2
        have e1' : Pp.calE G [f] = 1 := e1
        have e2' : Pp.calE G [f, h] = 1 := e2
        exact ⟨h0, rfl, e2', by rw [Pp.rigR, e2', if_neg (by decide)], e1', by rw [Pp.whoN, e1', if_neg (by decide)]⟩
      | true =>
        right
        rw [hn] at e1 e2
        have e1' : Pp.calE G [f] = 0 := e1
        have hl := Pp.cal_len e1'
        cases hm : Pp.nameB h.data.toList with
        | false =>
          left
          rw [hm] at e2
          have e2' : Pp.calE G [f, h] = 1 := e2
          exact ⟨h0, rfl, rfl, e2', by rw [Pp.rigR, e2', if_neg (by decide)], e1', by rw [Pp.whoN, e1', if_pos rfl], hl⟩
        | true =>
          right
          rw [hm] at e2
          have e2' : Pp.calE G [f, h] = 0 := e2
          exact ⟨h0, rfl, rfl, e2', by rw [Pp.rigR, e2', if_pos rfl], e1', by rw [Pp.whoN, e1', if_pos rfl], hl⟩
    · left
      have e2 : Pp.calE G [f, h] = Pp.gchE G := if_neg h0
      have e1 : Pp.calE G [f] = Pp.gchE G := if_neg h0
      exact ⟨h0, e2, by rw [Pp.rigR, e2, if_neg h0], e1, by rw [Pp.whoN, e1, if_neg h0]⟩
  rcases hcs with ⟨h0, e2, e3, e1, e4⟩ | ⟨h0, hn, e2, e3, e1, e4⟩ | ⟨h0, hn, hm, e2, e3, e1, e4, hl⟩ | ⟨h0, hn, hm, e2, e3, e1, e4, hl⟩
  all_goals
    have HC2 := ghid e2
    have HR := ghid e3
    have HC1 := ghid e1
    have HW := ghid e4
    have H0 := ghid h0
    clear e1 e2 e3 e4
    go_enter Try.func5, Try.ntmps5
    go_wp2_with fail
    refine (right2_any G _ f h _ HV.out HS.out hf hh).mono ?_
    rintro e w1 ⟨rfl, hb1⟩
    rw [HC2.out, HR.out]
    go_wp2_with fail
    refine (who_any G _ f _ (HV.out.below hb1) HS.out hf).mono ?_
    rintro e w2 ⟨u, rfl, hli, hb2⟩
    rw [HC1.out]
    rw [HW.out] at hli
    have HU := ghid hli
    have hb02 := below_trans hb1 hb2
    clear hli hb1 hb2
    go_wp2_with fail
    refine (rCheckGrants_any G _ _ (HV.out.below hb02) HS.out).mono ?_
    rintro e w3 ⟨rfl, hb3⟩
    have hb03 := below_trans hb02 hb3
    have HU3 := ghid (HU.out.below hb3)
    clear hb3 hb02 HU
  · have hz : (Pp.gchE G == 0) = false := by simpa using h0
    clear h0
    generalize Pp.gchE G = y at *
    go_wp2_with fail
    refine (grantBegun_yes _).mono ?_
    rintro e w4 ⟨rfl, hb4⟩
    have hb04 := below_trans hb03 hb4
    go_wp2_with fail
    refine (sameTextsB_yes [] _ _ _ (HU3.out.below hb4) (liesB_nil _)).mono ?_
    rintro e w5 ⟨rfl, hb5⟩
    go_wp2
    go_ret
    exact ⟨rfl, below_trans hb04 hb5⟩
  · rw [H0.out]
    have HN := ghid hn
    clear hn h0
    go_wp2_with fail
    refine (rIsName_any f _ hf).mono ?_
    rintro e w4 ⟨rfl, hw⟩
    rw [hw, HN.out]
    clear hw w4
    go_wp2_with fail
    refine (rIsName_any f _ hf).mono ?_
    rintro e w4 ⟨rfl, hw⟩
    rw [hw, HN.out]
    clear hw w4
    go_wp2_with fail
    refine (grantBegun_yes _).mono ?_
    rintro e w4 ⟨rfl, hb4⟩
    have hb04 := below_trans hb03 hb4
    go_wp2_with fail
    refine (sameTextsB_yes [] _ _ _ (HU3.out.below hb4) (liesB_nil _)).mono ?_
    rintro e w5 ⟨rfl, hb5⟩
    go_wp2
    go_ret
    exact ⟨rfl, below_trans hb04 hb5⟩
  · rw [H0.out]
    have HN := ghid hn
    have HM := ghid hm
    clear hn h0 hm
    go_wp2_with fail
    refine (rIsName_any f _ hf).mono ?_
    rintro e w4 ⟨rfl, hw⟩
    rw [hw, HN.out]
    clear hw w4
    go_wp2_with fail
    refine (rIsName_any f _ hf).mono ?_
    rintro e w4 ⟨rfl, hw⟩
    rw [hw, HN.out]
    clear hw w4
    go_wp2_with fail
    refine (rIsName_any h _ hh).mono ?_
    rintro e w4 ⟨rfl, hw⟩
    rw [hw, HM.out]
    clear hw w4
    go_wp2_with fail
    refine (whoOf_any G _ f _ (HV.out.below hb03) (by omega)).mono ?_
    rintro e w6 ⟨u6, rfl, hl6, hb6⟩
    have HU6 := ghid hl6
    have hb06 := below_trans hb03 hb6
    have HU36 := ghid (HU3.out.below hb6)
    clear hl6 hb6 hb03 HU3
    go_wp2_with fail
    refine (grantBegun_yes _).mono ?_
    rintro e w4 ⟨rfl, hb4⟩
    have hb04 := below_trans hb06 hb4
    go_wp2_with fail
    refine (sameTextsB_yes (Pp.whoR G f) _ _ _ (HU36.out.below hb4) (HU6.out.below hb4)).mono ?_
    rintro e w5 ⟨rfl, hb5⟩
    go_wp2
    go_ret
    exact ⟨rfl, below_trans hb04 hb5⟩
  · rw [H0.out]
    have HN := ghid hn
    have HM := ghid hm
    clear hn h0 hm
    go_wp2_with fail
    refine (rIsName_any f _ hf).mono ?_
    rintro e w4 ⟨rfl, hw⟩
    rw [hw, HN.out]
    clear hw w4
    go_wp2_with fail
    refine (rIsName_any f _ hf).mono ?_
    rintro e w4 ⟨rfl, hw⟩
    rw [hw, HN.out]
    clear hw w4
    go_wp2_with fail
    refine (rIsName_any h _ hh).mono ?_
    rintro e w4 ⟨rfl, hw⟩
    rw [hw, HM.out]
    clear hw w4
    go_wp2_with fail
    refine (rightOf_any G _ f h _ (HV.out.below hb03)).mono ?_
    rintro e w7 ⟨rfl, hb7⟩
    have hb07 := below_trans hb03 hb7
    have HU37 := ghid (HU3.out.below hb7)
    clear hb7 hb03 HU3
    generalize Pp.rgt G f h = y at *
    go_wp2_with fail
    refine (whoOf_any G _ f _ (HV.out.below hb07) (by omega)).mono ?_
    rintro e w6 ⟨u6, rfl, hl6, hb6⟩
    have HU6 := ghid hl6
    have hb06 := below_trans hb07 hb6
    have HU36 := ghid (HU37.out.below hb6)
    clear hl6 hb6 hb07 HU37
    go_wp2_with fail
    refine (grantBegun_yes _).mono ?_
    rintro e w4 ⟨rfl, hb4⟩
    have hb04 := below_trans hb06 hb4
    go_wp2_with fail
    refine (sameTextsB_yes (Pp.whoR G f) _ _ _ (HU36.out.below hb4) (HU6.out.below hb4)).mono ?_
    rintro e w5 ⟨rfl, hb5⟩
    go_wp2
    go_ret
    exact ⟨rfl, below_trans hb04 hb5⟩
end Go.Proofs.Ytgbokcmmknabcaf
