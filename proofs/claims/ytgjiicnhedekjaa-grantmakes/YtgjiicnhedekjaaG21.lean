/- What the reference's GiveOf and SameGrants answer, and the laws' grantsAre. -/
import Derived.Test.YtgjiicnhedekjaaG20
set_option linter.unusedSimpArgs false
set_option linter.unusedVariables false
namespace Go.Proofs.Ytgjiicnhedekjaa
open Go.RowKit

set_option maxHeartbeats 1000000 in
theorem sameGrants_yes (G : List Gr) (v u : Value) (w : World) (hv : LiesG w v G) (hu : LiesG w u G) :
    Calls Try.prog 24 #[v, u] w fun e w' => e = .returned (.bool true) ∧ Below w.heap.size w w' := by
  obtain ⟨a, cap, rfl, hcap, hcap2, hL⟩ := hv
  have HL : Hid (∀ i (h : i < G.length), ∃ b o, a = some ⟨b, o, none⟩ ∧ b < w.heap.size ∧ GrAt w b (o + i * 3) G[i]) := hL
  obtain ⟨a', cap', rfl, hcap', _, hL'⟩ := hu
  have HL' : Hid (∀ i (h : i < G.length), ∃ b o, a' = some ⟨b, o, none⟩ ∧ b < w.heap.size ∧ GrAt w b (o + i * 3) G[i]) := hL'
  clear hL hL'
  go_enter Try.func24, Try.ntmps24
  go_wp2_with fail
  go_loopw [5] (fun i wr => ∃ k : Nat, k ≤ G.length ∧ i = .int .i64 k ∧ Below w.heap.size w wr) (fun i _ => G.length - (intOf i).toNat)
  case atStart => exact ⟨0, Nat.zero_le _, rfl, Below.refl _ _⟩
  case round =>
    obtain ⟨k, hk, rfl, hbel⟩ := hrel
    by_cases hlt : k < G.length
    · obtain ⟨b, o, rfl, hb, he⟩ := HL.out k hlt
      obtain ⟨b', o', rfl, hb', he'⟩ := HL'.out k hlt
      obtain ⟨c0, c1, c2⟩ := he.below hb hbel
      obtain ⟨d0, d1, d2⟩ := he'.below hb' hbel
      go_wp2_with fail
      go_region
      go_wp2_with fail
      go_roundw
      case rel => exact ⟨k + 1, by omega, by simp, hbel.drew⟩
      case measure => simp [intOf]; omega
    · go_wp2_with fail
      go_ret
      exact ⟨rfl, hbel⟩

set_option maxHeartbeats 1000000 in
theorem grantsAre_yes (G : List Gr) (v u : Value) (r : Int) (w : World) (hv : LiesG w v (if r = 0 then G else [])) (hu : r = 0 → LiesG w u G) :
    Calls Try.prog 10 #[v, .int .i64 r, .int .i64 r, u] w fun e w' => e = .returned (.bool true) ∧ Below w.heap.size w w' := by
  by_cases hr : r = 0
  · rw [if_pos hr] at hv
    have HV := ghid hv
    have HU := ghid (hu hr)
    clear hv hu
    subst hr
    go_enter Try.func10, Try.ntmps10
    go_wp2_with fail
    refine (sameGrants_yes G v u _ HV.out HU.out).mono ?_
    rintro e w1 ⟨rfl, hb1⟩
    go_wp2
    go_ret
    exact ⟨rfl, hb1⟩
  · rw [if_neg hr] at hv
    have HV := ghid hv
    have hz : (r == 0) = false := by simpa using hr
    clear hv hu
    go_enter Try.func10, Try.ntmps10
    go_wp2_with fail
    refine (sameGrants_yes [] v _ _ HV.out (liesG_nil _)).mono ?_
    rintro e w1 ⟨rfl, hb1⟩
    go_wp2
    go_ret
    exact ⟨rfl, hb1⟩

namespace Pp
theorem nms3 (f b m : ByteArray) : (nmsE [f, b, m] = 1 ∧ (nameB f.data.toList = false ∨ (nameB f.data.toList = true ∧ nameB b.data.toList = false) ∨ (nameB f.data.toList = true ∧ nameB b.data.toList = true ∧ nameB m.data.toList = false))) ∨ (nmsE [f, b, m] = 0 ∧ nameB f.data.toList = true ∧ nameB b.data.toList = true ∧ nameB m.data.toList = true) := by
  cases h1 : nameB f.data.toList <;> cases h2 : nameB b.data.toList <;> cases h3 : nameB m.data.toList <;> simp [nmsE, h1, h2, h3]
end Pp

set_option maxRecDepth 100000 in
set_option maxHeartbeats 8000000 in
theorem giveOf_any (G : List Gr) (v : Value) (f b m : ByteArray) (r : Int) (w : World) (hv : LiesG w v G) (hf : f.size ≤ 150000000000000) (hb : b.size ≤ 150000000000000) (hm : m.size ≤ 150000000000000) (hg0 : Pp.gchE G = 0) :
    Calls Try.prog 8 #[v, .string f, .string b, .string m, .int .i64 r] w fun e w' => ∃ u, e = .returned (.tuple #[u, .int .i64 (Pp.gvE G f b m r)]) ∧ (Pp.gvE G f b m r = 0 → LiesG w' u (Pp.pgN ⟨f, m, r⟩ G)) ∧ Below w.heap.size w w' := by
  have HV := ghid hv
  obtain ⟨hl60, _, hris, _⟩ := Pp.gch0 hg0
  have HPG := ghid (Pp.gputR_pg (f := f) (h := m) (r := r) ((Pp.risG_pair G).1 hris))
  have hpl := Pp.pgN_len ⟨f, m, r⟩ G
  clear hris hv hg0
  rcases Pp.gv_cases G f b m r with ⟨hn, hE⟩ | ⟨hn, h1, hE⟩ | ⟨hn, h1, h2, hE⟩ | ⟨hn, h1, h2, hc, hE⟩ | ⟨hn, h1, h2, hc, ha, hE⟩ | ⟨hn, h1, h2, hc, ha, h6, hE⟩ | ⟨hn, h1, h2, hc, ha, h6, hE⟩
  · have HE := ghid hE
    rcases Pp.nms3 f b m with ⟨_, hF | ⟨hF, hB⟩ | ⟨hF, hB, hM⟩⟩ | ⟨hh, _⟩
    · have HF := ghid hF
      clear hF hE hn
      go_enter Try.func8, Try.ntmps8
      go_wp2_with fail
      refine (rIsName_any f _ hf).mono ?_
      rintro e wn ⟨rfl, hw⟩
      rw [hw, HF.out]
      clear hw wn
      go_wp2
      go_ret2
      exact ⟨_, by rw [HE.out]; rfl, fun h => absurd (HE.out.symm.trans h) (by decide), Below.refl _ _⟩
    · have HF := ghid hF
      have HB := ghid hB
      clear hF hB hE hn
      go_enter Try.func8, Try.ntmps8
      go_wp2_with fail
      refine (rIsName_any f _ hf).mono ?_
      rintro e wn ⟨rfl, hw⟩
      rw [hw, HF.out]
      clear hw wn
      go_wp2_with fail
      refine (rIsName_any b _ hb).mono ?_
      rintro e wn ⟨rfl, hw⟩
      rw [hw, HB.out]
      clear hw wn
      go_wp2
      go_ret2
      exact ⟨_, by rw [HE.out]; rfl, fun h => absurd (HE.out.symm.trans h) (by decide), Below.refl _ _⟩
    · have HF := ghid hF
      have HB := ghid hB
      have HM := ghid hM
      clear hF hB hM hE hn
      go_enter Try.func8, Try.ntmps8
      go_wp2_with fail
      refine (rIsName_any f _ hf).mono ?_
      rintro e wn ⟨rfl, hw⟩
      rw [hw, HF.out]
      clear hw wn
      go_wp2_with fail
      refine (rIsName_any b _ hb).mono ?_
      rintro e wn ⟨rfl, hw⟩
      rw [hw, HB.out]
      clear hw wn
      go_wp2_with fail
      refine (rIsName_any m _ hm).mono ?_
      rintro e wn ⟨rfl, hw⟩
      rw [hw, HM.out]
      clear hw wn
      go_wp2
      go_ret2
      exact ⟨_, by rw [HE.out]; rfl, fun h => absurd (HE.out.symm.trans h) (by decide), Below.refl _ _⟩
    · rw [hn] at hh; cases hh
  · have HE := ghid hE
    obtain ⟨hF, hB, hM⟩ : Pp.nameB f.data.toList = true ∧ Pp.nameB b.data.toList = true ∧ Pp.nameB m.data.toList = true := by
      rcases Pp.nms3 f b m with ⟨hh, _⟩ | ⟨_, hh⟩
      · rw [hn] at hh; cases hh
      · exact hh
    have HF := ghid hF
    have HB := ghid hB
    have HM := ghid hM
    clear hF hB hM hn
    clear hE
    go_enter Try.func8, Try.ntmps8
    go_wp2_with fail
    refine (rIsName_any f _ hf).mono ?_
    rintro e wn ⟨rfl, hw⟩
    rw [hw, HF.out]
    clear hw wn
    go_wp2_with fail
    refine (rIsName_any b _ hb).mono ?_
    rintro e wn ⟨rfl, hw⟩
    rw [hw, HB.out]
    clear hw wn
    go_wp2_with fail
    refine (rIsName_any m _ hm).mono ?_
    rintro e wn ⟨rfl, hw⟩
    rw [hw, HM.out]
    clear hw wn
    go_wp2
    go_ret2
    exact ⟨_, by rw [HE.out]; rfl, fun h => absurd (HE.out.symm.trans h) (by decide), Below.refl _ _⟩
  · have HE := ghid hE
    obtain ⟨hF, hB, hM⟩ : Pp.nameB f.data.toList = true ∧ Pp.nameB b.data.toList = true ∧ Pp.nameB m.data.toList = true := by
      rcases Pp.nms3 f b m with ⟨hh, _⟩ | ⟨_, hh⟩
      · rw [hn] at hh; cases hh
      · exact hh
    have HF := ghid hF
    have HB := ghid hB
    have HM := ghid hM
    clear hF hB hM hn
    clear hE
    go_enter Try.func8, Try.ntmps8
    go_wp2_with fail
    refine (rIsName_any f _ hf).mono ?_
    rintro e wn ⟨rfl, hw⟩
    rw [hw, HF.out]
    clear hw wn
    go_wp2_with fail
    refine (rIsName_any b _ hb).mono ?_
    rintro e wn ⟨rfl, hw⟩
    rw [hw, HB.out]
    clear hw wn
    go_wp2_with fail
    refine (rIsName_any m _ hm).mono ?_
    rintro e wn ⟨rfl, hw⟩
    rw [hw, HM.out]
    clear hw wn
    go_wp2
    go_ret2
    exact ⟨_, by rw [HE.out]; rfl, fun h => absurd (HE.out.symm.trans h) (by decide), Below.refl _ _⟩
  · have HE := ghid hE
    obtain ⟨hF, hB, hM⟩ : Pp.nameB f.data.toList = true ∧ Pp.nameB b.data.toList = true ∧ Pp.nameB m.data.toList = true := by
      rcases Pp.nms3 f b m with ⟨hh, _⟩ | ⟨_, hh⟩
      · rw [hn] at hh; cases hh
      · exact hh
    have HF := ghid hF
    have HB := ghid hB
    have HM := ghid hM
    clear hF hB hM hn
    rcases Pp.chg_cases G b ⟨f, m, r⟩ with ⟨h0, h3, hX⟩ | ⟨h0, h3, hX⟩ | ⟨h0, hS, h5, hX⟩ | ⟨h0, hS, h5, hX⟩ | ⟨h0, hS, h3, hX⟩ | ⟨h0, hS, h3, h5, hX⟩ | ⟨h0, hS, h3, h5, hX⟩
    · have HE9 := ghid (hE.trans hX)
      have hz : (r == 0) = false := by simpa using h0
      have h3' : (Pp.rgt G f b != 3) = true := by simpa using h3
      clear h0 h3 hE hX hc HE
      cases hS : (b.toList == m.toList)
      · go_enter Try.func8, Try.ntmps8
        go_wp2_with fail
        refine (rIsName_any f _ hf).mono ?_
        rintro e wn ⟨rfl, hw⟩
        rw [hw, HF.out]
        clear hw wn
        go_wp2_with fail
        refine (rIsName_any b _ hb).mono ?_
        rintro e wn ⟨rfl, hw⟩
        rw [hw, HB.out]
        clear hw wn
        go_wp2_with fail
        refine (rIsName_any m _ hm).mono ?_
        rintro e wn ⟨rfl, hw⟩
        rw [hw, HM.out]
        clear hw wn
        go_wp2_with fail
        refine (rightOf_any G _ f b _ HV.out).mono ?_
        rintro e w1 ⟨rfl, hbb⟩
        have hb1 := hbb
        clear hbb
        go_wp2
        go_ret2
        exact ⟨_, by rw [HE9.out]; rfl, fun h => absurd (HE9.out.symm.trans h) (by decide), hb1⟩
      · go_enter Try.func8, Try.ntmps8
        go_wp2_with fail
        refine (rIsName_any f _ hf).mono ?_
        rintro e wn ⟨rfl, hw⟩
        rw [hw, HF.out]
        clear hw wn
        go_wp2_with fail
        refine (rIsName_any b _ hb).mono ?_
        rintro e wn ⟨rfl, hw⟩
        rw [hw, HB.out]
        clear hw wn
        go_wp2_with fail
        refine (rIsName_any m _ hm).mono ?_
        rintro e wn ⟨rfl, hw⟩
        rw [hw, HM.out]
        clear hw wn
        go_wp2_with fail
        refine (rightOf_any G _ f b _ HV.out).mono ?_
        rintro e w1 ⟨rfl, hbb⟩
        have hb1 := hbb
        clear hbb
        go_wp2
        go_ret2
        exact ⟨_, by rw [HE9.out]; rfl, fun h => absurd (HE9.out.symm.trans h) (by decide), hb1⟩
    · exact absurd hX hc
    · have HE9 := ghid (hE.trans hX)
      have hz : (r == 0) = true := by simpa using h0
      have H5 : Hid (Pp.rgt G f m = 0) := h5
      clear h0 h5 hE hX hc HE
      by_cases h3 : Pp.rgt G f b = 3
      · have H3 : Hid (Pp.rgt G f b = 3) := h3
        clear h3
        go_enter Try.func8, Try.ntmps8
        go_wp2_with fail
        refine (rIsName_any f _ hf).mono ?_
        rintro e wn ⟨rfl, hw⟩
        rw [hw, HF.out]
        clear hw wn
        go_wp2_with fail
        refine (rIsName_any b _ hb).mono ?_
        rintro e wn ⟨rfl, hw⟩
        rw [hw, HB.out]
        clear hw wn
        go_wp2_with fail
        refine (rIsName_any m _ hm).mono ?_
        rintro e wn ⟨rfl, hw⟩
        rw [hw, HM.out]
        clear hw wn
        go_wp2_with fail
        refine (rightOf_any G _ f b _ HV.out).mono ?_
        rintro e w1 ⟨rfl, hbb⟩
        rw [H3.out]
        have hb1 := hbb
        clear hbb
        go_wp2_with fail
        refine (rightOf_any G _ f m _ (HV.out.below hb1)).mono ?_
        rintro e w2 ⟨rfl, hbb⟩
        rw [H5.out]
        have hb2 := below_trans hb1 hbb
        clear hbb
        go_wp2
        go_ret2
        exact ⟨_, by rw [HE9.out]; rfl, fun h => absurd (HE9.out.symm.trans h) (by decide), hb2⟩
      · have h3' : (Pp.rgt G f b != 3) = true := by simpa using h3
        clear h3
        go_enter Try.func8, Try.ntmps8
        go_wp2_with fail
        refine (rIsName_any f _ hf).mono ?_
        rintro e wn ⟨rfl, hw⟩
        rw [hw, HF.out]
        clear hw wn
        go_wp2_with fail
        refine (rIsName_any b _ hb).mono ?_
        rintro e wn ⟨rfl, hw⟩
        rw [hw, HB.out]
        clear hw wn
        go_wp2_with fail
        refine (rIsName_any m _ hm).mono ?_
        rintro e wn ⟨rfl, hw⟩
        rw [hw, HM.out]
        clear hw wn
        go_wp2_with fail
        refine (rightOf_any G _ f b _ HV.out).mono ?_
        rintro e w1 ⟨rfl, hbb⟩
        have hb1 := hbb
        clear hbb
        go_wp2_with fail
        refine (rightOf_any G _ f m _ (HV.out.below hb1)).mono ?_
        rintro e w2 ⟨rfl, hbb⟩
        rw [H5.out]
        have hb2 := below_trans hb1 hbb
        clear hbb
        go_wp2
        go_ret2
        exact ⟨_, by rw [HE9.out]; rfl, fun h => absurd (HE9.out.symm.trans h) (by decide), hb2⟩
    · exact absurd hX hc
    · have HE9 := ghid (hE.trans hX)
      have hz : (r == 0) = true := by simpa using h0
      have h3' : (Pp.rgt G f b != 3) = true := by simpa using h3
      clear h0 h3 hE hX hc HE
      go_enter Try.func8, Try.ntmps8
      go_wp2_with fail
      refine (rIsName_any f _ hf).mono ?_
      rintro e wn ⟨rfl, hw⟩
      rw [hw, HF.out]
      clear hw wn
      go_wp2_with fail
      refine (rIsName_any b _ hb).mono ?_
      rintro e wn ⟨rfl, hw⟩
      rw [hw, HB.out]
      clear hw wn
      go_wp2_with fail
      refine (rIsName_any m _ hm).mono ?_
      rintro e wn ⟨rfl, hw⟩
      rw [hw, HM.out]
      clear hw wn
      go_wp2_with fail
      refine (rightOf_any G _ f b _ HV.out).mono ?_
      rintro e w1 ⟨rfl, hbb⟩
      have hb1 := hbb
      clear hbb
      go_wp2
      go_ret2
      exact ⟨_, by rw [HE9.out]; rfl, fun h => absurd (HE9.out.symm.trans h) (by decide), hb1⟩
    · have HE9 := ghid (hE.trans hX)
      have hz : (r == 0) = true := by simpa using h0
      have H3 : Hid (Pp.rgt G f b = 3) := h3
      have H5 : Hid (Pp.rgt G f m = 0) := h5
      clear h0 h3 h5 hE hX hc HE
      go_enter Try.func8, Try.ntmps8
      go_wp2_with fail
      refine (rIsName_any f _ hf).mono ?_
      rintro e wn ⟨rfl, hw⟩
      rw [hw, HF.out]
      clear hw wn
      go_wp2_with fail
      refine (rIsName_any b _ hb).mono ?_
      rintro e wn ⟨rfl, hw⟩
      rw [hw, HB.out]
      clear hw wn
      go_wp2_with fail
      refine (rIsName_any m _ hm).mono ?_
      rintro e wn ⟨rfl, hw⟩
      rw [hw, HM.out]
      clear hw wn
      go_wp2_with fail
      refine (rightOf_any G _ f b _ HV.out).mono ?_
      rintro e w1 ⟨rfl, hbb⟩
      rw [H3.out]
      have hb1 := hbb
      clear hbb
      go_wp2_with fail
      refine (rightOf_any G _ f m _ (HV.out.below hb1)).mono ?_
      rintro e w2 ⟨rfl, hbb⟩
      rw [H5.out]
      have hb2 := below_trans hb1 hbb
      clear hbb
      go_wp2
      go_ret2
      exact ⟨_, by rw [HE9.out]; rfl, fun h => absurd (HE9.out.symm.trans h) (by decide), hb2⟩
    · exact absurd hX hc
  · have HE := ghid hE
    obtain ⟨hF, hB, hM⟩ : Pp.nameB f.data.toList = true ∧ Pp.nameB b.data.toList = true ∧ Pp.nameB m.data.toList = true := by
      rcases Pp.nms3 f b m with ⟨hh, _⟩ | ⟨_, hh⟩
      · rw [hn] at hh; cases hh
      · exact hh
    have HF := ghid hF
    have HB := ghid hB
    have HM := ghid hM
    clear hF hB hM hn
    have HA := ghid ha
    clear ha
    rcases Pp.chg_cases G b ⟨f, m, r⟩ with ⟨h0, h3, hX⟩ | ⟨h0, h3, hX⟩ | ⟨h0, hS, h5, hX⟩ | ⟨h0, hS, h5, hX⟩ | ⟨h0, hS, h3, hX⟩ | ⟨h0, hS, h3, h5, hX⟩ | ⟨h0, hS, h3, h5, hX⟩
    · rw [hc] at hX; cases hX
    · have hz : (r == 0) = false := by simpa using h0
      have H3 : Hid (Pp.rgt G f b = 3) := h3
      clear h0 h3 hE hX hc
      go_enter Try.func8, Try.ntmps8
      go_wp2_with fail
      refine (rIsName_any f _ hf).mono ?_
      rintro e wn ⟨rfl, hw⟩
      rw [hw, HF.out]
      clear hw wn
      go_wp2_with fail
      refine (rIsName_any b _ hb).mono ?_
      rintro e wn ⟨rfl, hw⟩
      rw [hw, HB.out]
      clear hw wn
      go_wp2_with fail
      refine (rIsName_any m _ hm).mono ?_
      rintro e wn ⟨rfl, hw⟩
      rw [hw, HM.out]
      clear hw wn
      go_wp2_with fail
      refine (rightOf_any G _ f b _ HV.out).mono ?_
      rintro e w1 ⟨rfl, hbb⟩
      rw [H3.out]
      have hb1 := hbb
      clear hbb
      go_wp2_with fail
      refine (putGrant_any G _ f m r _ (HV.out.below hb1) (by omega)).mono ?_
      rintro e w5 ⟨u, rfl, hrow, hb5⟩
      rw [HPG.out] at hrow
      have HLI := ghid (liesG_own hrow (by omega))
      have hb05 := below_trans hb1 hb5
      clear hrow hb5
      go_wp2_with fail
      refine (rOwned_any _ _ f _ HLI.out).mono ?_
      rintro e w6 ⟨rfl, hb6⟩
      rw [HA.out]
      have hb06 := below_trans hb05 hb6
      go_wp2
      go_ret2
      exact ⟨_, by rw [HE.out]; rfl, fun h => absurd (HE.out.symm.trans h) (by decide), hb06⟩
    · rw [hc] at hX; cases hX
    · have hz : (r == 0) = true := by simpa using h0
      have h5' : (Pp.rgt G f m == 0) = false := by simpa using h5
      clear h0 h5 hE hX hc
      by_cases h3 : Pp.rgt G f b = 3
      · have H3 : Hid (Pp.rgt G f b = 3) := h3
        clear h3
        go_enter Try.func8, Try.ntmps8
        go_wp2_with fail
        refine (rIsName_any f _ hf).mono ?_
        rintro e wn ⟨rfl, hw⟩
        rw [hw, HF.out]
        clear hw wn
        go_wp2_with fail
        refine (rIsName_any b _ hb).mono ?_
        rintro e wn ⟨rfl, hw⟩
        rw [hw, HB.out]
        clear hw wn
        go_wp2_with fail
        refine (rIsName_any m _ hm).mono ?_
        rintro e wn ⟨rfl, hw⟩
        rw [hw, HM.out]
        clear hw wn
        go_wp2_with fail
        refine (rightOf_any G _ f b _ HV.out).mono ?_
        rintro e w1 ⟨rfl, hbb⟩
        rw [H3.out]
        have hb1 := hbb
        clear hbb
        go_wp2_with fail
        refine (rightOf_any G _ f m _ (HV.out.below hb1)).mono ?_
        rintro e w2 ⟨rfl, hbb⟩
        have hb2 := below_trans hb1 hbb
        clear hbb
        generalize Pp.rgt G f m = z at *
        go_wp2_with fail
        refine (putGrant_any G _ f m r _ (HV.out.below hb2) (by omega)).mono ?_
        rintro e w5 ⟨u, rfl, hrow, hb5⟩
        rw [HPG.out] at hrow
        have HLI := ghid (liesG_own hrow (by omega))
        have hb05 := below_trans hb2 hb5
        clear hrow hb5
        go_wp2_with fail
        refine (rOwned_any _ _ f _ HLI.out).mono ?_
        rintro e w6 ⟨rfl, hb6⟩
        rw [HA.out]
        have hb06 := below_trans hb05 hb6
        go_wp2
        go_ret2
        exact ⟨_, by rw [HE.out]; rfl, fun h => absurd (HE.out.symm.trans h) (by decide), hb06⟩
      · have h3' : (Pp.rgt G f b != 3) = true := by simpa using h3
        clear h3
        go_enter Try.func8, Try.ntmps8
        go_wp2_with fail
        refine (rIsName_any f _ hf).mono ?_
        rintro e wn ⟨rfl, hw⟩
        rw [hw, HF.out]
        clear hw wn
        go_wp2_with fail
        refine (rIsName_any b _ hb).mono ?_
        rintro e wn ⟨rfl, hw⟩
        rw [hw, HB.out]
        clear hw wn
        go_wp2_with fail
        refine (rIsName_any m _ hm).mono ?_
        rintro e wn ⟨rfl, hw⟩
        rw [hw, HM.out]
        clear hw wn
        go_wp2_with fail
        refine (rightOf_any G _ f b _ HV.out).mono ?_
        rintro e w1 ⟨rfl, hbb⟩
        have hb1 := hbb
        clear hbb
        go_wp2_with fail
        refine (rightOf_any G _ f m _ (HV.out.below hb1)).mono ?_
        rintro e w2 ⟨rfl, hbb⟩
        have hb2 := below_trans hb1 hbb
        clear hbb
        go_wp2_with fail
        refine (putGrant_any G _ f m r _ (HV.out.below hb2) (by omega)).mono ?_
        rintro e w5 ⟨u, rfl, hrow, hb5⟩
        rw [HPG.out] at hrow
        have HLI := ghid (liesG_own hrow (by omega))
        have hb05 := below_trans hb2 hb5
        clear hrow hb5
        go_wp2_with fail
        refine (rOwned_any _ _ f _ HLI.out).mono ?_
        rintro e w6 ⟨rfl, hb6⟩
        rw [HA.out]
        have hb06 := below_trans hb05 hb6
        go_wp2
        go_ret2
        exact ⟨_, by rw [HE.out]; rfl, fun h => absurd (HE.out.symm.trans h) (by decide), hb06⟩
    · rw [hc] at hX; cases hX
    · rw [hc] at hX; cases hX
    · have hz : (r == 0) = true := by simpa using h0
      have H3 : Hid (Pp.rgt G f b = 3) := h3
      have h5' : (Pp.rgt G f m == 0) = false := by simpa using h5
      clear h0 h3 h5 hE hX hc
      go_enter Try.func8, Try.ntmps8
      go_wp2_with fail
      refine (rIsName_any f _ hf).mono ?_
      rintro e wn ⟨rfl, hw⟩
      rw [hw, HF.out]
      clear hw wn
      go_wp2_with fail
      refine (rIsName_any b _ hb).mono ?_
      rintro e wn ⟨rfl, hw⟩
      rw [hw, HB.out]
      clear hw wn
      go_wp2_with fail
      refine (rIsName_any m _ hm).mono ?_
      rintro e wn ⟨rfl, hw⟩
      rw [hw, HM.out]
      clear hw wn
      go_wp2_with fail
      refine (rightOf_any G _ f b _ HV.out).mono ?_
      rintro e w1 ⟨rfl, hbb⟩
      rw [H3.out]
      have hb1 := hbb
      clear hbb
      go_wp2_with fail
      refine (rightOf_any G _ f m _ (HV.out.below hb1)).mono ?_
      rintro e w2 ⟨rfl, hbb⟩
      have hb2 := below_trans hb1 hbb
      clear hbb
      generalize Pp.rgt G f m = z at *
      go_wp2_with fail
      refine (putGrant_any G _ f m r _ (HV.out.below hb2) (by omega)).mono ?_
      rintro e w5 ⟨u, rfl, hrow, hb5⟩
      rw [HPG.out] at hrow
      have HLI := ghid (liesG_own hrow (by omega))
      have hb05 := below_trans hb2 hb5
      clear hrow hb5
      go_wp2_with fail
      refine (rOwned_any _ _ f _ HLI.out).mono ?_
      rintro e w6 ⟨rfl, hb6⟩
      rw [HA.out]
      have hb06 := below_trans hb05 hb6
      go_wp2
      go_ret2
      exact ⟨_, by rw [HE.out]; rfl, fun h => absurd (HE.out.symm.trans h) (by decide), hb06⟩
  · have HE := ghid hE
    obtain ⟨hF, hB, hM⟩ : Pp.nameB f.data.toList = true ∧ Pp.nameB b.data.toList = true ∧ Pp.nameB m.data.toList = true := by
      rcases Pp.nms3 f b m with ⟨hh, _⟩ | ⟨_, hh⟩
      · rw [hn] at hh; cases hh
      · exact hh
    have HF := ghid hF
    have HB := ghid hB
    have HM := ghid hM
    clear hF hB hM hn
    have HA := ghid ha
    clear ha
    rcases Pp.chg_cases G b ⟨f, m, r⟩ with ⟨h0, h3, hX⟩ | ⟨h0, h3, hX⟩ | ⟨h0, hS, h5, hX⟩ | ⟨h0, hS, h5, hX⟩ | ⟨h0, hS, h3, hX⟩ | ⟨h0, hS, h3, h5, hX⟩ | ⟨h0, hS, h3, h5, hX⟩
    · rw [hc] at hX; cases hX
    · have hz : (r == 0) = false := by simpa using h0
      have H3 : Hid (Pp.rgt G f b = 3) := h3
      clear h0 h3 hE hX hc
      go_enter Try.func8, Try.ntmps8
      go_wp2_with fail
      refine (rIsName_any f _ hf).mono ?_
      rintro e wn ⟨rfl, hw⟩
      rw [hw, HF.out]
      clear hw wn
      go_wp2_with fail
      refine (rIsName_any b _ hb).mono ?_
      rintro e wn ⟨rfl, hw⟩
      rw [hw, HB.out]
      clear hw wn
      go_wp2_with fail
      refine (rIsName_any m _ hm).mono ?_
      rintro e wn ⟨rfl, hw⟩
      rw [hw, HM.out]
      clear hw wn
      go_wp2_with fail
      refine (rightOf_any G _ f b _ HV.out).mono ?_
      rintro e w1 ⟨rfl, hbb⟩
      rw [H3.out]
      have hb1 := hbb
      clear hbb
      go_wp2_with fail
      refine (putGrant_any G _ f m r _ (HV.out.below hb1) (by omega)).mono ?_
      rintro e w5 ⟨u, rfl, hrow, hb5⟩
      rw [HPG.out] at hrow
      have HLI := ghid (liesG_own hrow (by omega))
      have hb05 := below_trans hb1 hb5
      clear hrow hb5
      go_wp2_with fail
      refine (rOwned_any _ _ f _ HLI.out).mono ?_
      rintro e w6 ⟨rfl, hb6⟩
      rw [HA.out]
      have hb06 := below_trans hb05 hb6
      have HLI6 := ghid (HLI.out.below hb6)
      obtain ⟨a, cap, hu, hcap, hcap2, _⟩ := HLI.out
      subst hu
      have h60 : 60 < ((Pp.pgN ⟨f, m, r⟩ G).length : Int) := by omega
      go_wp2
      go_ret2
      exact ⟨_, by rw [HE.out]; rfl, fun h => absurd (HE.out.symm.trans h) (by decide), hb06⟩
    · rw [hc] at hX; cases hX
    · have hz : (r == 0) = true := by simpa using h0
      have h5' : (Pp.rgt G f m == 0) = false := by simpa using h5
      clear h0 h5 hE hX hc
      by_cases h3 : Pp.rgt G f b = 3
      · have H3 : Hid (Pp.rgt G f b = 3) := h3
        clear h3
        go_enter Try.func8, Try.ntmps8
        go_wp2_with fail
        refine (rIsName_any f _ hf).mono ?_
        rintro e wn ⟨rfl, hw⟩
        rw [hw, HF.out]
        clear hw wn
        go_wp2_with fail
        refine (rIsName_any b _ hb).mono ?_
        rintro e wn ⟨rfl, hw⟩
        rw [hw, HB.out]
        clear hw wn
        go_wp2_with fail
        refine (rIsName_any m _ hm).mono ?_
        rintro e wn ⟨rfl, hw⟩
        rw [hw, HM.out]
        clear hw wn
        go_wp2_with fail
        refine (rightOf_any G _ f b _ HV.out).mono ?_
        rintro e w1 ⟨rfl, hbb⟩
        rw [H3.out]
        have hb1 := hbb
        clear hbb
        go_wp2_with fail
        refine (rightOf_any G _ f m _ (HV.out.below hb1)).mono ?_
        rintro e w2 ⟨rfl, hbb⟩
        have hb2 := below_trans hb1 hbb
        clear hbb
        generalize Pp.rgt G f m = z at *
        go_wp2_with fail
        refine (putGrant_any G _ f m r _ (HV.out.below hb2) (by omega)).mono ?_
        rintro e w5 ⟨u, rfl, hrow, hb5⟩
        rw [HPG.out] at hrow
        have HLI := ghid (liesG_own hrow (by omega))
        have hb05 := below_trans hb2 hb5
        clear hrow hb5
        go_wp2_with fail
        refine (rOwned_any _ _ f _ HLI.out).mono ?_
        rintro e w6 ⟨rfl, hb6⟩
        rw [HA.out]
        have hb06 := below_trans hb05 hb6
        have HLI6 := ghid (HLI.out.below hb6)
        obtain ⟨a, cap, hu, hcap, hcap2, _⟩ := HLI.out
        subst hu
        have h60 : 60 < ((Pp.pgN ⟨f, m, r⟩ G).length : Int) := by omega
        go_wp2
        go_ret2
        exact ⟨_, by rw [HE.out]; rfl, fun h => absurd (HE.out.symm.trans h) (by decide), hb06⟩
      · have h3' : (Pp.rgt G f b != 3) = true := by simpa using h3
        clear h3
        go_enter Try.func8, Try.ntmps8
        go_wp2_with fail
        refine (rIsName_any f _ hf).mono ?_
        rintro e wn ⟨rfl, hw⟩
        rw [hw, HF.out]
        clear hw wn
        go_wp2_with fail
        refine (rIsName_any b _ hb).mono ?_
        rintro e wn ⟨rfl, hw⟩
        rw [hw, HB.out]
        clear hw wn
        go_wp2_with fail
        refine (rIsName_any m _ hm).mono ?_
        rintro e wn ⟨rfl, hw⟩
        rw [hw, HM.out]
        clear hw wn
        go_wp2_with fail
        refine (rightOf_any G _ f b _ HV.out).mono ?_
        rintro e w1 ⟨rfl, hbb⟩
        have hb1 := hbb
        clear hbb
        go_wp2_with fail
        refine (rightOf_any G _ f m _ (HV.out.below hb1)).mono ?_
        rintro e w2 ⟨rfl, hbb⟩
        have hb2 := below_trans hb1 hbb
        clear hbb
        go_wp2_with fail
        refine (putGrant_any G _ f m r _ (HV.out.below hb2) (by omega)).mono ?_
        rintro e w5 ⟨u, rfl, hrow, hb5⟩
        rw [HPG.out] at hrow
        have HLI := ghid (liesG_own hrow (by omega))
        have hb05 := below_trans hb2 hb5
        clear hrow hb5
        go_wp2_with fail
        refine (rOwned_any _ _ f _ HLI.out).mono ?_
        rintro e w6 ⟨rfl, hb6⟩
        rw [HA.out]
        have hb06 := below_trans hb05 hb6
        have HLI6 := ghid (HLI.out.below hb6)
        obtain ⟨a, cap, hu, hcap, hcap2, _⟩ := HLI.out
        subst hu
        have h60 : 60 < ((Pp.pgN ⟨f, m, r⟩ G).length : Int) := by omega
        go_wp2
        go_ret2
        exact ⟨_, by rw [HE.out]; rfl, fun h => absurd (HE.out.symm.trans h) (by decide), hb06⟩
    · rw [hc] at hX; cases hX
    · rw [hc] at hX; cases hX
    · have hz : (r == 0) = true := by simpa using h0
      have H3 : Hid (Pp.rgt G f b = 3) := h3
      have h5' : (Pp.rgt G f m == 0) = false := by simpa using h5
      clear h0 h3 h5 hE hX hc
      go_enter Try.func8, Try.ntmps8
      go_wp2_with fail
      refine (rIsName_any f _ hf).mono ?_
      rintro e wn ⟨rfl, hw⟩
      rw [hw, HF.out]
      clear hw wn
      go_wp2_with fail
      refine (rIsName_any b _ hb).mono ?_
      rintro e wn ⟨rfl, hw⟩
      rw [hw, HB.out]
      clear hw wn
      go_wp2_with fail
      refine (rIsName_any m _ hm).mono ?_
      rintro e wn ⟨rfl, hw⟩
      rw [hw, HM.out]
      clear hw wn
      go_wp2_with fail
      refine (rightOf_any G _ f b _ HV.out).mono ?_
      rintro e w1 ⟨rfl, hbb⟩
      rw [H3.out]
      have hb1 := hbb
      clear hbb
      go_wp2_with fail
      refine (rightOf_any G _ f m _ (HV.out.below hb1)).mono ?_
      rintro e w2 ⟨rfl, hbb⟩
      have hb2 := below_trans hb1 hbb
      clear hbb
      generalize Pp.rgt G f m = z at *
      go_wp2_with fail
      refine (putGrant_any G _ f m r _ (HV.out.below hb2) (by omega)).mono ?_
      rintro e w5 ⟨u, rfl, hrow, hb5⟩
      rw [HPG.out] at hrow
      have HLI := ghid (liesG_own hrow (by omega))
      have hb05 := below_trans hb2 hb5
      clear hrow hb5
      go_wp2_with fail
      refine (rOwned_any _ _ f _ HLI.out).mono ?_
      rintro e w6 ⟨rfl, hb6⟩
      rw [HA.out]
      have hb06 := below_trans hb05 hb6
      have HLI6 := ghid (HLI.out.below hb6)
      obtain ⟨a, cap, hu, hcap, hcap2, _⟩ := HLI.out
      subst hu
      have h60 : 60 < ((Pp.pgN ⟨f, m, r⟩ G).length : Int) := by omega
      go_wp2
      go_ret2
      exact ⟨_, by rw [HE.out]; rfl, fun h => absurd (HE.out.symm.trans h) (by decide), hb06⟩
  · have HE := ghid hE
    obtain ⟨hF, hB, hM⟩ : Pp.nameB f.data.toList = true ∧ Pp.nameB b.data.toList = true ∧ Pp.nameB m.data.toList = true := by
      rcases Pp.nms3 f b m with ⟨hh, _⟩ | ⟨_, hh⟩
      · rw [hn] at hh; cases hh
      · exact hh
    have HF := ghid hF
    have HB := ghid hB
    have HM := ghid hM
    clear hF hB hM hn
    have HA := ghid ha
    clear ha
    rcases Pp.chg_cases G b ⟨f, m, r⟩ with ⟨h0, h3, hX⟩ | ⟨h0, h3, hX⟩ | ⟨h0, hS, h5, hX⟩ | ⟨h0, hS, h5, hX⟩ | ⟨h0, hS, h3, hX⟩ | ⟨h0, hS, h3, h5, hX⟩ | ⟨h0, hS, h3, h5, hX⟩
    · rw [hc] at hX; cases hX
    · have hz : (r == 0) = false := by simpa using h0
      have H3 : Hid (Pp.rgt G f b = 3) := h3
      clear h0 h3 hE hX hc
      go_enter Try.func8, Try.ntmps8
      go_wp2_with fail
      refine (rIsName_any f _ hf).mono ?_
      rintro e wn ⟨rfl, hw⟩
      rw [hw, HF.out]
      clear hw wn
      go_wp2_with fail
      refine (rIsName_any b _ hb).mono ?_
      rintro e wn ⟨rfl, hw⟩
      rw [hw, HB.out]
      clear hw wn
      go_wp2_with fail
      refine (rIsName_any m _ hm).mono ?_
      rintro e wn ⟨rfl, hw⟩
      rw [hw, HM.out]
      clear hw wn
      go_wp2_with fail
      refine (rightOf_any G _ f b _ HV.out).mono ?_
      rintro e w1 ⟨rfl, hbb⟩
      rw [H3.out]
      have hb1 := hbb
      clear hbb
      go_wp2_with fail
      refine (putGrant_any G _ f m r _ (HV.out.below hb1) (by omega)).mono ?_
      rintro e w5 ⟨u, rfl, hrow, hb5⟩
      rw [HPG.out] at hrow
      have HLI := ghid (liesG_own hrow (by omega))
      have hb05 := below_trans hb1 hb5
      clear hrow hb5
      go_wp2_with fail
      refine (rOwned_any _ _ f _ HLI.out).mono ?_
      rintro e w6 ⟨rfl, hb6⟩
      rw [HA.out]
      have hb06 := below_trans hb05 hb6
      have HLI6 := ghid (HLI.out.below hb6)
      obtain ⟨a, cap, hu, hcap, hcap2, _⟩ := HLI.out
      subst hu
      have h60 : ¬ 60 < ((Pp.pgN ⟨f, m, r⟩ G).length : Int) := by omega
      go_wp2
      go_ret2
      exact ⟨_, by rw [HE.out]; rfl, fun _ => HLI6.out, hb06⟩
    · rw [hc] at hX; cases hX
    · have hz : (r == 0) = true := by simpa using h0
      have h5' : (Pp.rgt G f m == 0) = false := by simpa using h5
      clear h0 h5 hE hX hc
      by_cases h3 : Pp.rgt G f b = 3
      · have H3 : Hid (Pp.rgt G f b = 3) := h3
        clear h3
        go_enter Try.func8, Try.ntmps8
        go_wp2_with fail
        refine (rIsName_any f _ hf).mono ?_
        rintro e wn ⟨rfl, hw⟩
        rw [hw, HF.out]
        clear hw wn
        go_wp2_with fail
        refine (rIsName_any b _ hb).mono ?_
        rintro e wn ⟨rfl, hw⟩
        rw [hw, HB.out]
        clear hw wn
        go_wp2_with fail
        refine (rIsName_any m _ hm).mono ?_
        rintro e wn ⟨rfl, hw⟩
        rw [hw, HM.out]
        clear hw wn
        go_wp2_with fail
        refine (rightOf_any G _ f b _ HV.out).mono ?_
        rintro e w1 ⟨rfl, hbb⟩
        rw [H3.out]
        have hb1 := hbb
        clear hbb
        go_wp2_with fail
        refine (rightOf_any G _ f m _ (HV.out.below hb1)).mono ?_
        rintro e w2 ⟨rfl, hbb⟩
        have hb2 := below_trans hb1 hbb
        clear hbb
        generalize Pp.rgt G f m = z at *
        go_wp2_with fail
        refine (putGrant_any G _ f m r _ (HV.out.below hb2) (by omega)).mono ?_
        rintro e w5 ⟨u, rfl, hrow, hb5⟩
        rw [HPG.out] at hrow
        have HLI := ghid (liesG_own hrow (by omega))
        have hb05 := below_trans hb2 hb5
        clear hrow hb5
        go_wp2_with fail
        refine (rOwned_any _ _ f _ HLI.out).mono ?_
        rintro e w6 ⟨rfl, hb6⟩
        rw [HA.out]
        have hb06 := below_trans hb05 hb6
        have HLI6 := ghid (HLI.out.below hb6)
        obtain ⟨a, cap, hu, hcap, hcap2, _⟩ := HLI.out
        subst hu
        have h60 : ¬ 60 < ((Pp.pgN ⟨f, m, r⟩ G).length : Int) := by omega
        go_wp2
        go_ret2
        exact ⟨_, by rw [HE.out]; rfl, fun _ => HLI6.out, hb06⟩
      · have h3' : (Pp.rgt G f b != 3) = true := by simpa using h3
        clear h3
        go_enter Try.func8, Try.ntmps8
        go_wp2_with fail
        refine (rIsName_any f _ hf).mono ?_
        rintro e wn ⟨rfl, hw⟩
        rw [hw, HF.out]
        clear hw wn
        go_wp2_with fail
        refine (rIsName_any b _ hb).mono ?_
        rintro e wn ⟨rfl, hw⟩
        rw [hw, HB.out]
        clear hw wn
        go_wp2_with fail
        refine (rIsName_any m _ hm).mono ?_
        rintro e wn ⟨rfl, hw⟩
        rw [hw, HM.out]
        clear hw wn
        go_wp2_with fail
        refine (rightOf_any G _ f b _ HV.out).mono ?_
        rintro e w1 ⟨rfl, hbb⟩
        have hb1 := hbb
        clear hbb
        go_wp2_with fail
        refine (rightOf_any G _ f m _ (HV.out.below hb1)).mono ?_
        rintro e w2 ⟨rfl, hbb⟩
        have hb2 := below_trans hb1 hbb
        clear hbb
        go_wp2_with fail
        refine (putGrant_any G _ f m r _ (HV.out.below hb2) (by omega)).mono ?_
        rintro e w5 ⟨u, rfl, hrow, hb5⟩
        rw [HPG.out] at hrow
        have HLI := ghid (liesG_own hrow (by omega))
        have hb05 := below_trans hb2 hb5
        clear hrow hb5
        go_wp2_with fail
        refine (rOwned_any _ _ f _ HLI.out).mono ?_
        rintro e w6 ⟨rfl, hb6⟩
        rw [HA.out]
        have hb06 := below_trans hb05 hb6
        have HLI6 := ghid (HLI.out.below hb6)
        obtain ⟨a, cap, hu, hcap, hcap2, _⟩ := HLI.out
        subst hu
        have h60 : ¬ 60 < ((Pp.pgN ⟨f, m, r⟩ G).length : Int) := by omega
        go_wp2
        go_ret2
        exact ⟨_, by rw [HE.out]; rfl, fun _ => HLI6.out, hb06⟩
    · rw [hc] at hX; cases hX
    · rw [hc] at hX; cases hX
    · have hz : (r == 0) = true := by simpa using h0
      have H3 : Hid (Pp.rgt G f b = 3) := h3
      have h5' : (Pp.rgt G f m == 0) = false := by simpa using h5
      clear h0 h3 h5 hE hX hc
      go_enter Try.func8, Try.ntmps8
      go_wp2_with fail
      refine (rIsName_any f _ hf).mono ?_
      rintro e wn ⟨rfl, hw⟩
      rw [hw, HF.out]
      clear hw wn
      go_wp2_with fail
      refine (rIsName_any b _ hb).mono ?_
      rintro e wn ⟨rfl, hw⟩
      rw [hw, HB.out]
      clear hw wn
      go_wp2_with fail
      refine (rIsName_any m _ hm).mono ?_
      rintro e wn ⟨rfl, hw⟩
      rw [hw, HM.out]
      clear hw wn
      go_wp2_with fail
      refine (rightOf_any G _ f b _ HV.out).mono ?_
      rintro e w1 ⟨rfl, hbb⟩
      rw [H3.out]
      have hb1 := hbb
      clear hbb
      go_wp2_with fail
      refine (rightOf_any G _ f m _ (HV.out.below hb1)).mono ?_
      rintro e w2 ⟨rfl, hbb⟩
      have hb2 := below_trans hb1 hbb
      clear hbb
      generalize Pp.rgt G f m = z at *
      go_wp2_with fail
      refine (putGrant_any G _ f m r _ (HV.out.below hb2) (by omega)).mono ?_
      rintro e w5 ⟨u, rfl, hrow, hb5⟩
      rw [HPG.out] at hrow
      have HLI := ghid (liesG_own hrow (by omega))
      have hb05 := below_trans hb2 hb5
      clear hrow hb5
      go_wp2_with fail
      refine (rOwned_any _ _ f _ HLI.out).mono ?_
      rintro e w6 ⟨rfl, hb6⟩
      rw [HA.out]
      have hb06 := below_trans hb05 hb6
      have HLI6 := ghid (HLI.out.below hb6)
      obtain ⟨a, cap, hu, hcap, hcap2, _⟩ := HLI.out
      subst hu
      have h60 : ¬ 60 < ((Pp.pgN ⟨f, m, r⟩ G).length : Int) := by omega
      go_wp2
      go_ret2
      exact ⟨_, by rw [HE.out]; rfl, fun _ => HLI6.out, hb06⟩
end Go.Proofs.Ytgjiicnhedekjaa
