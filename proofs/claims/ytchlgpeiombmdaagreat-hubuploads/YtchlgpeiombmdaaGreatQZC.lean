/- What grant.Give answers, errors too, for every list of grants. What the server's give does. What the server's number answers to requests that give a right. What Serve answers to requests that it denies, for a page, and that give a right. What Serve answers to requests about uploads. slices.Insert of a folder ahead of others: where there is room, and where there is none. -/
import Derived.Test.YtchlgpeiombmdaaGreatQZB
import Derived.Test.YtchlgpeiombmdaaGreatQS
import Derived.Test.YtchlgpeiombmdaaGreatQT
import Derived.Test.YtchlgpeiombmdaaGreatQU
import Derived.Test.YtchlgpeiombmdaaGreatQZA
import Derived.Laws.CopyOwn
import Derived.Lib.Overlaps
import Derived.Lib.AppendZerosOnto
import Derived.Laws.NewBlocks
import Derived.Laws.Externs
import Derived.Deep.RegionLaw
import Derived.Deep.DeepCutAuto
import Derived.WalkKit
set_option linter.unusedSimpArgs false
set_option linter.unusedVariables false
namespace Go.Proofs.YtchlgpeiombmdaaGreat
open Go.RowKit

namespace Pp
/-- Give, of grants that pass Check. -/
def gvE (G : List Gr) (f b m : ByteArray) (r : Int) : Int :=
 if nmsE [f, b, m] = 0 then (if r < 0 ∨ 3 < r then 3 else if gvgE G b ⟨f, m, r⟩ = 0 then (if (pgN ⟨f, m, r⟩ G).any (ownF f) = true then (if 60 < (pgN ⟨f, m, r⟩ G).length then 2 else 0) else 4) else gvgE G b ⟨f, m, r⟩) else 1
theorem gv_cases (G : List Gr) (f b m : ByteArray) (r : Int) :
    (nmsE [f, b, m] = 1 ∧ gvE G f b m r = 1) ∨ (nmsE [f, b, m] = 0 ∧ r < 0 ∧ gvE G f b m r = 3) ∨ (nmsE [f, b, m] = 0 ∧ 0 ≤ r ∧ 3 < r ∧ gvE G f b m r = 3) ∨
    (nmsE [f, b, m] = 0 ∧ 0 ≤ r ∧ r ≤ 3 ∧ ¬ gvgE G b ⟨f, m, r⟩ = 0 ∧ gvE G f b m r = gvgE G b ⟨f, m, r⟩) ∨
    (nmsE [f, b, m] = 0 ∧ 0 ≤ r ∧ r ≤ 3 ∧ gvgE G b ⟨f, m, r⟩ = 0 ∧ (pgN ⟨f, m, r⟩ G).any (ownF f) = false ∧ gvE G f b m r = 4) ∨
    (nmsE [f, b, m] = 0 ∧ 0 ≤ r ∧ r ≤ 3 ∧ gvgE G b ⟨f, m, r⟩ = 0 ∧ (pgN ⟨f, m, r⟩ G).any (ownF f) = true ∧ 60 < (pgN ⟨f, m, r⟩ G).length ∧ gvE G f b m r = 2) ∨
    (nmsE [f, b, m] = 0 ∧ 0 ≤ r ∧ r ≤ 3 ∧ gvgE G b ⟨f, m, r⟩ = 0 ∧ (pgN ⟨f, m, r⟩ G).any (ownF f) = true ∧ (pgN ⟨f, m, r⟩ G).length ≤ 60 ∧ gvE G f b m r = 0) := by
 rcases nms_cases [f, b, m] with h | h
 · right
   have e1 : gvE G f b m r = (if r < 0 ∨ 3 < r then 3 else if gvgE G b ⟨f, m, r⟩ = 0 then (if (pgN ⟨f, m, r⟩ G).any (ownF f) = true then (if 60 < (pgN ⟨f, m, r⟩ G).length then 2 else 0) else 4) else gvgE G b ⟨f, m, r⟩) := if_pos h
   by_cases h1 : r < 0
   · left; exact ⟨h, h1, by rw [e1, if_pos (Or.inl h1)]⟩
   · right
     by_cases h2 : 3 < r
     · left; exact ⟨h, by omega, h2, by rw [e1, if_pos (Or.inr h2)]⟩
     · right
       rw [if_neg (by omega)] at e1
       by_cases h3 : gvgE G b ⟨f, m, r⟩ = 0
       · right
         rw [if_pos h3] at e1
         cases h4 : (pgN ⟨f, m, r⟩ G).any (ownF f) with
         | false => left; exact ⟨h, by omega, by omega, h3, rfl, by rw [e1, h4]; rfl⟩
         | true =>
          right
          rw [h4, if_pos rfl] at e1
          by_cases h5 : 60 < (pgN ⟨f, m, r⟩ G).length
          · left; exact ⟨h, by omega, by omega, h3, rfl, h5, by rw [e1, if_pos h5]⟩
          · right; exact ⟨h, by omega, by omega, h3, rfl, by omega, by rw [e1, if_neg h5]⟩
       · left; exact ⟨h, by omega, by omega, h3, by rw [e1, if_neg h3]⟩
 · left; exact ⟨h, by rw [gvE, if_neg (by rw [h]; decide)]⟩
def giE (G : List Gr) (f b m : ByteArray) (r : Int) : Int := if gchE G = 0 then gvE G f b m r else gchE G
def giL (G : List Gr) (f b m : ByteArray) (r : Int) : List Gr := if giE G f b m r = 0 then pgN ⟨f, m, r⟩ G else []
theorem giL_no {G : List Gr} {f b m : ByteArray} {r : Int} (h : ¬ giE G f b m r = 0) : giL G f b m r = [] := if_neg h
theorem giL_yes {G : List Gr} {f b m : ByteArray} {r : Int} (h : giE G f b m r = 0) : giL G f b m r = pgN ⟨f, m, r⟩ G := if_pos h
end Pp

set_option maxRecDepth 100000 in
set_option maxHeartbeats 4000000 in
theorem give_any (G : List Gr) (v : Value) (f b m : ByteArray) (r : Int) (w : World) (hv : LiesG w v G) (hs : SizedG G) (hf : f.size ≤ 150000000000000) (hb : b.size ≤ 150000000000000) (hm : m.size ≤ 150000000000000) :
    Calls Tryz.prog 27 #[v, .string f, .string b, .string m, .int .i64 r] w fun e w' => ∃ u, e = .returned (.tuple #[u, .int .i64 (Pp.giE G f b m r)]) ∧ (LiesG w' u (Pp.giL G f b m r) ∧ Fr w.heap.size u) ∧ Below w.heap.size w w' := by
 have HV := ghid hv
 have HS := ghid hs
 clear hv hs
 have hsz : ∀ i (hi : i < [f, b, m].length), ([f, b, m][i]).size ≤ 1000000000000000 := fun i hi => by match i, hi with | 0, _ => exact Nat.le_trans hf (by decide) | 1, _ => exact Nat.le_trans hb (by decide) | 2, _ => exact Nat.le_trans hm (by decide)
 have HSZ := ghid hsz
 clear hsz hf hb hm
 by_cases hg0 : Pp.gchE G = 0
 case neg =>
  have eE : Pp.giE G f b m r = Pp.gchE G := if_neg hg0
  have eC : Pp.calE G [f, b, m] = Pp.gchE G := if_neg hg0
  have HL : Hid (Pp.giL G f b m r = []) := Pp.giL_no (by rw [eE]; exact hg0)
  have HE := ghid eE
  have HC := ghid eC
  have hz : (Pp.gchE G == 0) = false := by simpa using hg0
  clear eE eC hg0
  go_enter Tryz.func27, Tryz.ntmps27
  go_wp2_with fail
  refine (gcheckAll_any G _ [f, b, m] w.heap.size 3 _ (HV.out.below ((Below.refl _ _).alloc (Nat.le_refl _) _)) HS.out (by simp) HSZ.out (by simp) (fun i hi => by match i, hi with | 0, _ => simp | 1, _ => simp | 2, _ => simp)).mono ?_
  rintro e w1 ⟨rfl, hb1⟩
  rw [HC.out]
  have hb01 : Below w.heap.size w w1 := ((Below.refl _ _).alloc (Nat.le_refl _) _).trans (hb1.mono (by simp))
  clear hb1
  generalize hy : Pp.gchE G = y at *
  go_wp2
  go_ret2
  exact ⟨_, by rw [HE.out]; rfl, by rw [HL.out]; exact ⟨liesG_nil _, fr_nil _⟩, hb01⟩
 case pos =>
 have eE : Pp.giE G f b m r = Pp.gvE G f b m r := if_pos hg0
 have eC : Pp.calE G [f, b, m] = Pp.nmsE [f, b, m] := if_pos hg0
 obtain ⟨hl60, _, hris, _⟩ := Pp.gch0 hg0
 have HPW := ghid ((Pp.risG_pair G).1 hris)
 have hpl := Pp.pgN_len ⟨f, m, r⟩ G
 clear hris
 rcases Pp.gv_cases G f b m r with ⟨hn, hE⟩ | ⟨hn, h1, hE⟩ | ⟨hn, h1, h2, hE⟩ | ⟨hn, h1, h2, hc, hE⟩ | ⟨hn, h1, h2, hc, ha, hE⟩ | ⟨hn, h1, h2, hc, ha, h6, hE⟩ | ⟨hn, h1, h2, hc, ha, h6, hE⟩
 case inl =>
  have HL : Hid (Pp.giL G f b m r = []) := Pp.giL_no (by rw [eE, hE]; decide)
  have HE := ghid (eE.trans hE)
  have HC := ghid (eC.trans hn)
  clear eE eC hE hn hg0
  go_enter Tryz.func27, Tryz.ntmps27
  go_wp2_with fail
  refine (gcheckAll_any G _ [f, b, m] w.heap.size 3 _ (HV.out.below ((Below.refl _ _).alloc (Nat.le_refl _) _)) HS.out (by simp) HSZ.out (by simp) (fun i hi => by match i, hi with | 0, _ => simp | 1, _ => simp | 2, _ => simp)).mono ?_
  rintro e w1 ⟨rfl, hb1⟩
  rw [HC.out]
  have hb01 : Below w.heap.size w w1 := ((Below.refl _ _).alloc (Nat.le_refl _) _).trans (hb1.mono (by simp))
  clear hb1
  go_wp2
  go_ret2
  exact ⟨_, by rw [HE.out]; rfl, by rw [HL.out]; exact ⟨liesG_nil _, fr_nil _⟩, hb01⟩
 case inr.inl =>
  have HL : Hid (Pp.giL G f b m r = []) := Pp.giL_no (by rw [eE, hE]; decide)
  have HE := ghid (eE.trans hE)
  have HC := ghid (eC.trans hn)
  clear eE eC hE hn hg0
  go_enter Tryz.func27, Tryz.ntmps27
  go_wp2_with fail
  refine (gcheckAll_any G _ [f, b, m] w.heap.size 3 _ (HV.out.below ((Below.refl _ _).alloc (Nat.le_refl _) _)) HS.out (by simp) HSZ.out (by simp) (fun i hi => by match i, hi with | 0, _ => simp | 1, _ => simp | 2, _ => simp)).mono ?_
  rintro e w1 ⟨rfl, hb1⟩
  rw [HC.out]
  have hb01 : Below w.heap.size w w1 := ((Below.refl _ _).alloc (Nat.le_refl _) _).trans (hb1.mono (by simp))
  clear hb1
  go_wp2
  go_ret2
  exact ⟨_, by rw [HE.out]; rfl, by rw [HL.out]; exact ⟨liesG_nil _, fr_nil _⟩, hb01⟩
 case inr.inr.inl =>
  have HL : Hid (Pp.giL G f b m r = []) := Pp.giL_no (by rw [eE, hE]; decide)
  have HE := ghid (eE.trans hE)
  have HC := ghid (eC.trans hn)
  clear eE eC hE hn hg0
  go_enter Tryz.func27, Tryz.ntmps27
  go_wp2_with fail
  refine (gcheckAll_any G _ [f, b, m] w.heap.size 3 _ (HV.out.below ((Below.refl _ _).alloc (Nat.le_refl _) _)) HS.out (by simp) HSZ.out (by simp) (fun i hi => by match i, hi with | 0, _ => simp | 1, _ => simp | 2, _ => simp)).mono ?_
  rintro e w1 ⟨rfl, hb1⟩
  rw [HC.out]
  have hb01 : Below w.heap.size w w1 := ((Below.refl _ _).alloc (Nat.le_refl _) _).trans (hb1.mono (by simp))
  clear hb1
  go_wp2
  go_ret2
  exact ⟨_, by rw [HE.out]; rfl, by rw [HL.out]; exact ⟨liesG_nil _, fr_nil _⟩, hb01⟩
 case inr.inr.inr.inl =>
  have HL : Hid (Pp.giL G f b m r = []) := Pp.giL_no (by rw [eE, hE]; exact hc)
  have HE := ghid (eE.trans hE)
  have HC := ghid (eC.trans hn)
  have hz : (Pp.gvgE G b ⟨f, m, r⟩ == 0) = false := by simpa using hc
  clear eE eC hE hn hg0 hc
  go_enter Tryz.func27, Tryz.ntmps27
  go_wp2_with fail
  refine (gcheckAll_any G _ [f, b, m] w.heap.size 3 _ (HV.out.below ((Below.refl _ _).alloc (Nat.le_refl _) _)) HS.out (by simp) HSZ.out (by simp) (fun i hi => by match i, hi with | 0, _ => simp | 1, _ => simp | 2, _ => simp)).mono ?_
  rintro e w1 ⟨rfl, hb1⟩
  rw [HC.out]
  have hb01 : Below w.heap.size w w1 := ((Below.refl _ _).alloc (Nat.le_refl _) _).trans (hb1.mono (by simp))
  clear hb1
  go_wp2_with fail
  refine (checkGive_any G _ b ⟨f, m, r⟩ _ (HV.out.below (by first | exact hb01 | exact hb01.alloc hb01.size _))).mono ?_
  rintro e w2 ⟨rfl, hb2⟩
  obtain ⟨c0, c1, c2, hbw, hlt⟩ := bxG3 hb2
  have hb02 := below_trans hb01 hbw
  clear hb2 hbw hb01
  generalize Pp.gvgE G b ⟨f, m, r⟩ = y at *
  go_wp2
  go_ret2
  exact ⟨_, by rw [HE.out]; rfl, by rw [HL.out]; exact ⟨liesG_nil _, fr_nil _⟩, hb02⟩
 case inr.inr.inr.inr.inl =>
  have HL : Hid (Pp.giL G f b m r = []) := Pp.giL_no (by rw [eE, hE]; decide)
  have HE := ghid (eE.trans hE)
  have HC := ghid (eC.trans hn)
  have HG := ghid hc
  have HA := ghid ha
  clear eE eC hE hn hg0 hc ha
  go_enter Tryz.func27, Tryz.ntmps27
  go_wp2_with fail
  refine (gcheckAll_any G _ [f, b, m] w.heap.size 3 _ (HV.out.below ((Below.refl _ _).alloc (Nat.le_refl _) _)) HS.out (by simp) HSZ.out (by simp) (fun i hi => by match i, hi with | 0, _ => simp | 1, _ => simp | 2, _ => simp)).mono ?_
  rintro e w1 ⟨rfl, hb1⟩
  rw [HC.out]
  have hb01 : Below w.heap.size w w1 := ((Below.refl _ _).alloc (Nat.le_refl _) _).trans (hb1.mono (by simp))
  clear hb1
  go_wp2_with fail
  refine (checkGive_any G _ b ⟨f, m, r⟩ _ (HV.out.below (by first | exact hb01 | exact hb01.alloc hb01.size _))).mono ?_
  rintro e w2 ⟨rfl, hb2⟩
  rw [HG.out]
  obtain ⟨c0, c1, c2, hbw, hlt⟩ := bxG3 hb2
  have hb02 := below_trans hb01 hbw
  clear hb2 hbw hb01
  go_wp2_with fail
  refine (gput_any G _ ⟨f, m, r⟩ _ (HV.out.below hb02) (by omega) HPW.out).mono ?_
  rintro e w4 ⟨u, rfl, ⟨hli, hfr⟩, hb4⟩
  have HFR := ghid (hfr.mono hb02.size)
  clear hfr
  have HLI := ghid hli
  have hb04 := below_trans hb02 hb4
  clear hli hb4 hb02 c0 c1 c2
  go_wp2_with fail
  refine (isOwned_any _ _ f _ HLI.out).mono ?_
  rintro e w5 ⟨rfl, hb5⟩
  rw [HA.out]
  have hb05 := below_trans hb04 hb5
  clear hb5 hb04
  go_wp2
  go_ret2
  exact ⟨_, by rw [HE.out]; rfl, by rw [HL.out]; exact ⟨liesG_nil _, fr_nil _⟩, hb05⟩
 case inr.inr.inr.inr.inr.inl =>
  have HL : Hid (Pp.giL G f b m r = []) := Pp.giL_no (by rw [eE, hE]; decide)
  have HE := ghid (eE.trans hE)
  have HC := ghid (eC.trans hn)
  have HG := ghid hc
  have HA := ghid ha
  clear eE eC hE hn hg0 hc ha
  go_enter Tryz.func27, Tryz.ntmps27
  go_wp2_with fail
  refine (gcheckAll_any G _ [f, b, m] w.heap.size 3 _ (HV.out.below ((Below.refl _ _).alloc (Nat.le_refl _) _)) HS.out (by simp) HSZ.out (by simp) (fun i hi => by match i, hi with | 0, _ => simp | 1, _ => simp | 2, _ => simp)).mono ?_
  rintro e w1 ⟨rfl, hb1⟩
  rw [HC.out]
  have hb01 : Below w.heap.size w w1 := ((Below.refl _ _).alloc (Nat.le_refl _) _).trans (hb1.mono (by simp))
  clear hb1
  go_wp2_with fail
  refine (checkGive_any G _ b ⟨f, m, r⟩ _ (HV.out.below (by first | exact hb01 | exact hb01.alloc hb01.size _))).mono ?_
  rintro e w2 ⟨rfl, hb2⟩
  rw [HG.out]
  obtain ⟨c0, c1, c2, hbw, hlt⟩ := bxG3 hb2
  have hb02 := below_trans hb01 hbw
  clear hb2 hbw hb01
  go_wp2_with fail
  refine (gput_any G _ ⟨f, m, r⟩ _ (HV.out.below hb02) (by omega) HPW.out).mono ?_
  rintro e w4 ⟨u, rfl, ⟨hli, hfr⟩, hb4⟩
  have HFR := ghid (hfr.mono hb02.size)
  clear hfr
  have HLI := ghid hli
  have hb04 := below_trans hb02 hb4
  clear hli hb4 hb02 c0 c1 c2
  go_wp2_with fail
  refine (isOwned_any _ _ f _ HLI.out).mono ?_
  rintro e w5 ⟨rfl, hb5⟩
  rw [HA.out]
  have hb05 := below_trans hb04 hb5
  have HLI5 := ghid (HLI.out.below hb5)
  clear hb5 hb04 HLI
  go_wp2_with fail
  refine (bounded_no _ _ _ HLI5.out h6).mono ?_
  rintro e w6 ⟨rfl, hw⟩
  rw [hw]
  clear hw w6
  go_wp2
  go_ret2
  exact ⟨_, by rw [HE.out]; rfl, by rw [HL.out]; exact ⟨liesG_nil _, fr_nil _⟩, hb05⟩
 case inr.inr.inr.inr.inr.inr =>
  have HL : Hid (Pp.giL G f b m r = Pp.pgN ⟨f, m, r⟩ G) := Pp.giL_yes (eE.trans hE)
  have HE := ghid (eE.trans hE)
  have HC := ghid (eC.trans hn)
  have HG := ghid hc
  have HA := ghid ha
  clear eE eC hE hn hg0 hc ha
  go_enter Tryz.func27, Tryz.ntmps27
  go_wp2_with fail
  refine (gcheckAll_any G _ [f, b, m] w.heap.size 3 _ (HV.out.below ((Below.refl _ _).alloc (Nat.le_refl _) _)) HS.out (by simp) HSZ.out (by simp) (fun i hi => by match i, hi with | 0, _ => simp | 1, _ => simp | 2, _ => simp)).mono ?_
  rintro e w1 ⟨rfl, hb1⟩
  rw [HC.out]
  have hb01 : Below w.heap.size w w1 := ((Below.refl _ _).alloc (Nat.le_refl _) _).trans (hb1.mono (by simp))
  clear hb1
  go_wp2_with fail
  refine (checkGive_any G _ b ⟨f, m, r⟩ _ (HV.out.below (by first | exact hb01 | exact hb01.alloc hb01.size _))).mono ?_
  rintro e w2 ⟨rfl, hb2⟩
  rw [HG.out]
  obtain ⟨c0, c1, c2, hbw, hlt⟩ := bxG3 hb2
  have hb02 := below_trans hb01 hbw
  clear hb2 hbw hb01
  go_wp2_with fail
  refine (gput_any G _ ⟨f, m, r⟩ _ (HV.out.below hb02) (by omega) HPW.out).mono ?_
  rintro e w4 ⟨u, rfl, ⟨hli, hfr⟩, hb4⟩
  have HFR := ghid (hfr.mono hb02.size)
  clear hfr
  have HLI := ghid hli
  have hb04 := below_trans hb02 hb4
  clear hli hb4 hb02 c0 c1 c2
  go_wp2_with fail
  refine (isOwned_any _ _ f _ HLI.out).mono ?_
  rintro e w5 ⟨rfl, hb5⟩
  rw [HA.out]
  have hb05 := below_trans hb04 hb5
  have HLI5 := ghid (HLI.out.below hb5)
  clear hb5 hb04 HLI
  go_wp2_with fail
  refine (bounded_ok _ _ _ HLI5.out h6).mono ?_
  rintro e w6 ⟨rfl, hw⟩
  rw [hw]
  clear hw w6
  go_wp2
  go_ret2
  exact ⟨_, by rw [HE.out]; rfl, by rw [HL.out]; exact ⟨HLI5.out, HFR.out⟩, hb05⟩
end Go.Proofs.YtchlgpeiombmdaaGreat
set_option linter.unusedSimpArgs false
set_option linter.unusedVariables false
namespace Go.Proofs.YtchlgpeiombmdaaGreat
open Go.RowKit

set_option maxRecDepth 100000 in
set_option maxHeartbeats 4000000 in
theorem sgive_any (H : Hb) (q : Rq) (vq : Value) (g mb : Nat) (w : World) (hsv : SvL w g mb H) (hs : SizedG H.gs) (hq : LiesQ w vq q) (hsq : SizedQ q) :
    Calls Tryz.prog 78 #[.pointer (some ⟨g, 0, none⟩), vq] w fun z w' => z = .returned (.int .i64 (Pp.giE H.gs q.fo q.who q.name q.num)) ∧ SvL w' g mb (Hu.gsH H (Pp.giE H.gs q.fo q.who q.name q.num) (Pp.giL H.gs q.fo q.who q.name q.num)) ∧ w.grownBy w' (some g) := by
 have HSG := hid hs
 have HSQ := hid hsq
 clear hs hsq
 obtain ⟨va, rfl, lq⟩ := hq
 have HLQ := hid lq
 obtain ⟨qa, qc, rfl, _⟩ := lq
 obtain ⟨kind, who, fo, name, key, text, num, off, base, ch⟩ := q
 simp only at *
 obtain ⟨wz, hwz⟩ : ∃ wz, wz = w.alloc (.cells #[.int .i64 kind, .string who, .string fo, .string name, .string key, .string text, .int .i64 num, .int .i64 off, .int .i64 base, .slice qa ch.length qc] 31) := ⟨_, rfl⟩
 have hbz : Below w.heap.size w wz := by rw [hwz]; exact (Below.refl _ _).alloc (Nat.le_refl _) _
 have HQX : Hid (Cs wz w.heap.size [.int .i64 kind, .string who, .string fo, .string name, .string key, .string text, .int .i64 num, .int .i64 off, .int .i64 base, .slice qa ch.length qc]) := (by rw [hwz]; exact Cs.new w [.int .i64 kind, .string who, .string fo, .string name, .string key, .string text, .int .i64 num, .int .i64 off, .int .i64 base, .slice qa ch.length qc] _ : Cs wz w.heap.size _)
 obtain ⟨fos, gs, ss, nx, la, ro, now⟩ := H
 obtain ⟨fa, fc, ga, gc, sa, sc, hC, hF, hG, hS⟩ := hsv.shape
 simp only at *
 have HC := hid hC
 have HF := hid hF
 have HG := hid hG
 have HS := hid hS
 have hgl := hC.lt
 have HCz := hid (HC.out.below hbz)
 have HGz := hid (HG.out.below hbz)
 have hgz : g < wz.heap.size := Nat.lt_of_lt_of_le hgl hbz.size
 have hqz := HQX.out.lt
 clear hsv hF hG hS hC
 have p1 := HCz.out.cell 1 rfl
 have x2 := HQX.out.cell 2 rfl
 have x1 := HQX.out.cell 1 rfl
 have x3 := HQX.out.cell 3 rfl
 have x6 := HQX.out.cell 6 rfl
 obtain ⟨E, hE⟩ : ∃ E, E = Pp.giE gs fo who name num := ⟨_, rfl⟩
 obtain ⟨L, hL⟩ : ∃ L, L = Pp.giL gs fo who name num := ⟨_, rfl⟩
 rw [← hE, ← hL]
 have HE := hid hE
 have HL := hid hL
 clear hE hL
 go_enter Tryz.func78, Tryz.ntmps78
 go_upto_region 1 with fail
 rw [← hwz]
 clear hwz
 go_region_held3 (fun W => W.cell? ⟨g, 1, none⟩ = some (.slice ga gs.length gc) ∧ W.cell? ⟨w.heap.size, 2, none⟩ = some (.string fo) ∧ W.cell? ⟨w.heap.size, 1, none⟩ = some (.string who) ∧ W.cell? ⟨w.heap.size, 3, none⟩ = some (.string name) ∧ W.cell? ⟨w.heap.size, 6, none⟩ = some (.int .i64 num)) (go_keep) (first
  | (go_at_call 27; refine (give_any gs _ fo who name num _ (HGz.out.below (Below.refl _ _).drew) HSG.out HSQ.out.fo HSQ.out.who HSQ.out.name).mono ?_; rw [← HE.out, ← HL.out]; rintro e wa ⟨u, rfl, ⟨hlu, _⟩, hba⟩; have hya : Below wz.heap.size wz wa := ((Below.refl _ _).drew).trans hba; have j0 := (hya.cell (p := ⟨g, 1, none⟩) hgz).trans p1; have j1 := (hya.cell (p := ⟨w.heap.size, 2, none⟩) hqz).trans x2; have j2 := (hya.cell (p := ⟨w.heap.size, 1, none⟩) hqz).trans x1; have j3 := (hya.cell (p := ⟨w.heap.size, 3, none⟩) hqz).trans x3; have j4 := (hya.cell (p := ⟨w.heap.size, 6, none⟩) hqz).trans x6))
 have HLU := hid hlu
 obtain ⟨ua, uc, rfl, _⟩ := hlu
 have hb0a := below_tr hbz hya
 have HCa := hid (HC.out.below hb0a)
 clear p1 x1 x2 x3 x6 j0 j1 j2 j3 j4
 by_cases he : E = 0
 · subst he
   obtain ⟨w2, hw2⟩ : ∃ w2, w2 = wa.setCell ⟨g, 1, none⟩ (.slice ua L.length uc) := ⟨_, rfl⟩
   have hg2 : wa.grownBy w2 (some g) := by rw [hw2]; exact nb_set _ _ _ _
   have HC2 : Hid (Cs w2 g [.slice fa fos.length fc, .slice ua L.length uc, .slice sa ss.length sc, .int .i64 nx, .int .i64 la, .int .i64 ro, .int .i64 now, .map (some mb)]) := (by rw [hw2]; exact HCa.out.set 1 _ : Cs w2 g _)
   have HNS := hid (noStr_sv HCa.out)
   have HR := hid (show SvL w2 g mb ⟨fos, L, ss, nx, la, ro, now⟩ from ⟨_, _, _, HC2.out, (HF.out.below hb0a).nb hg2 HNS.out, HLU.out.nb hg2 HNS.out, (HS.out.below hb0a).nb hg2 HNS.out⟩)
   have hg0 : w.grownBy w2 (some g) := Nb.trans (Nb.below g hb0a) hg2
   have p1 := HCa.out.cell 1 rfl
   have f1 := HCa.out.fr 1
   go_wp2_with fail
   rw [← hw2]
   go_ret
   exact ⟨rfl, by rw [Hu.gsH, if_pos rfl]; exact HR.out, hg0⟩
 · have hz : (E == 0) = false := by simpa using he
   have HNE := hid he
   have HR := hid (show SvL wa g mb ⟨fos, gs, ss, nx, la, ro, now⟩ from ⟨_, _, _, HCa.out, HF.out.below hb0a, HG.out.below hb0a, HS.out.below hb0a⟩)
   clear he
   go_wp2_with fail
   go_ret
   exact ⟨rfl, by rw [Hu.gsH, if_neg HNE.out]; exact HR.out, Nb.below g hb0a⟩
end Go.Proofs.YtchlgpeiombmdaaGreat
set_option linter.unusedSimpArgs false
set_option linter.unusedVariables false
namespace Go.Proofs.YtchlgpeiombmdaaGreat
open Go.RowKit

set_option maxRecDepth 100000 in
set_option maxHeartbeats 4000000 in
theorem snum_give (H : Hb) (q : Rq) (vq vf : Value) (g mb : Nat) (w : World) (hsv : SvL w g mb H) (hs : SizedG H.gs) (hq : LiesQ w vq q) (hsq : SizedQ q) (hk : q.kind = 3) :
    Calls Tryz.prog 42 #[.pointer (some ⟨g, 0, none⟩), vq] w fun z w' => z = .returned (.tuple #[.int .i64 0, .int .i64 (Pp.giE H.gs q.fo q.who q.name q.num)]) ∧ SvL w' g mb (Hu.gsH H (Pp.giE H.gs q.fo q.who q.name q.num) (Pp.giL H.gs q.fo q.who q.name q.num)) ∧ Nb2 w w' g (bo vf g) := by
 have HSG := hid hs
 clear hs
 have HSV := hid hsv
 have HSQ := hid hsq
 clear hsv hsq
 obtain ⟨va, rfl, lq⟩ := hq
 have HLQ := hid lq
 obtain ⟨qa, qc, rfl, _⟩ := lq
 obtain ⟨kind, who, fo, name, key, text, num, off, base, ch⟩ := q
 simp only at *
 obtain ⟨wz, hwz⟩ : ∃ wz, wz = w.alloc (.cells #[.int .i64 kind, .string who, .string fo, .string name, .string key, .string text, .int .i64 num, .int .i64 off, .int .i64 base, .slice qa ch.length qc] 31) := ⟨_, rfl⟩
 have hbz : Below w.heap.size w wz := by rw [hwz]; exact (Below.refl _ _).alloc (Nat.le_refl _) _
 have HQX : Hid (Cs wz w.heap.size [.int .i64 kind, .string who, .string fo, .string name, .string key, .string text, .int .i64 num, .int .i64 off, .int .i64 base, .slice qa ch.length qc]) := (by rw [hwz]; exact Cs.new w [.int .i64 kind, .string who, .string fo, .string name, .string key, .string text, .int .i64 num, .int .i64 off, .int .i64 base, .slice qa ch.length qc] _ : Cs wz w.heap.size _)
 subst hk
 have x0 := HQX.out.cell 0 rfl
 have x1 := HQX.out.cell 1 rfl
 have x2 := HQX.out.cell 2 rfl
 have x3 := HQX.out.cell 3 rfl
 have x4 := HQX.out.cell 4 rfl
 have x5 := HQX.out.cell 5 rfl
 have x6 := HQX.out.cell 6 rfl
 have x7 := HQX.out.cell 7 rfl
 have x8 := HQX.out.cell 8 rfl
 have x9 := HQX.out.cell 9 rfl
 have hs01 := hbz.size
 go_enter Tryz.func42, Tryz.ntmps42
 go_upto_region 1 with fail
 rw [← hwz]
 clear hwz
 go_wp2_with fail
 refine (sgive_any H ⟨3, who, fo, name, key, text, num, off, base, ch⟩ _ g mb wz (HSV.out.below hbz) HSG.out ⟨_, rfl, HLQ.out.below hbz⟩ HSQ.out).mono ?_
 rintro z w3 ⟨rfl, hs3, hn3⟩
 have HS3 := hid hs3
 have HN3 := hid (show Nb2 w w3 g (bo vf g) from (Nb2.of_below _ _ hbz).trans (Nb2.of_left _ hn3))
 clear hs3 hn3
 go_wp2_with fail
 go_ret2
 exact ⟨rfl, HS3.out, HN3.out⟩
end Go.Proofs.YtchlgpeiombmdaaGreat
set_option linter.unusedSimpArgs false
set_option linter.unusedVariables false
namespace Go.Proofs.YtchlgpeiombmdaaGreat
open Go.RowKit

theorem serve_err (H : Hb) (q : Rq) (v vq : Value) (w : World) (hv : LiesH w v H) (hs : SizedH H) (hq : LiesQ w vq q) (hsq : SizedQ q) (h0 : Hu.hE H = 0) (hck : ¬ Hu.ckE H.gs q = 0) :
    Calls Tryz.prog 9 #[v, vq] w fun e w' => ∃ u a, e = .returned (.tuple #[u, a, .int .i64 0]) ∧ LiesH w' u H ∧ LiesA w' a ⟨Hu.ckE H.gs q, 0, Jn.zeroP⟩ ∧ Below w.heap.size w w' := by
 refine serve_ok H H _ q v vq w hv hs hq h0 ?_
 intro B W g mb vf vg vs vq hsv hm hgB hBW hq
 exact sanswer_err H q vq vf g mb W hsv.lies hs.gs hq hsq hck
theorem serve_give (H : Hb) (q : Rq) (v vq : Value) (w : World) (hv : LiesH w v H) (hs : SizedH H) (hq : LiesQ w vq q) (hsq : SizedQ q) (h0 : Hu.hE H = 0) (hk : q.kind = 3) (hck : Hu.ckE H.gs q = 0) :
    Calls Tryz.prog 9 #[v, vq] w fun e w' => ∃ u a, e = .returned (.tuple #[u, a, .int .i64 0]) ∧ LiesH w' u (Hu.gsH H (Pp.giE H.gs q.fo q.who q.name q.num) (Pp.giL H.gs q.fo q.who q.name q.num)) ∧ LiesA w' a ⟨Pp.giE H.gs q.fo q.who q.name q.num, 0, Jn.zeroP⟩ ∧ Below w.heap.size w w' := by
 refine serve_ok H _ _ q v vq w hv hs hq h0 ?_
 intro B W g mb vf vg vs vq hsv hm hgB hBW hq
 exact sanswer_num H _ q vq vf g mb 0 _ W hsv.lies hs.gs hq hsq hck (by rw [hk]; decide) (fun W' vq' hW hq' => snum_give H q vq' vf g mb W' (hsv.below hW).lies hs.gs hq' hsq hk) hsv.vlt
theorem serve_page (H : Hb) (q : Rq) (v vq : Value) (w : World) (hv : LiesH w v H) (hs : SizedH H) (hq : LiesQ w vq q) (hsq : SizedQ q) (h0 : Hu.hE H = 0) (hk : q.kind = 2) (hck : Hu.ckE H.gs q = 0) :
    Calls Tryz.prog 9 #[v, vq] w fun e w' => ∃ u a, e = .returned (.tuple #[u, a, .int .i64 0]) ∧ LiesH w' u H ∧ LiesA w' a ⟨Jn.rdE (Hu.joAt H (Hu.whr H.fos H.gs q.fo)) q.num 10, 0, Jn.rdR (Hu.joAt H (Hu.whr H.fos H.gs q.fo)) q.num 10⟩ ∧ Below w.heap.size w w' := by
 have hin : Hu.inG H.gs q.fo = true := Hu.rig_in (h := q.who) (by have := (Hu.ck_parts hck).2.2.2; rw [hk] at this; have e : Hu.lst 2 = 1 := rfl; omega)
 have hi : Hu.whr H.fos H.gs q.fo < H.fos.length := (Hu.whr_at h0 hin).elim (fun h _ => h)
 refine serve_ok H _ _ q v vq w hv hs hq h0 ?_
 intro B W g mb vf vg vs vq hsv hm hgB hBW hq
 exact sanswer_page H q vq vf vg vs B g mb _ W hsv hm hs.fos hs.gs hq hsq hck hk hi
end Go.Proofs.YtchlgpeiombmdaaGreat
set_option linter.unusedSimpArgs false
set_option linter.unusedVariables false
namespace Go.Proofs.YtchlgpeiombmdaaGreat
open Go.RowKit

set_option maxRecDepth 100000 in
set_option maxHeartbeats 4000000 in
theorem snum_finish (H : Hb) (q : Rq) (vq vf vg vs : Value) (B g mb n : Nat) (w : World) (hsv : Sv B w g mb vf vg vs H) (hm : SvM w mb n H) (hgB : g < B) (hBw : B ≤ w.heap.size) (hs : SizedF H.fos) (hss : SizedS H.ss) (hq : LiesQ w vq q) (hsq : SizedQ q) (htx : (Hu.fnU H q.who q.num).tx.size ≤ 150000000000000) (hi : Hu.whr H.fos H.gs q.fo < H.fos.length) (hk : q.kind = 7) :
    Calls Tryz.prog 42 #[.pointer (some ⟨g, 0, none⟩), vq] w fun z w' => z = .returned (.tuple #[.int .i64 (Hu.fnN H q (Hu.fnU H q.who q.num)), .int .i64 (Hu.fnE H q (Hu.fnU H q.who q.num))]) ∧ SvL w' g mb (Hu.fnH H q (Hu.fnU H q.who q.num)) ∧ Nb2 w w' g (bo vf g) := by
 have HSF := hid hs
 have HSS := hid hss
 have HM := hid hm
 have HI := hid hi
 have HTX := hid htx
 have HSV := hid hsv
 have HSQ := hid hsq
 clear hs hm hi htx hss hsv hsq
 obtain ⟨va, rfl, lq⟩ := hq
 have HLQ := hid lq
 obtain ⟨qa, qc, rfl, _⟩ := lq
 obtain ⟨kind, who, fo, name, key, text, num, off, base, ch⟩ := q
 simp only at *
 obtain ⟨wz, hwz⟩ : ∃ wz, wz = w.alloc (.cells #[.int .i64 kind, .string who, .string fo, .string name, .string key, .string text, .int .i64 num, .int .i64 off, .int .i64 base, .slice qa ch.length qc] 31) := ⟨_, rfl⟩
 have hbz : Below w.heap.size w wz := by rw [hwz]; exact (Below.refl _ _).alloc (Nat.le_refl _) _
 have HQX : Hid (Cs wz w.heap.size [.int .i64 kind, .string who, .string fo, .string name, .string key, .string text, .int .i64 num, .int .i64 off, .int .i64 base, .slice qa ch.length qc]) := (by rw [hwz]; exact Cs.new w [.int .i64 kind, .string who, .string fo, .string name, .string key, .string text, .int .i64 num, .int .i64 off, .int .i64 base, .slice qa ch.length qc] _ : Cs wz w.heap.size _)
 subst hk
 have x0 := HQX.out.cell 0 rfl
 have x1 := HQX.out.cell 1 rfl
 have x2 := HQX.out.cell 2 rfl
 have x3 := HQX.out.cell 3 rfl
 have x4 := HQX.out.cell 4 rfl
 have x5 := HQX.out.cell 5 rfl
 have x6 := HQX.out.cell 6 rfl
 have x7 := HQX.out.cell 7 rfl
 have x8 := HQX.out.cell 8 rfl
 have x9 := HQX.out.cell 9 rfl
 have hs01 := hbz.size
 go_enter Tryz.func42, Tryz.ntmps42
 go_upto_region 1 with fail
 rw [← hwz]
 clear hwz
 go_wp2_with fail
 refine (sfinish_any H ⟨7, who, fo, name, key, text, num, off, base, ch⟩ _ vf vg vs B g mb n wz (Hu.fnU H who num) (HSV.out.below hbz) (HM.out.below hbz) hgB (by omega) HSF.out ⟨_, rfl, HLQ.out.below hbz⟩ HSQ.out HTX.out HI.out (fun W v hv => ufinish_all H v who num W HSS.out HSQ.out.who hv)).mono ?_
 rintro z w3 ⟨rfl, hs3, hn3⟩
 have HS3 := hid hs3
 have HN3 := hid (show Nb2 w w3 g (bo vf g) from (Nb2.of_below _ _ hbz).trans hn3)
 clear hs3 hn3
 go_wp2_with fail
 go_ret2
 exact ⟨rfl, HS3.out, HN3.out⟩
namespace Hu
theorem fn_tx {H : Hb} (hs : SizedS H.ss) (p : ByteArray) (n : Int) : (fnU H p n).tx.size ≤ 150000000000000 := by
 rw [fnU]
 split
 · rename_i h0
   obtain ⟨hk, e1, _⟩ := fi_at h0
   rw [e1]
   simp only
   split
   · show (0 : Nat) ≤ _; omega
   · exact (hs _ (List.mem_filter.1 (List.getElem_mem hk)).1).2
 · show (0 : Nat) ≤ _; omega
end Hu
theorem serve_4 (H : Hb) (q : Rq) (v vq : Value) (w : World) (hv : LiesH w v H) (hs : SizedH H) (hq : LiesQ w vq q) (hsq : SizedQ q) (h0 : Hu.hE H = 0) (hk : q.kind = 4) (hck : Hu.ckE H.gs q = 0) :
    Calls Tryz.prog 9 #[v, vq] w fun e w' => ∃ u a, e = .returned (.tuple #[u, a, .int .i64 0]) ∧ LiesH w' u (Hu.upH H (Hu.opU H q.who q.num).e (Hu.opU H q.who q.num).ss (Hu.opU H q.who q.num).nx (Hu.opU H q.who q.num).la (Hu.opU H q.who q.num).ro) ∧ LiesA w' a ⟨(Hu.opU H q.who q.num).e, (Hu.opU H q.who q.num).num, Jn.zeroP⟩ ∧ Below w.heap.size w w' := by
 refine serve_ok H _ _ q v vq w hv hs hq h0 ?_
 intro B W g mb vf vg vs vq hsv hm hgB hBW hq
 exact sanswer_num H _ q vq vf g mb _ _ W hsv.lies hs.gs hq hsq hck (by rw [hk]; decide) (fun W' vq' hW hq' => snum_open H q vq' vf g mb W' _ (hsv.below hW).lies hq' hk (fun W v hv => uopen_all H v q.who q.num W hs.ss hsq.who hv)) hsv.vlt
theorem serve_5 (H : Hb) (q : Rq) (v vq : Value) (w : World) (hv : LiesH w v H) (hs : SizedH H) (hq : LiesQ w vq q) (hsq : SizedQ q) (h0 : Hu.hE H = 0) (hk : q.kind = 5) (hck : Hu.ckE H.gs q = 0) :
    Calls Tryz.prog 9 #[v, vq] w fun e w' => ∃ u a, e = .returned (.tuple #[u, a, .int .i64 0]) ∧ LiesH w' u (Hu.upH H (Hu.apU H q.who q.num q.off q.text).e (Hu.apU H q.who q.num q.off q.text).ss (Hu.apU H q.who q.num q.off q.text).nx (Hu.apU H q.who q.num q.off q.text).la (Hu.apU H q.who q.num q.off q.text).ro) ∧ LiesA w' a ⟨(Hu.apU H q.who q.num q.off q.text).e, (Hu.apU H q.who q.num q.off q.text).num, Jn.zeroP⟩ ∧ Below w.heap.size w w' := by
 refine serve_ok H _ _ q v vq w hv hs hq h0 ?_
 intro B W g mb vf vg vs vq hsv hm hgB hBW hq
 exact sanswer_num H _ q vq vf g mb _ _ W hsv.lies hs.gs hq hsq hck (by rw [hk]; decide) (fun W' vq' hW hq' => snum_append H q vq' vf g mb W' _ (hsv.below hW).lies hq' hk (fun W v hv => uappend_all H v q.who q.num q.off q.text W hs.ss hsq.who hsq.text hv)) hsv.vlt
theorem serve_6 (H : Hb) (q : Rq) (v vq : Value) (w : World) (hv : LiesH w v H) (hs : SizedH H) (hq : LiesQ w vq q) (hsq : SizedQ q) (h0 : Hu.hE H = 0) (hk : q.kind = 6) (hck : Hu.ckE H.gs q = 0) :
    Calls Tryz.prog 9 #[v, vq] w fun e w' => ∃ u a, e = .returned (.tuple #[u, a, .int .i64 0]) ∧ LiesH w' u H ∧ LiesA w' a ⟨Hu.quE H q.who q.num, Hu.quN H q.who q.num, Jn.zeroP⟩ ∧ Below w.heap.size w w' := by
 refine serve_ok H _ _ q v vq w hv hs hq h0 ?_
 intro B W g mb vf vg vs vq hsv hm hgB hBW hq
 exact sanswer_num H _ q vq vf g mb _ _ W hsv.lies hs.gs hq hsq hck (by rw [hk]; decide) (fun W' vq' hW hq' => snum_query H q vq' vf g mb W' _ _ (hsv.below hW).lies hq' hk (fun W v hv => uquery_all H v q.who q.num W hs.ss hsq.who hv)) hsv.vlt
theorem serve_7 (H : Hb) (q : Rq) (v vq : Value) (w : World) (hv : LiesH w v H) (hs : SizedH H) (hq : LiesQ w vq q) (hsq : SizedQ q) (h0 : Hu.hE H = 0) (hk : q.kind = 7) (hck : Hu.ckE H.gs q = 0) :
    Calls Tryz.prog 9 #[v, vq] w fun e w' => ∃ u a, e = .returned (.tuple #[u, a, .int .i64 0]) ∧ LiesH w' u (Hu.fnH H q (Hu.fnU H q.who q.num)) ∧ LiesA w' a ⟨Hu.fnE H q (Hu.fnU H q.who q.num), Hu.fnN H q (Hu.fnU H q.who q.num), Jn.zeroP⟩ ∧ Below w.heap.size w w' := by
 have hin : Hu.inG H.gs q.fo = true := Hu.rig_in (h := q.who) (by have := (Hu.ck_parts hck).2.2.2; rw [hk] at this; have e : Hu.lst 7 = 2 := rfl; omega)
 have hi : Hu.whr H.fos H.gs q.fo < H.fos.length := (Hu.whr_at h0 hin).elim (fun h _ => h)
 refine serve_ok H _ _ q v vq w hv hs hq h0 ?_
 intro B W g mb vf vg vs vq hsv hm hgB hBW hq
 exact sanswer_num H _ q vq vf g mb _ _ W hsv.lies hs.gs hq hsq hck (by rw [hk]; decide) (fun W' vq' hW hq' => snum_finish H q vq' vf vg vs B g mb _ W' (hsv.below hW) (hm.below hW) hgB (Nat.le_trans hBW hW.size) hs.fos hs.ss hq' hsq (Hu.fn_tx hs.ss _ _) hi hk) hsv.vlt
end Go.Proofs.YtchlgpeiombmdaaGreat
set_option linter.unusedSimpArgs false
set_option linter.unusedVariables false
namespace Go.Proofs.YtchlgpeiombmdaaGreat
open Go.RowKit

/-- copy of rows, each element of k cells, into a row that is known whole. -/
theorem copy_rows {P : Program} (w : World) (dT sT ty elem : TypeId) (k g o dLen dCap : Nat) (a : Addr) (sLen sCap : Nat) (cur : List Value) (t : TypeId) (cs : List Value)
    (hu : P.underlying dT = some (.slice elem)) (hs : (P.info? elem).map (·.size) = some k) (hg : w.heap[g]? = some (.cells cur.toArray t (0, 0))) (hn : cs.length = Nat.min sLen dLen * k)
    (hsrc : ∀ j v, cs[j]? = some v → w.cell? (a.add j) = some v) (hfit : o + cs.length ≤ cur.length) (h1 : ∀ v ∈ cs, v.oneCell' = true) :
    (Builtin.copy_ #[dT, sT] ty #[.slice (some ⟨g, o, none⟩) dLen dCap, .slice (some a) sLen sCap]).run P w = .ok (goInt (Nat.min sLen dLen : Nat)) (w.setRow g (splice cur o cs).toArray) := by
 have hl := run_firstCells_some (P := P) w k (Nat.min sLen dLen) a sLen sCap cs hn hsrc
 have hst := run_storeCells_at P g o t cs 0 cur.toArray w hg (by simpa using hfit) h1
 simp only [Nat.add_zero, List.append_assoc] at hst
 cases hq : P.info? elem with
 | none => simp [hq] at hs
 | some i =>
  have hi : i.size = k := by simpa [hq] using hs
  subst hi
  have hst' : (storeCells ⟨g, o, none⟩ cs 0).run P w = .ok () (w.setRow g (splice cur o cs).toArray) := hst
  simp [Builtin.copy_, run_underlying hu, Builtin.lenOf, Go.sizeOf, typeInfo, hq, hl, hst']
theorem wpList_copy_rows {P : Program} {w : World} {ops : Array Oper} {rest : List Oper} {o : Oper} {a : Act} {Q : Exit → Act → World → Prop} (hgd : o.guard = none) (d s : Operand) (dT sT : TypeId)
    (ho : o.op = .call { callee := .builtin .copy, args := #[d, s], argTypes := #[dT, sT] }) (v u : Value) (hd : a.eval d = v) (hs : a.eval s = u) {v' : Value} {w' : World}
    (hr : (Builtin.copy_ #[dT, sT] o.type #[v, u]).run P w = .ok v' w') (h : wpList P ops Q rest (a.put o.dst v') w') : wpList P ops Q (o :: rest) a w := by
 refine wpList_plain hgd fun K hK => ?_
 unfold Oper.wp
 simp [execOp, ho, resolve, invoke, builtin, hd, hs, hr, Result.andThen]
 exact hK _ _ h
theorem step_copy_rows {P : Program} {ops : Array Oper} {o : Oper} {a : Act} {w : World} {K : Act → World → Prop} {Q : Exit → Act → World → Prop} {E : Prop} (hgd : o.guard = none) (d s : Operand) (dT sT : TypeId)
    (ho : o.op = .call { callee := .builtin .copy, args := #[d, s], argTypes := #[dT, sT] }) (v u : Value) (hd : a.eval d = v) (hs : a.eval s = u) {v' : Value} {w' : World}
    (hr : (Builtin.copy_ #[dT, sT] o.type #[v, u]).run P w = .ok v' w') (hK : K (a.put o.dst v') w') :
    if Region.wanted o (yielded ops a.tmps) = true then Oper.wp P o a w K Q else E := by
 have hw : Region.wanted o (yielded ops a.tmps) = true := by simp [Region.wanted, hgd]
 rw [if_pos hw]
 unfold Oper.wp
 simp [execOp, ho, resolve, invoke, builtin, hd, hs, hr, Result.andThen]
 exact hK
theorem wpList_append_eq {P : Program} {w : World} {ops : Array Oper} {rest : List Oper} {o : Oper} {a : Act} {Q : Exit → Act → World → Prop} (hgd : o.guard = none) (d s : Operand) (dT sT : TypeId)
    (ho : o.op = .call { callee := .builtin .append, args := #[d, s], argTypes := #[dT, sT] }) (v u : Value) (hd : a.eval d = v) (hs : a.eval s = u) {v' : Value} {w' : World}
    (hr : (Builtin.append_ #[dT, sT] o.type #[v, u]).run P w = .ok v' w') (h : wpList P ops Q rest (a.put o.dst v') w') : wpList P ops Q (o :: rest) a w := by
 refine wpList_plain hgd fun K hK => ?_
 unfold Oper.wp
 simp [execOp, ho, resolve, invoke, builtin, hd, hs, hr, Result.andThen]
 exact hK _ _ h
namespace Hu
theorem flat_take {R : List (List Value)} {k : Nat} (h : ∀ r ∈ R, r.length = k) : ∀ i, (R.take i).flatten = R.flatten.take (i * k) := by
 induction R with
 | nil => intro i; simp
 | cons r R ih =>
  intro i
  cases i with
  | zero => simp
  | succ i =>
   have hr := h r (List.mem_cons_self ..)
   have e : (i + 1) * k - r.length = i * k := by rw [hr, Nat.succ_mul]; omega
   have t : r.take ((i + 1) * k) = r := List.take_of_length_le (by rw [hr, Nat.succ_mul]; omega)
   rw [List.take_succ_cons, List.flatten_cons, List.flatten_cons, ih (fun x hx => h x (List.mem_cons_of_mem _ hx)) i, List.take_append, t, e]
theorem flat_drop {R : List (List Value)} {k : Nat} (h : ∀ r ∈ R, r.length = k) : ∀ i, (R.drop i).flatten = R.flatten.drop (i * k) := by
 induction R with
 | nil => intro i; simp
 | cons r R ih =>
  intro i
  cases i with
  | zero => simp
  | succ i =>
   have hr := h r (List.mem_cons_self ..)
   have e : (i + 1) * k - r.length = i * k := by rw [hr, Nat.succ_mul]; omega
   have t : r.drop ((i + 1) * k) = [] := List.drop_eq_nil_of_le (by rw [hr, Nat.succ_mul]; omega)
   rw [List.drop_succ_cons, List.flatten_cons, ih (fun x hx => h x (List.mem_cons_of_mem _ hx)) i, List.drop_append, t, e, List.nil_append]
theorem take_app {α : Type} {X Y : List α} {n : Nat} (h : X.length ≤ n) : (X ++ Y).take n = X ++ Y.take (n - X.length) := by rw [List.take_append, List.take_of_length_le h]
theorem drop_app {α : Type} {X Y : List α} {n : Nat} (h : X.length ≤ n) : (X ++ Y).drop n = Y.drop (n - X.length) := by rw [List.drop_append, List.drop_eq_nil_of_le h, List.nil_append]
theorem len_take {α : Type} {X : List α} {n : Nat} (h : n ≤ X.length) : (X.take n).length = n := by rw [List.length_take, Nat.min_eq_left h]
/-- What stands in the row behind both copies. -/
theorem spl_two {cur X N : List Value} {a : Nat} (hN : N.length = 4) (hX : X.length + 4 ≤ cur.length) (ha : a ≤ X.length) (hc : cur.take X.length = X) :
    (splice (splice cur (a + 4) (X.drop a)) a N).take (X.length + 4) = X.take a ++ (N ++ X.drop a) := by
 have l1 : (X.drop a).length = X.length - a := List.length_drop ..
 have l2 : (cur.take (a + 4)).length = a + 4 := len_take (by omega)
 have l3 : (X.take a).length = a := len_take ha
 have e1 : (splice cur (a + 4) (X.drop a)).take a = X.take a := by
  rw [splice, List.take_append, l2, show a - (a + 4) = 0 by omega, List.take_zero, List.append_nil, List.take_take, Nat.min_eq_left (by omega : a ≤ a + 4)]
  conv => rhs; rw [← hc, List.take_take, Nat.min_eq_left ha]
 have e2 : (splice cur (a + 4) (X.drop a)).drop (a + 4) = X.drop a ++ cur.drop (a + 4 + (X.drop a).length) := by
  rw [splice, drop_app (by rw [l2]; omega), l2, Nat.sub_self, List.drop_zero]
 rw [show splice (splice cur (a + 4) (X.drop a)) a N = X.take a ++ (N ++ (X.drop a ++ cur.drop (a + 4 + (X.drop a).length))) by rw [splice, e1, hN, e2]]
 rw [take_app (by omega), l3, take_app (by omega), hN, take_app (by omega), l1, show X.length + 4 - a - 4 - (X.length - a) = 0 by omega, List.take_zero, List.append_nil]
/-- .. of a new row. -/
theorem spl_new {cur X N : List Value} {a : Nat} (hN : N.length = 4) (hX : X.length + 4 ≤ cur.length) (ha : a ≤ X.length) (hc : cur.take a = X.take a) :
    (splice (splice cur a N) (a + 4) (X.drop a)).take (X.length + 4) = X.take a ++ (N ++ X.drop a) := by
 have l1 : (X.drop a).length = X.length - a := List.length_drop ..
 have l2 : (cur.take a).length = a := len_take (by omega)
 have l3 : (X.take a).length = a := len_take ha
 have l4 : (X.take a ++ N).length = a + 4 := by rw [List.length_append, l3, hN]
 have e1 : (splice cur a N).take (a + 4) = X.take a ++ N := by
  rw [splice, take_app (by rw [l2]; omega), l2, show a + 4 - a = 4 by omega, take_app (by omega), hN, Nat.sub_self, List.take_zero, List.append_nil, hc]
 rw [show splice (splice cur a N) (a + 4) (X.drop a) = (X.take a ++ N) ++ (X.drop a ++ (splice cur a N).drop (a + 4 + (X.drop a).length)) by rw [splice, e1]]
 rw [take_app (by omega), l4, take_app (by omega), l1, show X.length + 4 - (a + 4) - (X.length - a) = 0 by omega, List.take_zero, List.append_nil, List.append_assoc]
end Hu
theorem grown_setRow (w : World) (g : Nat) (cs : Array Value) : w.grownBy (w.setRow g cs) (some g) := ⟨rfl, rfl, rfl, by simp [World.setRow], fun k hk hne => setRow_other w g k cs (fun e => hne (by rw [e]))⟩
end Go.Proofs.YtchlgpeiombmdaaGreat
