/- What the law GrantGives answers: true, for every list of grants, three texts and a number. -/
import Derived.Test.YtgjiicnhedekjaaG21
set_option linter.unusedSimpArgs false
set_option linter.unusedVariables false
namespace Go.Proofs.Ytgjiicnhedekjaa
open Go.RowKit

set_option maxRecDepth 100000 in
set_option maxHeartbeats 2000000 in
theorem grantGives_walk (G : List Gr) (v : Value) (f b m : ByteArray) (r : Int) (w : World) (hv : LiesG w v G) (hs : SizedG G) (hf : f.size ≤ 150000000000000) (hb : b.size ≤ 150000000000000) (hm : m.size ≤ 150000000000000) :
    Calls Try.prog 3 #[v, .string f, .string b, .string m, .int .i64 r] w fun e w' => e = .returned (.bool true) ∧ Below w.heap.size w w' := by
  have HV := ghid hv
  have HS := ghid hs
  clear hv hs
  have HL : Hid (Pp.giL G f b m r = if Pp.giE G f b m r = 0 then Pp.pgN ⟨f, m, r⟩ G else []) := (rfl : Pp.giL G f b m r = if Pp.giE G f b m r = 0 then Pp.pgN ⟨f, m, r⟩ G else [])
  by_cases hg0 : Pp.gchE G = 0
  · have HE : Hid (Pp.giE G f b m r = Pp.gvE G f b m r) := (if_pos hg0 : Pp.giE G f b m r = Pp.gvE G f b m r)
    have H0 := ghid hg0
    clear hg0
    go_enter Try.func3, Try.ntmps3
    go_wp2_with fail
    refine (give_any G _ f b m r _ HV.out HS.out hf hb hm).mono ?_
    rintro e w1 ⟨u, rfl, hli, hb1⟩
    rw [HL.out] at hli
    rw [HE.out] at hli ⊢
    have HU := ghid hli
    clear hli
    go_wp2_with fail
    refine (rCheckGrants_any G _ _ (HV.out.below hb1) HS.out).mono ?_
    rintro e w2 ⟨rfl, hb2⟩
    rw [H0.out]
    have hb02 := below_trans hb1 hb2
    have HU2 := ghid (HU.out.below hb2)
    clear hb1 hb2 HU
    go_wp2_with fail
    refine (giveOf_any G _ f b m r _ (HV.out.below hb02) hf hb hm H0.out).mono ?_
    rintro e w3 ⟨u3, rfl, hli3, hb3⟩
    have H3 := ghid hli3
    have hb03 := below_trans hb02 hb3
    have HU3 := ghid (HU2.out.below hb3)
    clear hli3 hb3 hb02 HU2
    go_wp2_with fail
    refine (grantBegun_yes _).mono ?_
    rintro e w4 ⟨rfl, hb4⟩
    have hb04 := below_trans hb03 hb4
    go_wp2_with fail
    refine (grantsAre_yes (Pp.pgN ⟨f, m, r⟩ G) _ _ _ _ (HU3.out.below hb4) (fun h => (H3.out h).below hb4)).mono ?_
    rintro e w5 ⟨rfl, hb5⟩
    go_wp2
    go_ret
    exact ⟨rfl, below_trans hb04 hb5⟩
  · have HE : Hid (Pp.giE G f b m r = Pp.gchE G) := (if_neg hg0 : Pp.giE G f b m r = Pp.gchE G)
    have hz : (Pp.gchE G == 0) = false := by simpa using hg0
    have H0 := ghid hg0
    clear hg0
    go_enter Try.func3, Try.ntmps3
    go_wp2_with fail
    refine (give_any G _ f b m r _ HV.out HS.out hf hb hm).mono ?_
    rintro e w1 ⟨u, rfl, hli, hb1⟩
    rw [HL.out] at hli
    rw [HE.out] at hli ⊢
    have HU := ghid hli
    clear hli
    go_wp2_with fail
    refine (rCheckGrants_any G _ _ (HV.out.below hb1) HS.out).mono ?_
    rintro e w2 ⟨rfl, hb2⟩
    have hb02 := below_trans hb1 hb2
    have HU2 := ghid (HU.out.below hb2)
    clear hb1 hb2 HU
    go_wp2_with fail
    refine (grantBegun_yes _).mono ?_
    rintro e w4 ⟨rfl, hb4⟩
    have hb04 := below_trans hb02 hb4
    go_wp2_with fail
    refine (grantsAre_yes (Pp.pgN ⟨f, m, r⟩ G) _ _ _ _ (HU2.out.below hb4) (fun h => absurd h H0.out)).mono ?_
    rintro e w5 ⟨rfl, hb5⟩
    go_wp2
    go_ret
    exact ⟨rfl, below_trans hb04 hb5⟩
end Go.Proofs.Ytgjiicnhedekjaa
