/- What the law GrantChecks answers: true, for every list of grants. -/
import Derived.Test.YtgbokcmmknabcafG13
set_option linter.unusedSimpArgs false
set_option linter.unusedVariables false
namespace Go.Proofs.Ytgbokcmmknabcaf
open Go.RowKit

set_option maxRecDepth 100000 in
set_option maxHeartbeats 1000000 in
theorem grantChecks_walk (G : List Gr) (v : Value) (w : World) (hv : LiesG w v G) (hs : SizedG G) :
    Calls Try.prog 4 #[v] w fun e w' => e = .returned (.bool true) ∧ Below w.heap.size w w' := by
  have HV := ghid hv
  have HS := ghid hs
  clear hv hs
  go_enter Try.func4, Try.ntmps4
  go_wp2_with fail
  refine (grantBegun_yes _).mono ?_
  rintro e w1 ⟨rfl, hb1⟩
  go_wp2_with fail
  refine (gcheck_any G _ _ (HV.out.below hb1) HS.out).mono ?_
  rintro e w2 ⟨rfl, hb2⟩
  have hb02 := below_trans hb1 hb2
  clear hb1 hb2
  go_wp2_with fail
  refine (rCheckGrants_any G _ _ (HV.out.below hb02) HS.out).mono ?_
  rintro e w3 ⟨rfl, hb3⟩
  have hb03 := below_trans hb02 hb3
  clear hb02 hb3
  generalize Pp.gchE G = y at *
  go_wp2
  go_ret
  exact ⟨rfl, hb03⟩
end Go.Proofs.Ytgbokcmmknabcaf
