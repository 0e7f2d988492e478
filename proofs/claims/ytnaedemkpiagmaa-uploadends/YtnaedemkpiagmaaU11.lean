/- What upload.ends answers, for every two texts and every number. -/
import Derived.Test.YtnaedemkpiagmaaU10
set_option linter.unusedSimpArgs false
set_option linter.unusedVariables false
namespace Go.Proofs.Ytnaedemkpiagmaa
open Go.RowKit

namespace Pp
/-- Is a piece just what a text has from an offset on? -/
def enB (t : ByteArray) (o : Int) (p : ByteArray) : Bool := inR 0 o t.size && ((t.extract o.toNat t.size).toList == p.toList)
end Pp

set_option maxHeartbeats 1000000 in
theorem ends_any (t p : ByteArray) (o : Int) (w : World) (ht : t.size ≤ 150000000000000) :
    Calls Try.prog 25 #[.string t, .int .i64 o, .string p] w fun e w' => e = .returned (.bool (Pp.enB t o p)) ∧ w' = w := by
  cases h1 : Pp.inR 0 o t.size with
  | false =>
    have H1 := ghid h1
    have HE : Hid (false = Pp.enB t o p) := (by rw [Pp.enB, h1]; rfl : false = Pp.enB t o p)
    clear h1
    go_enter Try.func25, Try.ntmps25
    go_wp2_with fail
    refine (isFrom_any 0 o t.size _).mono ?_
    rintro e w1 ⟨rfl, hw⟩
    rw [hw, H1.out]
    clear hw w1
    go_wp2
    go_ret
    exact ⟨Pp.ret_bool HE.out, rfl⟩
  | true =>
    have H1 := ghid h1
    obtain ⟨ho1, ho2⟩ := Pp.inR_yes h1
    obtain ⟨k, rfl⟩ : ∃ k : Nat, o = (k : Int) := ⟨o.toNat, by omega⟩
    have hk : k ≤ t.size := by omega
    have HE : Hid (((t.extract k t.size).toList == p.toList) = Pp.enB t k p) := (by rw [Pp.enB, h1]; rfl : ((t.extract k t.size).toList == p.toList) = Pp.enB t k p)
    clear h1
    go_enter Try.func25, Try.ntmps25
    go_wp2_with fail
    refine (isFrom_any 0 k t.size _).mono ?_
    rintro e w1 ⟨rfl, hw⟩
    rw [hw, H1.out]
    clear hw w1
    go_wp2
    go_ret
    exact ⟨Pp.ret_bool HE.out, rfl⟩
end Go.Proofs.Ytnaedemkpiagmaa
