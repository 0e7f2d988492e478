/- What the laws' choose answers, of a thousand times a thousand and one things. -/
import Derived.Test.YtagdilnbbepccaaGreatProg
import Derived.WalkKit
import Derived.Carry
set_option linter.unusedSimpArgs false
set_option linter.unusedVariables false
namespace Go.Proofs.YtagdilnbbepccaaGreat
open Go.RowKit

namespace Pp
def chz (c n : Int) : Int := (if c < 0 then -(c + 1) else c) % n
theorem chz_range (c : Int) {n : Int} (hn : 0 < n) : 0 ≤ chz c n ∧ chz c n < n := by
  unfold chz
  exact ⟨Int.emod_nonneg _ (by omega), Int.emod_lt_of_pos _ hn⟩
end Pp

set_option maxHeartbeats 400000 in
theorem choose_any (c n : Int) (w : World) (h1 : -9223372036854775808 ≤ c) (h2 : c ≤ 9223372036854775807) (hn : 0 < n) (hn2 : n ≤ 9223372036854775807) :
    Calls Tryz.prog 24 #[.int .i64 c, .int .i64 n] w fun e w' => e = .returned (.int .i64 (Pp.chz c n)) ∧ w' = w := by
  have hr := Pp.chz_range c hn
  have hn0 : ¬ n = 0 := by omega
  by_cases hc : c < 0
  · have HE : Hid (Pp.chz c n = -(c + 1) % n) := (by rw [Pp.chz, if_pos hc] : Pp.chz c n = -(c + 1) % n)
    have hp : 0 ≤ -(c + 1) := by omega
    have HT : Hid ((-(c + 1)).tmod n = -(c + 1) % n) := (Int.tmod_eq_emod_of_nonneg hp : (-(c + 1)).tmod n = -(c + 1) % n)
    go_enter Tryz.func24, Tryz.ntmps24
    go_wp2
    go_ret
    exact ⟨by rw [HE.out, ← HT.out, Int.neg_tmod]; rfl, rfl⟩
  · have HE : Hid (Pp.chz c n = c % n) := (by rw [Pp.chz, if_neg hc] : Pp.chz c n = c % n)
    have HT : Hid (c.tmod n = c % n) := (Int.tmod_eq_emod_of_nonneg (by omega) : c.tmod n = c % n)
    go_enter Tryz.func24, Tryz.ntmps24
    go_wp2
    go_ret
    exact ⟨by rw [HE.out, ← HT.out]; rfl, rfl⟩
end Go.Proofs.YtagdilnbbepccaaGreat
