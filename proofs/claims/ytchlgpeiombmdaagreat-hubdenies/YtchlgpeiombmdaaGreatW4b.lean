/- What path.joined answers, for every two texts. -/
import Derived.Test.YtchlgpeiombmdaaGreatMC
import Derived.Lib.SmallJoins
set_option linter.unusedSimpArgs false
set_option linter.unusedVariables false
namespace Go.Proofs.YtchlgpeiombmdaaGreat
open Go.RowKit

set_option maxHeartbeats 400000 in
theorem joined_any (s t : ByteArray) (w : World) (hs : s.size ≤ 1000000000000000) (ht : t.size ≤ 1000000000000000) :
    Calls Tryz.prog 120 #[.string s, .string t] w fun e w' => e = .returned (.string ⟨(Pp.jn s.data.toList t.data.toList).toArray⟩) ∧ w' = w := by
 cases hc : s.toList.isEmpty with
 | true =>
  have HP := hid (show ⟨(Pp.jn s.data.toList t.data.toList).toArray⟩ = t from by rw [Lib.toList_data, List.isEmpty_iff] at hc; rw [Pp.jn, if_pos hc])
  go_enter Tryz.func120, Tryz.ntmps120
  go_wp2
  go_ret
  exact ⟨by rw [HP.out]; rfl, rfl⟩
 | false =>
  have HP := hid (show s ++ ⟨#[47]⟩ ++ t = ⟨(Pp.jn s.data.toList t.data.toList).toArray⟩ from Pp.bytes_eq (by
   rw [Lib.toList_data] at hc
   rw [Joins.data_append, Joins.data_append, Pp.jn, if_neg (by intro h; rw [h] at hc; cases hc)]; simp))
  go_enter Tryz.func120, Tryz.ntmps120
  go_wp2
  go_ret
  exact ⟨by rw [← HP.out]; rfl, rfl⟩
end Go.Proofs.YtchlgpeiombmdaaGreat
