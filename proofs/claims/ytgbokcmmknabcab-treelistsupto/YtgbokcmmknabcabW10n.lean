/- What the reference's LastOf answers, for every text. -/
import Derived.Test.YtgbokcmmknabcabW10
set_option linter.unusedSimpArgs false
set_option linter.unusedVariables false
namespace Go.Proofs.Ytgbokcmmknabcab
open Go.RowKit

set_option maxHeartbeats 400000 in
theorem lastOf_any (s : ByteArray) (w : World) (hs : s.size ≤ 1000000000) :
    Calls Try.prog 38 #[.string s] w fun e w' => e = .returned (.string ⟨(Pp.lst s.data.toList).toArray⟩) ∧ Below w.heap.size w w' := by
  have hn : (Pp.nm s.data.toList).length ≤ s.size + 1 := by have := Pp.nm_len_le s.data.toList; rwa [← Lib.size_eq] at this
  have h1 : 1 ≤ (Pp.nm s.data.toList).length := Nat.pos_of_ne_zero (fun e => Pp.nm_ne _ (List.length_eq_zero_iff.1 e))
  have h3 : (Pp.nm s.data.toList).length - 1 < (Pp.nm s.data.toList).length := by omega
  have HP : Hid ((Pp.nm s.data.toList)[(Pp.nm s.data.toList).length - 1] = Pp.lst s.data.toList) := (by
    rw [Pp.lst, List.getLastD_eq_getLast?, List.getLast?_eq_getElem?, List.getElem?_eq_getElem h3]; rfl : (Pp.nm s.data.toList)[(Pp.nm s.data.toList).length - 1] = Pp.lst s.data.toList)
  go_enter Try.func38, Try.ntmps38
  go_wp2_with fail
  refine (rNames_at s _ hs).mono ?_
  rintro e w1 ⟨g, cap, rfl, hc1, hc2, hg1, hg2, hcell, hb⟩
  have hce := hcell _ h3
  rw [HP.out] at hce
  clear hcell
  go_wp2
  go_ret
  exact ⟨rfl, hb⟩

end Go.Proofs.Ytgbokcmmknabcab
