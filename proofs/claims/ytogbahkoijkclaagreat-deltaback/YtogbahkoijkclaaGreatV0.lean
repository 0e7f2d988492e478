/- Small things of texts. -/
import Derived.Test.YtogbahkoijkclaaGreatW4
import Derived.Test.YtogbahkoijkclaaGreatPure3
set_option linter.unusedSimpArgs false
set_option linter.unusedVariables false
namespace Go.Proofs.YtogbahkoijkclaaGreat
open Go.RowKit

namespace Pp
theorem own_below {w w' : World} {base : Nat} {e : TypeId} {size : Nat} {v : Value} {n : Nat} {xs : List Value} (h : w.ownsRow base e size v n xs) (hb : Below w.heap.size w w') : w'.ownsRow base e size v n xs := by
  obtain ⟨h1, h2⟩ := h
  refine ⟨h1, ?_⟩
  rcases h2 with h2 | ⟨g, cap, cur, hv, hg, hh, r⟩
  · exact .inl h2
  · refine .inr ⟨g, cap, cur, hv, hg, ?_, r⟩
    have hlt : g < w.heap.size := by
      rcases Nat.lt_or_ge g w.heap.size with h | h
      · exact h
      · rw [Array.getElem?_eq_none h] at hh; cases hh
    rw [hb.block g hlt]; exact hh
theorem empty_iff (s : ByteArray) : s.toList.isEmpty = true ↔ s.data.toList = [] := by rw [Lib.toList_data, List.isEmpty_iff]
theorem not_empty {s : ByteArray} (h : s.toList.isEmpty = false) : ¬ s.data.toList = [] := by
  intro e; rw [← empty_iff, h] at e; cases e
end Pp


namespace Pp
end Pp
end Go.Proofs.YtogbahkoijkclaaGreat
