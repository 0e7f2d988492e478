/- Small things of texts. -/
import Derived.Test.YtogbahkoijkclaaW4
import Derived.Test.YtogbahkoijkclaaPure3
set_option linter.unusedSimpArgs false
set_option linter.unusedVariables false
namespace Go.Proofs.Ytogbahkoijkclaa
open Go.RowKit

namespace Pp
theorem empty_iff (s : ByteArray) : s.toList.isEmpty = true ↔ s.data.toList = [] := by rw [Lib.toList_data, List.isEmpty_iff]
theorem not_empty {s : ByteArray} (h : s.toList.isEmpty = false) : ¬ s.data.toList = [] := by
  intro e; rw [← empty_iff, h] at e; cases e
end Pp


namespace Pp
end Pp
end Go.Proofs.Ytogbahkoijkclaa
