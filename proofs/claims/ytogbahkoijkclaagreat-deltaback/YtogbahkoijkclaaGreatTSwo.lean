/- The order of paths, as a sort asks for it. -/
import Derived.Test.YtogbahkoijkclaaGreatTPure2
import Derived.Shelf.SlSortCmp.WholeK
set_option linter.unusedSimpArgs false
set_option linter.unusedVariables false
namespace Go.Proofs.YtogbahkoijkclaaGreat.Pp
theorem ltOf_eq (x y : En) : ltOf cfE x y = lt x y := by rw [lt_cfE]; rfl
theorem swo : Sort.SWO (ltOf cfE) where
  irrefl x := by rw [ltOf_eq]; exact lt_irrefl x
  trans x y z h1 h2 := by rw [ltOf_eq] at *; exact lt_trans x y z h1 h2
  ntrans x y z h1 h2 := by rw [ltOf_eq] at *; exact lt_ntrans x y z h1 h2
end Go.Proofs.YtogbahkoijkclaaGreat.Pp
