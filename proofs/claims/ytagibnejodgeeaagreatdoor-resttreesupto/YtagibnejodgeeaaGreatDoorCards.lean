/-
  DERIVED. GIVEN WITH THE SEED: THE CARDS: each row of YtagibnejodgeeaaGreatDoorRows.lean that lists a variable, with what it lists TIED to the program's text (the seventh form; the later family's looks); each row that meets fmt, with fmt's text TOLD by the authors' own Lean function (tested against real Go, not proved from fmt's source: count such statements apart). THE CARD IS WHAT COUNTS. Prove the row's statement (the work); the ties are given (YtagibnejodgeeaaGreatDoorTie.lean); close each card by the builder's one call (the guide's Derived/Test/ToyasCard.lean, 'card_holds'). Laid BY PROGRAM, IN A SANDBOX (cutbox-door.mjs). By AI agents, Wed Nov 11 2026. No macro, syntax, notation, axiom, sorry.
-/
import Derived.Test.YtagibnejodgeeaaGreatDoorRows
import GoSem.ClaimSeven
namespace Go.Proofs.YtagibnejodgeeaaGreatDoor
namespace Rows

/-- THE TIED CARD OF 'tetherpostlaw.RestTrees'. -/
def restTreesCard : Claim7 := { stood := { row := restTreesRow, standIns := [], harness := (true, "6785622bf6c58338958e6024ac3e3d9414b4213d0365730688fe09cb560adc1a"), looks := true }, kinds := [], alts := [], laidByText := true, laidKinds := [.data, .data, .data, .data, .pinned], laidTests := true, laidLooks := .later }
def RestTreesCardSaid : Prop := Claim7.holds Tryz.pinned (.plain (OpenSpec.ofChange restTreesSpec)) restTreesCard

/-- THE SECOND FORM's CARD OF 'tetherpostlaw.RestTrees'. -/
def restTreesUptoCard : Claim7 := { stood := { row := restTreesUptoRow, standIns := [], harness := (true, "6785622bf6c58338958e6024ac3e3d9414b4213d0365730688fe09cb560adc1a"), looks := true }, kinds := [], alts := [], laidByText := true, laidKinds := [.data, .data, .data, .data, .pinned], laidTests := true, laidLooks := .later }
def RestTreesUptoCardSaid : Prop := Claim7.holds Tryz.pinned (.plain (OpenSpec.upto restTreesSpec)) restTreesUptoCard
end Rows
end Go.Proofs.YtagibnejodgeeaaGreatDoor
