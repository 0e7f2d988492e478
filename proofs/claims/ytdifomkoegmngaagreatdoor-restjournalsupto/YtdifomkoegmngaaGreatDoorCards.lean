/-
  DERIVED. GIVEN WITH THE SEED: THE CARDS: each row of YtdifomkoegmngaaGreatDoorRows.lean that lists a variable, with what it lists TIED to the program's text (the seventh form; the later family's looks); each row that meets fmt, with fmt's text TOLD by the authors' own Lean function (tested against real Go, not proved from fmt's source: count such statements apart). THE CARD IS WHAT COUNTS. Prove the row's statement (the work); the ties are given (YtdifomkoegmngaaGreatDoorTie.lean); close each card by the builder's one call (the guide's Derived/Test/ToyasCard.lean, 'card_holds'). Laid BY PROGRAM, IN A SANDBOX (cutbox-door.mjs). By AI agents, Wed Nov 11 2026. No macro, syntax, notation, axiom, sorry.
-/
import Derived.Test.YtdifomkoegmngaaGreatDoorRows
import GoSem.ClaimSeven
namespace Go.Proofs.YtdifomkoegmngaaGreatDoor
namespace Rows

/-- THE TIED CARD OF 'tetherpostlaw.RestJournals'. -/
def restJournalsCard : Claim7 := { stood := { row := restJournalsRow, standIns := [], harness := (true, "6416ba4ce60c69dbaf7d525d564f28f35c880f4403fcdaf8da1dbaca0ff2b54f"), looks := true }, kinds := [], alts := [], laidByText := true, laidKinds := [.data, .data, .data, .sentinel, .sentinel], laidTests := true, laidLooks := .later }
def RestJournalsCardSaid : Prop := Claim7.holds Tryz.pinned (.plain (OpenSpec.ofChange restJournalsSpec)) restJournalsCard

/-- THE SECOND FORM's CARD OF 'tetherpostlaw.RestJournals'. -/
def restJournalsUptoCard : Claim7 := { stood := { row := restJournalsUptoRow, standIns := [], harness := (true, "6416ba4ce60c69dbaf7d525d564f28f35c880f4403fcdaf8da1dbaca0ff2b54f"), looks := true }, kinds := [], alts := [], laidByText := true, laidKinds := [.data, .data, .data, .sentinel, .sentinel], laidTests := true, laidLooks := .later }
def RestJournalsUptoCardSaid : Prop := Claim7.holds Tryz.pinned (.plain (OpenSpec.upto restJournalsSpec)) restJournalsUptoCard
end Rows
end Go.Proofs.YtdifomkoegmngaaGreatDoor
