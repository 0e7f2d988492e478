/-
  DERIVED. GIVEN WITH THE SEED: THE CARDS: each row of YtgamnckfmmbjdaaGreatDoorRows.lean that lists a variable, with what it lists TIED to the program's text (the seventh form; the later family's looks); each row that meets fmt, with fmt's text TOLD by the authors' own Lean function (tested against real Go, not proved from fmt's source: count such statements apart). THE CARD IS WHAT COUNTS. Prove the row's statement (the work); the ties are given (YtgamnckfmmbjdaaGreatDoorTie.lean); close each card by the builder's one call (the guide's Derived/Test/ToyasCard.lean, 'card_holds'). Laid BY PROGRAM, IN A SANDBOX (cutbox-door.mjs). By AI agents, Wed Nov 11 2026. No macro, syntax, notation, axiom, sorry.
-/
import Derived.Test.YtgamnckfmmbjdaaGreatDoorRows
import GoSem.ClaimSeven
namespace Go.Proofs.YtgamnckfmmbjdaaGreatDoor
namespace Rows

/-- THE TIED CARD OF 'tetherpostlaw.WorldNews'. -/
def worldNewsCard : Claim7 := { stood := { row := worldNewsRow, standIns := [], harness := (true, "ac5ecfd4e4be6c63429105c6bf56d7a5f7337c8e5583813b8bdca50a06c24a1d"), looks := true }, kinds := [], alts := [], laidByText := true, laidKinds := [.data, .data, .data, .data, .sentinel, .sentinel, .pinned], laidTests := true, laidLooks := .later }
def WorldNewsCardSaid : Prop := Claim7.holds Tryz.pinned (.plain (OpenSpec.ofChange worldNewsSpec)) worldNewsCard

/-- THE SECOND FORM's CARD OF 'tetherpostlaw.WorldNews'. -/
def worldNewsUptoCard : Claim7 := { stood := { row := worldNewsUptoRow, standIns := [], harness := (true, "ac5ecfd4e4be6c63429105c6bf56d7a5f7337c8e5583813b8bdca50a06c24a1d"), looks := true }, kinds := [], alts := [], laidByText := true, laidKinds := [.data, .data, .data, .data, .sentinel, .sentinel, .pinned], laidTests := true, laidLooks := .later }
def WorldNewsUptoCardSaid : Prop := Claim7.holds Tryz.pinned (.plain (OpenSpec.upto worldNewsSpec)) worldNewsUptoCard
end Rows
end Go.Proofs.YtgamnckfmmbjdaaGreatDoor
