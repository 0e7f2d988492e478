/-
  DERIVED. GIVEN WITH THE SEED: THE CARDS: each row of YtppdfeehhnofaaaGreatDoorRows.lean that lists a variable, with what it lists TIED to the program's text (the seventh form; the later family's looks); each row that meets fmt, with fmt's text TOLD by the authors' own Lean function (tested against real Go, not proved from fmt's source: count such statements apart). THE CARD IS WHAT COUNTS. Prove the row's statement (the work); the ties are given (YtppdfeehhnofaaaGreatDoorTie.lean); close each card by the builder's one call (the guide's Derived/Test/ToyasCard.lean, 'card_holds'). Laid BY PROGRAM, IN A SANDBOX (cutbox-door.mjs). By AI agents, Wed Nov 11 2026. No macro, syntax, notation, axiom, sorry.
-/
import Derived.Test.YtppdfeehhnofaaaGreatDoorRows
import GoSem.ClaimSeven
namespace Go.Proofs.YtppdfeehhnofaaaGreatDoor
namespace Rows

/-- THE TIED CARD OF 'tetherpostlaw.HubAsks'. -/
def hubAsksCard : Claim7 := { stood := { row := hubAsksRow, standIns := [], harness := (true, "15727f635b77fdc18c7fea6c841b0a27f5cdc9cfaa509ffef9a7d00bc4388f32"), looks := true }, kinds := [], alts := [], laidByText := true, laidKinds := [.data, .data, .data, .sentinel, .sentinel], laidTests := true, laidLooks := .later }
def HubAsksCardSaid : Prop := Claim7.holds Tryz.pinned (.plain (OpenSpec.ofChange hubAsksSpec)) hubAsksCard

/-- THE SECOND FORM's CARD OF 'tetherpostlaw.HubAsks'. -/
def hubAsksUptoCard : Claim7 := { stood := { row := hubAsksUptoRow, standIns := [], harness := (true, "15727f635b77fdc18c7fea6c841b0a27f5cdc9cfaa509ffef9a7d00bc4388f32"), looks := true }, kinds := [], alts := [], laidByText := true, laidKinds := [.data, .data, .data, .sentinel, .sentinel], laidTests := true, laidLooks := .later }
def HubAsksUptoCardSaid : Prop := Claim7.holds Tryz.pinned (.plain (OpenSpec.upto hubAsksSpec)) hubAsksUptoCard
end Rows
end Go.Proofs.YtppdfeehhnofaaaGreatDoor
