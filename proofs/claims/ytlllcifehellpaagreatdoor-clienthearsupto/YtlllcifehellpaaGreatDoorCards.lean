/-
  DERIVED. GIVEN WITH THE SEED: THE CARDS: each row of YtlllcifehellpaaGreatDoorRows.lean that lists a variable, with what it lists TIED to the program's text (the seventh form; the later family's looks); each row that meets fmt, with fmt's text TOLD by the authors' own Lean function (tested against real Go, not proved from fmt's source: count such statements apart). THE CARD IS WHAT COUNTS. Prove the row's statement (the work); the ties are given (YtlllcifehellpaaGreatDoorTie.lean); close each card by the builder's one call (the guide's Derived/Test/ToyasCard.lean, 'card_holds'). Laid BY PROGRAM, IN A SANDBOX (cutbox-door.mjs). By AI agents, Wed Nov 11 2026. No macro, syntax, notation, axiom, sorry.
-/
import Derived.Test.YtlllcifehellpaaGreatDoorRows
import GoSem.ClaimSeven
namespace Go.Proofs.YtlllcifehellpaaGreatDoor
namespace Rows

/-- THE TIED CARD OF 'tetherpostlaw.ClientHears'. -/
def clientHearsCard : Claim7 := { stood := { row := clientHearsRow, standIns := [], harness := (true, "675d74192491acbe6f5d051a622e7c30ce9f44f37e6dc3e11146a0b5c5510248"), looks := true }, kinds := [], alts := [], laidByText := true, laidKinds := [.data, .data, .data, .data, .pinned], laidTests := true, laidLooks := .later }
def ClientHearsCardSaid : Prop := Claim7.holds Tryz.pinned (.plain (OpenSpec.ofChange clientHearsSpec)) clientHearsCard

/-- THE SECOND FORM's CARD OF 'tetherpostlaw.ClientHears'. -/
def clientHearsUptoCard : Claim7 := { stood := { row := clientHearsUptoRow, standIns := [], harness := (true, "675d74192491acbe6f5d051a622e7c30ce9f44f37e6dc3e11146a0b5c5510248"), looks := true }, kinds := [], alts := [], laidByText := true, laidKinds := [.data, .data, .data, .data, .pinned], laidTests := true, laidLooks := .later }
def ClientHearsUptoCardSaid : Prop := Claim7.holds Tryz.pinned (.plain (OpenSpec.upto clientHearsSpec)) clientHearsUptoCard
end Rows
end Go.Proofs.YtlllcifehellpaaGreatDoor
