/-
  No cell of these rows narrows 'for every input' (looked for: loops, veiled, ifaces, maps, wideKeys, modest, calm, conditions, laid).
  DERIVED. THE GIVEN ROWS OF THIS SEAT. 3 by the template 'for every input the law returns true; each argument reads behind the call as it read before'; 0 by the template 'total and deterministic' (their statements: YtgjiicnhedekjaaTotals.lean).
  GIVEN WITH THE SEED: the statements are not yours to turn. If you find one false, say at which input.
  Laid BY PROGRAM, IN A SANDBOX (cutbox-rows.mjs): the forced cells as the released guide's own fill.sh prints them over the translation 10a8f8f5779ad9f7… (all of the seat's roots in one cut). By AI agents, Wed Nov 11 2026. No macro, syntax, notation, axiom, sorry.
-/
import Derived.Test.YtgjiicnhedekjaaChecked
import GoSem.Claim
import GoSem.ClaimJoined
import GoSem.ClaimMapViews
import Derived.JoinedTies
import Derived.KernelRfl
namespace Go.Proofs.Ytgjiicnhedekjaa
/- THE CELL 'sum', in the pinned program and in every row, IS THE sha256 OF THE DUMP (.gsa) THAT YtgjiicnhedekjaaProg.lean LOADS. Nothing in Lean hashes anything: it is a label: what it is worth is what the hold of that sum in a sandbox is worth. -/
noncomputable def Try.pinned : Pinned := { name := "ytgjiicnhedekjaa", sum := "10a8f8f5779ad9f7bfe5951ec462fd9a2e72123fac353e5a4aba25fabc4c2aaf", checked := Try.checked }
namespace Rows
def none {H : Type} : Left H := { results := [], args := [] }

/-- 'tetherpostlaw.GrantGives': WHATEVER THE INPUT: true; the input reads as it did. -/
def grantGivesSpec : ChangeSpec := { name := "grantGives", fn := fun _ => fun
  | [d1, d2, d3, d4, d5] => { results := [.lit (.bool true)], args := [d1, d2, d3, d4, d5] }
  | _ => none }
def grantGivesRow : OpenClaim := { program := "ytgjiicnhedekjaa", sum := "10a8f8f5779ad9f7bfe5951ec462fd9a2e72123fac353e5a4aba25fabc4c2aaf", func := "tetherpost/tetherpostlaw.GrantGives", spec := "grantGives", inPlace := ["internal/bytealg.IndexByteString", "internal/bytealg.IndexString"], unfollowed := true, recurses := true, named := ["internal/bytealg.MaxLen"], apart := false }
def GrantGivesSaid : Prop := grantGivesRow.holds Try.pinned (OpenSpec.ofChange grantGivesSpec)

/-- ITS FALSE NEIGHBOUR: 'it returns false'. Refute it at one input. -/
def grantGivesWrong : ChangeSpec := { name := "grantGives", fn := fun _ => fun
  | [d1, d2, d3, d4, d5] => { results := [.lit (.bool false)], args := [d1, d2, d3, d4, d5] }
  | _ => none }
def GrantGivesWrongFalsely : Prop := grantGivesRow.holds Try.pinned (OpenSpec.ofChange grantGivesWrong)

/-- 'tetherpostlaw.GrantMakes': WHATEVER THE INPUT: true; the input reads as it did. -/
def grantMakesSpec : ChangeSpec := { name := "grantMakes", fn := fun _ => fun
  | [d1, d2, d3] => { results := [.lit (.bool true)], args := [d1, d2, d3] }
  | _ => none }
def grantMakesRow : OpenClaim := { program := "ytgjiicnhedekjaa", sum := "10a8f8f5779ad9f7bfe5951ec462fd9a2e72123fac353e5a4aba25fabc4c2aaf", func := "tetherpost/tetherpostlaw.GrantMakes", spec := "grantMakes", inPlace := ["internal/bytealg.IndexByteString", "internal/bytealg.IndexString"], unfollowed := true, recurses := true, named := ["internal/bytealg.MaxLen"], apart := false }
def GrantMakesSaid : Prop := grantMakesRow.holds Try.pinned (OpenSpec.ofChange grantMakesSpec)

/-- ITS FALSE NEIGHBOUR: 'it returns false'. Refute it at one input. -/
def grantMakesWrong : ChangeSpec := { name := "grantMakes", fn := fun _ => fun
  | [d1, d2, d3] => { results := [.lit (.bool false)], args := [d1, d2, d3] }
  | _ => none }
def GrantMakesWrongFalsely : Prop := grantMakesRow.holds Try.pinned (OpenSpec.ofChange grantMakesWrong)

/-- 'tetherpostlaw.GrantApart': WHATEVER THE INPUT: true; the input reads as it did. -/
def grantApartSpec : ChangeSpec := { name := "grantApart", fn := fun _ => fun
  | [d1, d2, d3, d4, d5, d6] => { results := [.lit (.bool true)], args := [d1, d2, d3, d4, d5, d6] }
  | _ => none }
def grantApartRow : OpenClaim := { program := "ytgjiicnhedekjaa", sum := "10a8f8f5779ad9f7bfe5951ec462fd9a2e72123fac353e5a4aba25fabc4c2aaf", func := "tetherpost/tetherpostlaw.GrantApart", spec := "grantApart", inPlace := ["internal/bytealg.IndexByteString", "internal/bytealg.IndexString"], unfollowed := true, recurses := true, named := ["internal/bytealg.MaxLen"], apart := false }
def GrantApartSaid : Prop := grantApartRow.holds Try.pinned (OpenSpec.ofChange grantApartSpec)

/-- ITS FALSE NEIGHBOUR: 'it returns false'. Refute it at one input. -/
def grantApartWrong : ChangeSpec := { name := "grantApart", fn := fun _ => fun
  | [d1, d2, d3, d4, d5, d6] => { results := [.lit (.bool false)], args := [d1, d2, d3, d4, d5, d6] }
  | _ => none }
def GrantApartWrongFalsely : Prop := grantApartRow.holds Try.pinned (OpenSpec.ofChange grantApartWrong)

/- THE SECOND FORM. 'bulk': how many values and letters a reading holds, each counted each time it is reached (what is shared counts as often as it is met; a slice's spare places count too). A statement '..UptoSaid' is the law's where the arguments, and the package variables that the reading takes, are together of bulk at most 1048576: NARROWER than '..Said'. Prove '..Said' where nothing that the law and all that it calls make is longer than what came in: it says more and counts as full. Else prove '..UptoSaid'. A law counts once. -/
mutual
def uptoBulk {H : Type} : DataW H → Nat
  | .lit (.string bytes) => bytes.length + 1
  | .lit _ => 1
  | .nil => 1
  | .ptr d => uptoBulk d + 1
  | .slice elems spare => uptoBulkAll elems + uptoBulkAll spare + 1
  | .agg parts => uptoBulkAll parts + 1
  | .iface _ d => uptoBulk d + 1
  | .map entries => uptoBulkEntries entries + 1
  | .held _ => 1
def uptoBulkAll {H : Type} : List (DataW H) → Nat
  | [] => 0
  | d :: r => uptoBulk d + uptoBulkAll r
def uptoBulkEntries {H : Type} : List (Lit × DataW H) → Nat
  | [] => 0
  | x :: r => uptoBulkEntry x + uptoBulkEntries r
def uptoBulkEntry {H : Type} : Lit × DataW H → Nat
  | (.string bytes, d) => bytes.length + uptoBulk d + 1
  | (_, d) => uptoBulk d + 1
 end
def uptoSmall : (H : Type) → List (DataW H) → Bool := fun _ ds => decide (uptoBulkAll ds ≤ 1048576)
def OpenSpec.upto (s : _root_.Go.ChangeSpec) : _root_.Go.OpenSpec := { _root_.Go.OpenSpec.ofChange s with cond := some uptoSmall }

/-- 'tetherpostlaw.GrantGives', WHERE WHAT IT READS IS OF BULK AT MOST 1048576: true; the input reads as it did. -/
def grantGivesUptoRow : OpenClaim := { program := "ytgjiicnhedekjaa", sum := "10a8f8f5779ad9f7bfe5951ec462fd9a2e72123fac353e5a4aba25fabc4c2aaf", func := "tetherpost/tetherpostlaw.GrantGives", spec := "grantGives", inPlace := ["internal/bytealg.IndexByteString", "internal/bytealg.IndexString"], unfollowed := true, recurses := true, named := ["internal/bytealg.MaxLen"], apart := false, narrowed := true }
def GrantGivesUptoSaid : Prop := grantGivesUptoRow.holds Try.pinned (OpenSpec.upto grantGivesSpec)

/-- 'tetherpostlaw.GrantMakes', WHERE WHAT IT READS IS OF BULK AT MOST 1048576: true; the input reads as it did. -/
def grantMakesUptoRow : OpenClaim := { program := "ytgjiicnhedekjaa", sum := "10a8f8f5779ad9f7bfe5951ec462fd9a2e72123fac353e5a4aba25fabc4c2aaf", func := "tetherpost/tetherpostlaw.GrantMakes", spec := "grantMakes", inPlace := ["internal/bytealg.IndexByteString", "internal/bytealg.IndexString"], unfollowed := true, recurses := true, named := ["internal/bytealg.MaxLen"], apart := false, narrowed := true }
def GrantMakesUptoSaid : Prop := grantMakesUptoRow.holds Try.pinned (OpenSpec.upto grantMakesSpec)

/-- 'tetherpostlaw.GrantApart', WHERE WHAT IT READS IS OF BULK AT MOST 1048576: true; the input reads as it did. -/
def grantApartUptoRow : OpenClaim := { program := "ytgjiicnhedekjaa", sum := "10a8f8f5779ad9f7bfe5951ec462fd9a2e72123fac353e5a4aba25fabc4c2aaf", func := "tetherpost/tetherpostlaw.GrantApart", spec := "grantApart", inPlace := ["internal/bytealg.IndexByteString", "internal/bytealg.IndexString"], unfollowed := true, recurses := true, named := ["internal/bytealg.MaxLen"], apart := false, narrowed := true }
def GrantApartUptoSaid : Prop := grantApartUptoRow.holds Try.pinned (OpenSpec.upto grantApartSpec)

end Rows
end Go.Proofs.Ytgjiicnhedekjaa
