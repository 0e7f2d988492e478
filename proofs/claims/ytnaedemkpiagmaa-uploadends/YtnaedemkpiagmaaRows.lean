/-
  No cell of these rows narrows 'for every input' (looked for: loops, veiled, ifaces, maps, wideKeys, modest, calm, conditions, laid).
  DERIVED. THE GIVEN ROWS OF THIS SEAT. 4 by the template 'for every input the law returns true; each argument reads behind the call as it read before'; 0 by the template 'total and deterministic' (their statements: YtnaedemkpiagmaaTotals.lean).
  GIVEN WITH THE SEED: the statements are not yours to turn. If you find one false, say at which input.
  Laid BY PROGRAM, IN A SANDBOX (cutbox-rows.mjs): the forced cells as the released guide's own fill.sh prints them over the translation 09ccefabce374e16… (all of the seat's roots in one cut). By AI agents, Wed Nov 11 2026. No macro, syntax, notation, axiom, sorry.
-/
import Derived.Test.YtnaedemkpiagmaaChecked
import GoSem.Claim
import GoSem.ClaimJoined
import GoSem.ClaimMapViews
import Derived.JoinedTies
import Derived.KernelRfl
namespace Go.Proofs.Ytnaedemkpiagmaa
/- THE CELL 'sum', in the pinned program and in every row, IS THE sha256 OF THE DUMP (.gsa) THAT YtnaedemkpiagmaaProg.lean LOADS. Nothing in Lean hashes anything: it is a label: what it is worth is what the hold of that sum in a sandbox is worth. -/
noncomputable def Try.pinned : Pinned := { name := "ytnaedemkpiagmaa", sum := "09ccefabce374e1654850448e11567e2683b2cbc22189a219e5fd91fccea031b", checked := Try.checked }
namespace Rows
def none {H : Type} : Left H := { results := [], args := [] }

/-- 'tetherpostlaw.UploadOpens': WHATEVER THE INPUT: true; the input reads as it did. -/
def uploadOpensSpec : ChangeSpec := { name := "uploadOpens", fn := fun _ => fun
  | [d1, d2, d3, d4] => { results := [.lit (.bool true)], args := [d1, d2, d3, d4] }
  | _ => none }
def uploadOpensRow : OpenClaim := { program := "ytnaedemkpiagmaa", sum := "09ccefabce374e1654850448e11567e2683b2cbc22189a219e5fd91fccea031b", func := "tetherpost/tetherpostlaw.UploadOpens", spec := "uploadOpens", inPlace := ["internal/bytealg.IndexByteString", "internal/bytealg.IndexString"], unfollowed := true, recurses := true, named := ["internal/bytealg.MaxLen"], apart := false }
def UploadOpensSaid : Prop := uploadOpensRow.holds Try.pinned (OpenSpec.ofChange uploadOpensSpec)

/-- ITS FALSE NEIGHBOUR: 'it returns false'. Refute it at one input. -/
def uploadOpensWrong : ChangeSpec := { name := "uploadOpens", fn := fun _ => fun
  | [d1, d2, d3, d4] => { results := [.lit (.bool false)], args := [d1, d2, d3, d4] }
  | _ => none }
def UploadOpensWrongFalsely : Prop := uploadOpensRow.holds Try.pinned (OpenSpec.ofChange uploadOpensWrong)

/-- 'tetherpostlaw.UploadAppends': WHATEVER THE INPUT: true; the input reads as it did. -/
def uploadAppendsSpec : ChangeSpec := { name := "uploadAppends", fn := fun _ => fun
  | [d1, d2, d3, d4, d5, d6] => { results := [.lit (.bool true)], args := [d1, d2, d3, d4, d5, d6] }
  | _ => none }
def uploadAppendsRow : OpenClaim := { program := "ytnaedemkpiagmaa", sum := "09ccefabce374e1654850448e11567e2683b2cbc22189a219e5fd91fccea031b", func := "tetherpost/tetherpostlaw.UploadAppends", spec := "uploadAppends", inPlace := ["internal/bytealg.IndexByteString", "internal/bytealg.IndexString"], unfollowed := true, recurses := true, named := ["internal/bytealg.MaxLen"], apart := false }
def UploadAppendsSaid : Prop := uploadAppendsRow.holds Try.pinned (OpenSpec.ofChange uploadAppendsSpec)

/-- ITS FALSE NEIGHBOUR: 'it returns false'. Refute it at one input. -/
def uploadAppendsWrong : ChangeSpec := { name := "uploadAppends", fn := fun _ => fun
  | [d1, d2, d3, d4, d5, d6] => { results := [.lit (.bool false)], args := [d1, d2, d3, d4, d5, d6] }
  | _ => none }
def UploadAppendsWrongFalsely : Prop := uploadAppendsRow.holds Try.pinned (OpenSpec.ofChange uploadAppendsWrong)

/-- 'tetherpostlaw.UploadEnds': WHATEVER THE INPUT: true; the input reads as it did. -/
def uploadEndsSpec : ChangeSpec := { name := "uploadEnds", fn := fun _ => fun
  | [d1, d2, d3, d4] => { results := [.lit (.bool true)], args := [d1, d2, d3, d4] }
  | _ => none }
def uploadEndsRow : OpenClaim := { program := "ytnaedemkpiagmaa", sum := "09ccefabce374e1654850448e11567e2683b2cbc22189a219e5fd91fccea031b", func := "tetherpost/tetherpostlaw.UploadEnds", spec := "uploadEnds", inPlace := ["internal/bytealg.IndexByteString", "internal/bytealg.IndexString"], unfollowed := true, recurses := true, named := ["internal/bytealg.MaxLen"], apart := false }
def UploadEndsSaid : Prop := uploadEndsRow.holds Try.pinned (OpenSpec.ofChange uploadEndsSpec)

/-- ITS FALSE NEIGHBOUR: 'it returns false'. Refute it at one input. -/
def uploadEndsWrong : ChangeSpec := { name := "uploadEnds", fn := fun _ => fun
  | [d1, d2, d3, d4] => { results := [.lit (.bool false)], args := [d1, d2, d3, d4] }
  | _ => none }
def UploadEndsWrongFalsely : Prop := uploadEndsRow.holds Try.pinned (OpenSpec.ofChange uploadEndsWrong)

/-- 'tetherpostlaw.UploadWhole': WHATEVER THE INPUT: true; the input reads as it did. -/
def uploadWholeSpec : ChangeSpec := { name := "uploadWhole", fn := fun _ => fun
  | [d1, d2, d3, d4] => { results := [.lit (.bool true)], args := [d1, d2, d3, d4] }
  | _ => none }
def uploadWholeRow : OpenClaim := { program := "ytnaedemkpiagmaa", sum := "09ccefabce374e1654850448e11567e2683b2cbc22189a219e5fd91fccea031b", func := "tetherpost/tetherpostlaw.UploadWhole", spec := "uploadWhole", inPlace := ["internal/bytealg.IndexByteString", "internal/bytealg.IndexString"], unfollowed := true, recurses := true, named := ["internal/bytealg.MaxLen"], apart := false }
def UploadWholeSaid : Prop := uploadWholeRow.holds Try.pinned (OpenSpec.ofChange uploadWholeSpec)

/-- ITS FALSE NEIGHBOUR: 'it returns false'. Refute it at one input. -/
def uploadWholeWrong : ChangeSpec := { name := "uploadWhole", fn := fun _ => fun
  | [d1, d2, d3, d4] => { results := [.lit (.bool false)], args := [d1, d2, d3, d4] }
  | _ => none }
def UploadWholeWrongFalsely : Prop := uploadWholeRow.holds Try.pinned (OpenSpec.ofChange uploadWholeWrong)

/- THE SECOND FORM. 'bulk': how many values and letters a reading holds, each counted each time it is reached (what is shared counts as often as it is met; a slice's spare places count too). A statement '..UptoSaid' is the law's where the arguments, and the package variables that the reading takes, are together of bulk at most 1048576: NARROWER than '..Said'. Prove '..Said' where nothing that the law and all that it calls make is longer than what came in: it says more and counts as full. Else prove '..UptoSaid'. A law counts once. -/
mutual
def uptoBulk {H : Type} : DataW H → Nat
  | .lit (.string bytes) => bytes.length + 1
  | .lit _ => 1
  | .nil => 1
  | .ptr d => uptoBulk d + 1
  | .slice elems spare => uptoBulkAll elems + uptoBulkAll spare + 1
  | .agg parts => uptoBulkAll parts + 1
  | .iface _ d => uptoBulk d + 1
  | .map entries => uptoBulkEntries entries + 1
  | .held _ => 1
def uptoBulkAll {H : Type} : List (DataW H) → Nat
  | [] => 0
  | d :: r => uptoBulk d + uptoBulkAll r
def uptoBulkEntries {H : Type} : List (Lit × DataW H) → Nat
  | [] => 0
  | x :: r => uptoBulkEntry x + uptoBulkEntries r
def uptoBulkEntry {H : Type} : Lit × DataW H → Nat
  | (.string bytes, d) => bytes.length + uptoBulk d + 1
  | (_, d) => uptoBulk d + 1
 end
def uptoSmall : (H : Type) → List (DataW H) → Bool := fun _ ds => decide (uptoBulkAll ds ≤ 1048576)
def OpenSpec.upto (s : _root_.Go.ChangeSpec) : _root_.Go.OpenSpec := { _root_.Go.OpenSpec.ofChange s with cond := some uptoSmall }

/-- 'tetherpostlaw.UploadOpens', WHERE WHAT IT READS IS OF BULK AT MOST 1048576: true; the input reads as it did. -/
def uploadOpensUptoRow : OpenClaim := { program := "ytnaedemkpiagmaa", sum := "09ccefabce374e1654850448e11567e2683b2cbc22189a219e5fd91fccea031b", func := "tetherpost/tetherpostlaw.UploadOpens", spec := "uploadOpens", inPlace := ["internal/bytealg.IndexByteString", "internal/bytealg.IndexString"], unfollowed := true, recurses := true, named := ["internal/bytealg.MaxLen"], apart := false, narrowed := true }
def UploadOpensUptoSaid : Prop := uploadOpensUptoRow.holds Try.pinned (OpenSpec.upto uploadOpensSpec)

/-- 'tetherpostlaw.UploadAppends', WHERE WHAT IT READS IS OF BULK AT MOST 1048576: true; the input reads as it did. -/
def uploadAppendsUptoRow : OpenClaim := { program := "ytnaedemkpiagmaa", sum := "09ccefabce374e1654850448e11567e2683b2cbc22189a219e5fd91fccea031b", func := "tetherpost/tetherpostlaw.UploadAppends", spec := "uploadAppends", inPlace := ["internal/bytealg.IndexByteString", "internal/bytealg.IndexString"], unfollowed := true, recurses := true, named := ["internal/bytealg.MaxLen"], apart := false, narrowed := true }
def UploadAppendsUptoSaid : Prop := uploadAppendsUptoRow.holds Try.pinned (OpenSpec.upto uploadAppendsSpec)

/-- 'tetherpostlaw.UploadEnds', WHERE WHAT IT READS IS OF BULK AT MOST 1048576: true; the input reads as it did. -/
def uploadEndsUptoRow : OpenClaim := { program := "ytnaedemkpiagmaa", sum := "09ccefabce374e1654850448e11567e2683b2cbc22189a219e5fd91fccea031b", func := "tetherpost/tetherpostlaw.UploadEnds", spec := "uploadEnds", inPlace := ["internal/bytealg.IndexByteString", "internal/bytealg.IndexString"], unfollowed := true, recurses := true, named := ["internal/bytealg.MaxLen"], apart := false, narrowed := true }
def UploadEndsUptoSaid : Prop := uploadEndsUptoRow.holds Try.pinned (OpenSpec.upto uploadEndsSpec)

/-- 'tetherpostlaw.UploadWhole', WHERE WHAT IT READS IS OF BULK AT MOST 1048576: true; the input reads as it did. -/
def uploadWholeUptoRow : OpenClaim := { program := "ytnaedemkpiagmaa", sum := "09ccefabce374e1654850448e11567e2683b2cbc22189a219e5fd91fccea031b", func := "tetherpost/tetherpostlaw.UploadWhole", spec := "uploadWhole", inPlace := ["internal/bytealg.IndexByteString", "internal/bytealg.IndexString"], unfollowed := true, recurses := true, named := ["internal/bytealg.MaxLen"], apart := false, narrowed := true }
def UploadWholeUptoSaid : Prop := uploadWholeUptoRow.holds Try.pinned (OpenSpec.upto uploadWholeSpec)

end Rows
end Go.Proofs.Ytnaedemkpiagmaa
