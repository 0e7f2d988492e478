/-
  No cell of these rows narrows 'for every input' (looked for: loops, veiled, ifaces, maps, wideKeys, modest, calm, conditions, laid).
  DERIVED. THE GIVEN ROWS OF THIS SEAT. 5 by the template 'for every input the law returns true; each argument reads behind the call as it read before'; 0 by the template 'total and deterministic' (their statements: YtchlgpeiombmdaaGreatTotals.lean).
  GIVEN WITH THE SEED: the statements are not yours to turn. If you find one false, say at which input.
  Laid BY PROGRAM, IN A SANDBOX (cutbox-rows.mjs): the forced cells as the released guide's own fill.sh prints them over the translation a54fbd74acb78551… (all of the seat's roots in one cut). By AI agents, Wed Nov 11 2026. No macro, syntax, notation, axiom, sorry.
-/
import Derived.Test.YtchlgpeiombmdaaGreatChecked
import GoSem.Claim
import GoSem.ClaimJoined
import GoSem.ClaimMapViews
import Derived.JoinedTies
import Derived.KernelRfl
namespace Go.Proofs.YtchlgpeiombmdaaGreat
/- THE CELL 'sum', in the pinned program and in every row, IS THE sha256 OF THE DUMP (.gsa) THAT YtchlgpeiombmdaaGreatProg.lean LOADS. Nothing in Lean hashes anything: it is a label: what it is worth is what the hold of that sum in a sandbox is worth. -/
noncomputable def Tryz.pinned : Pinned := { name := "ytchlgpeiombmdaagreat", sum := "a54fbd74acb78551dffb3953e092e212415aae4e026723d767ffc16911aad07a", checked := Tryz.checked }
namespace Rows
def none {H : Type} : Left H := { results := [], args := [] }

/-- 'tetherpostlaw.HubGoes': WHATEVER THE INPUT: true; the input reads as it did. -/
def hubGoesSpec : ChangeSpec := { name := "hubGoes", fn := fun _ => fun
  | [d1, d2] => { results := [.lit (.bool true)], args := [d1, d2] }
  | _ => none }
def hubGoesRow : OpenClaim := { program := "ytchlgpeiombmdaagreat", sum := "a54fbd74acb78551dffb3953e092e212415aae4e026723d767ffc16911aad07a", func := "tetherpost/tetherpostlaw.HubGoes", spec := "hubGoes", inPlace := ["internal/bytealg.IndexByteString", "internal/bytealg.IndexString", "internal/bytealg.abigen_runtime_cmpstring", "slices.overlaps[tetherpost/api.Shared]"], unfollowed := true, recurses := true, named := ["internal/bytealg.MaxLen"], apart := false }
def HubGoesSaid : Prop := hubGoesRow.holds Tryz.pinned (OpenSpec.ofChange hubGoesSpec)

/-- ITS FALSE NEIGHBOUR: 'it returns false'. Refute it at one input. -/
def hubGoesWrong : ChangeSpec := { name := "hubGoes", fn := fun _ => fun
  | [d1, d2] => { results := [.lit (.bool false)], args := [d1, d2] }
  | _ => none }
def HubGoesWrongFalsely : Prop := hubGoesRow.holds Tryz.pinned (OpenSpec.ofChange hubGoesWrong)

/-- 'tetherpostlaw.HubDenies': WHATEVER THE INPUT: true; the input reads as it did. -/
def hubDeniesSpec : ChangeSpec := { name := "hubDenies", fn := fun _ => fun
  | [d1, d2] => { results := [.lit (.bool true)], args := [d1, d2] }
  | _ => none }
def hubDeniesRow : OpenClaim := { program := "ytchlgpeiombmdaagreat", sum := "a54fbd74acb78551dffb3953e092e212415aae4e026723d767ffc16911aad07a", func := "tetherpost/tetherpostlaw.HubDenies", spec := "hubDenies", inPlace := ["internal/bytealg.IndexByteString", "internal/bytealg.IndexString", "internal/bytealg.abigen_runtime_cmpstring", "slices.overlaps[tetherpost/api.Shared]"], unfollowed := true, recurses := true, named := ["internal/bytealg.MaxLen"], apart := false }
def HubDeniesSaid : Prop := hubDeniesRow.holds Tryz.pinned (OpenSpec.ofChange hubDeniesSpec)

/-- ITS FALSE NEIGHBOUR: 'it returns false'. Refute it at one input. -/
def hubDeniesWrong : ChangeSpec := { name := "hubDenies", fn := fun _ => fun
  | [d1, d2] => { results := [.lit (.bool false)], args := [d1, d2] }
  | _ => none }
def HubDeniesWrongFalsely : Prop := hubDeniesRow.holds Tryz.pinned (OpenSpec.ofChange hubDeniesWrong)

/-- 'tetherpostlaw.HubApart': WHATEVER THE INPUT: true; the input reads as it did. -/
def hubApartSpec : ChangeSpec := { name := "hubApart", fn := fun _ => fun
  | [d1, d2, d3] => { results := [.lit (.bool true)], args := [d1, d2, d3] }
  | _ => none }
def hubApartRow : OpenClaim := { program := "ytchlgpeiombmdaagreat", sum := "a54fbd74acb78551dffb3953e092e212415aae4e026723d767ffc16911aad07a", func := "tetherpost/tetherpostlaw.HubApart", spec := "hubApart", inPlace := ["internal/bytealg.IndexByteString", "internal/bytealg.IndexString", "internal/bytealg.abigen_runtime_cmpstring", "slices.overlaps[tetherpost/api.Shared]"], unfollowed := true, recurses := true, named := ["internal/bytealg.MaxLen"], apart := false }
def HubApartSaid : Prop := hubApartRow.holds Tryz.pinned (OpenSpec.ofChange hubApartSpec)

/-- ITS FALSE NEIGHBOUR: 'it returns false'. Refute it at one input. -/
def hubApartWrong : ChangeSpec := { name := "hubApart", fn := fun _ => fun
  | [d1, d2, d3] => { results := [.lit (.bool false)], args := [d1, d2, d3] }
  | _ => none }
def HubApartWrongFalsely : Prop := hubApartRow.holds Tryz.pinned (OpenSpec.ofChange hubApartWrong)

/-- 'tetherpostlaw.HubTwice': WHATEVER THE INPUT: true; the input reads as it did. -/
def hubTwiceSpec : ChangeSpec := { name := "hubTwice", fn := fun _ => fun
  | [d1, d2] => { results := [.lit (.bool true)], args := [d1, d2] }
  | _ => none }
def hubTwiceRow : OpenClaim := { program := "ytchlgpeiombmdaagreat", sum := "a54fbd74acb78551dffb3953e092e212415aae4e026723d767ffc16911aad07a", func := "tetherpost/tetherpostlaw.HubTwice", spec := "hubTwice", inPlace := ["internal/bytealg.IndexByteString", "internal/bytealg.IndexString", "internal/bytealg.abigen_runtime_cmpstring", "slices.overlaps[tetherpost/api.Shared]"], unfollowed := true, recurses := true, named := ["internal/bytealg.MaxLen"], apart := false }
def HubTwiceSaid : Prop := hubTwiceRow.holds Tryz.pinned (OpenSpec.ofChange hubTwiceSpec)

/-- ITS FALSE NEIGHBOUR: 'it returns false'. Refute it at one input. -/
def hubTwiceWrong : ChangeSpec := { name := "hubTwice", fn := fun _ => fun
  | [d1, d2] => { results := [.lit (.bool false)], args := [d1, d2] }
  | _ => none }
def HubTwiceWrongFalsely : Prop := hubTwiceRow.holds Tryz.pinned (OpenSpec.ofChange hubTwiceWrong)

/-- 'tetherpostlaw.HubUploads': WHATEVER THE INPUT: true; the input reads as it did. -/
def hubUploadsSpec : ChangeSpec := { name := "hubUploads", fn := fun _ => fun
  | [d1, d2, d3, d4, d5, d6] => { results := [.lit (.bool true)], args := [d1, d2, d3, d4, d5, d6] }
  | _ => none }
def hubUploadsRow : OpenClaim := { program := "ytchlgpeiombmdaagreat", sum := "a54fbd74acb78551dffb3953e092e212415aae4e026723d767ffc16911aad07a", func := "tetherpost/tetherpostlaw.HubUploads", spec := "hubUploads", inPlace := ["internal/bytealg.IndexByteString", "internal/bytealg.IndexString", "internal/bytealg.abigen_runtime_cmpstring", "slices.overlaps[tetherpost/api.Shared]"], unfollowed := true, recurses := true, named := ["internal/bytealg.MaxLen"], apart := false }
def HubUploadsSaid : Prop := hubUploadsRow.holds Tryz.pinned (OpenSpec.ofChange hubUploadsSpec)

/-- ITS FALSE NEIGHBOUR: 'it returns false'. Refute it at one input. -/
def hubUploadsWrong : ChangeSpec := { name := "hubUploads", fn := fun _ => fun
  | [d1, d2, d3, d4, d5, d6] => { results := [.lit (.bool false)], args := [d1, d2, d3, d4, d5, d6] }
  | _ => none }
def HubUploadsWrongFalsely : Prop := hubUploadsRow.holds Tryz.pinned (OpenSpec.ofChange hubUploadsWrong)

/- THE SECOND FORM. 'bulk': how many values and letters a reading holds, each counted each time it is reached (what is shared counts as often as it is met; a slice's spare places count too). A statement '..UptoSaid' is the law's where the arguments, and the package variables that the reading takes, are together of bulk at most 1048576: NARROWER than '..Said'. Prove '..Said' where nothing that the law and all that it calls make is longer than what came in: it says more and counts as full. Else prove '..UptoSaid'. A law counts once. -/
mutual
def uptoBulk {H : Type} : DataW H → Nat
  | .lit (.string bytes) => bytes.length + 1
  | .lit _ => 1
  | .nil => 1
  | .ptr d => uptoBulk d + 1
  | .slice elems spare => uptoBulkAll elems + uptoBulkAll spare + 1
  | .agg parts => uptoBulkAll parts + 1
  | .iface _ d => uptoBulk d + 1
  | .map entries => uptoBulkEntries entries + 1
  | .held _ => 1
def uptoBulkAll {H : Type} : List (DataW H) → Nat
  | [] => 0
  | d :: r => uptoBulk d + uptoBulkAll r
def uptoBulkEntries {H : Type} : List (Lit × DataW H) → Nat
  | [] => 0
  | x :: r => uptoBulkEntry x + uptoBulkEntries r
def uptoBulkEntry {H : Type} : Lit × DataW H → Nat
  | (.string bytes, d) => bytes.length + uptoBulk d + 1
  | (_, d) => uptoBulk d + 1
 end
def uptoSmall : (H : Type) → List (DataW H) → Bool := fun _ ds => decide (uptoBulkAll ds ≤ 1048576)
def OpenSpec.upto (s : _root_.Go.ChangeSpec) : _root_.Go.OpenSpec := { _root_.Go.OpenSpec.ofChange s with cond := some uptoSmall }

/-- 'tetherpostlaw.HubGoes', WHERE WHAT IT READS IS OF BULK AT MOST 1048576: true; the input reads as it did. -/
def hubGoesUptoRow : OpenClaim := { program := "ytchlgpeiombmdaagreat", sum := "a54fbd74acb78551dffb3953e092e212415aae4e026723d767ffc16911aad07a", func := "tetherpost/tetherpostlaw.HubGoes", spec := "hubGoes", inPlace := ["internal/bytealg.IndexByteString", "internal/bytealg.IndexString", "internal/bytealg.abigen_runtime_cmpstring", "slices.overlaps[tetherpost/api.Shared]"], unfollowed := true, recurses := true, named := ["internal/bytealg.MaxLen"], apart := false, narrowed := true }
def HubGoesUptoSaid : Prop := hubGoesUptoRow.holds Tryz.pinned (OpenSpec.upto hubGoesSpec)

/-- 'tetherpostlaw.HubDenies', WHERE WHAT IT READS IS OF BULK AT MOST 1048576: true; the input reads as it did. -/
def hubDeniesUptoRow : OpenClaim := { program := "ytchlgpeiombmdaagreat", sum := "a54fbd74acb78551dffb3953e092e212415aae4e026723d767ffc16911aad07a", func := "tetherpost/tetherpostlaw.HubDenies", spec := "hubDenies", inPlace := ["internal/bytealg.IndexByteString", "internal/bytealg.IndexString", "internal/bytealg.abigen_runtime_cmpstring", "slices.overlaps[tetherpost/api.Shared]"], unfollowed := true, recurses := true, named := ["internal/bytealg.MaxLen"], apart := false, narrowed := true }
def HubDeniesUptoSaid : Prop := hubDeniesUptoRow.holds Tryz.pinned (OpenSpec.upto hubDeniesSpec)

/-- 'tetherpostlaw.HubApart', WHERE WHAT IT READS IS OF BULK AT MOST 1048576: true; the input reads as it did. -/
def hubApartUptoRow : OpenClaim := { program := "ytchlgpeiombmdaagreat", sum := "a54fbd74acb78551dffb3953e092e212415aae4e026723d767ffc16911aad07a", func := "tetherpost/tetherpostlaw.HubApart", spec := "hubApart", inPlace := ["internal/bytealg.IndexByteString", "internal/bytealg.IndexString", "internal/bytealg.abigen_runtime_cmpstring", "slices.overlaps[tetherpost/api.Shared]"], unfollowed := true, recurses := true, named := ["internal/bytealg.MaxLen"], apart := false, narrowed := true }
def HubApartUptoSaid : Prop := hubApartUptoRow.holds Tryz.pinned (OpenSpec.upto hubApartSpec)

/-- 'tetherpostlaw.HubTwice', WHERE WHAT IT READS IS OF BULK AT MOST 1048576: true; the input reads as it did. -/
def hubTwiceUptoRow : OpenClaim := { program := "ytchlgpeiombmdaagreat", sum := "a54fbd74acb78551dffb3953e092e212415aae4e026723d767ffc16911aad07a", func := "tetherpost/tetherpostlaw.HubTwice", spec := "hubTwice", inPlace := ["internal/bytealg.IndexByteString", "internal/bytealg.IndexString", "internal/bytealg.abigen_runtime_cmpstring", "slices.overlaps[tetherpost/api.Shared]"], unfollowed := true, recurses := true, named := ["internal/bytealg.MaxLen"], apart := false, narrowed := true }
def HubTwiceUptoSaid : Prop := hubTwiceUptoRow.holds Tryz.pinned (OpenSpec.upto hubTwiceSpec)

/-- 'tetherpostlaw.HubUploads', WHERE WHAT IT READS IS OF BULK AT MOST 1048576: true; the input reads as it did. -/
def hubUploadsUptoRow : OpenClaim := { program := "ytchlgpeiombmdaagreat", sum := "a54fbd74acb78551dffb3953e092e212415aae4e026723d767ffc16911aad07a", func := "tetherpost/tetherpostlaw.HubUploads", spec := "hubUploads", inPlace := ["internal/bytealg.IndexByteString", "internal/bytealg.IndexString", "internal/bytealg.abigen_runtime_cmpstring", "slices.overlaps[tetherpost/api.Shared]"], unfollowed := true, recurses := true, named := ["internal/bytealg.MaxLen"], apart := false, narrowed := true }
def HubUploadsUptoSaid : Prop := hubUploadsUptoRow.holds Tryz.pinned (OpenSpec.upto hubUploadsSpec)

end Rows
end Go.Proofs.YtchlgpeiombmdaaGreat
