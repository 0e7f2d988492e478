/- The law HubTicks holds: for every hub, number and text of bulk at most 1048576 together Tick and Tree answer just what the document says, errors too; and the arguments read afterwards as they did. -/
import Derived.Test.YtmdkecdhgjjceaaGreatKL
import Derived.Test.YtmdkecdhgjjceaaGreatRows
import Derived.Test.YtmdkecdhgjjceaaGreatKO
import Derived.WalkKit
import Derived.ProofKit
import Derived.OpenShut
import Derived.JoinedCond
import Derived.Carry
import Derived.SizedLaws
import Derived.Deep.CondSized
set_option linter.unusedSimpArgs false
set_option linter.unusedVariables false
namespace Go.Proofs.YtmdkecdhgjjceaaGreat.hubTicks
open Go.ChangeShapes Go.WideShapes Go.ChangeAt Go.RowKit
open Go.ChangeMaps (open_string shut_string)

theorem own : ownKnob Tryz.prog.godebug = none := by kernel_rfl
theorem laidOut : laidOutB Tryz.prog = true := by kernel_rfl

set_option maxRecDepth 100000 in
theorem contract (H : Type) (enc : TypeId × Value → H) (W : World) (base : Nat) (args : Array Value) (ds gs : List (DataW H)) (before : List MemPlace)
    (hval : ∀ (j : Nat) t v, Tryz.f6.params[j]? = some t → args[j]? = some v → Value.okWide Tryz.prog W .any base t v)
    (hW : DataW.Whole enc Tryz.prog Tryz.f6.params.toList Rows.hubTicksSpec.vars false W args.toList ds gs before) (hk : (DataW.weightsEach Tryz.prog (Tryz.f6.params.toList ++ Rows.hubTicksSpec.plain.varTypes Tryz.prog) (ds ++ gs)).all (· ≤ reachBytes) = true) (hks : Rows.uptoSmall H (ds ++ gs) = true) :
    Calls Tryz.prog 6 args W fun e W' => ∃ v, e = .returned v ∧ Rows.hubTicksSpec.post enc Tryz.prog Tryz.f6 false true false false W args v W' := by
 have hW' := hW
 obtain ⟨p, q, hA0, hV, rfl, hfz, hnd⟩ := hW
 have hA : DataW.TrodAll enc Tryz.prog W 0 (fun _ => true) true Tryz.f6.params.toList args.toList ds p := hA0
 rw [Tryz.params6] at hA hval hk
 obtain ⟨v0, vs0, d0, ds0, p0, q0, hargs, rfl, rfl, h0, r0⟩ := trodAll_cons hA
 obtain ⟨v1, vs1, d1, ds1, p1, q1, rfl, rfl, rfl, h1, r1⟩ := trodAll_cons r0
 obtain ⟨v2, vs2, d2, ds2, p2, q2, rfl, rfl, rfl, h2, r2⟩ := trodAll_cons r1
 obtain ⟨rfl, rfl, rfl⟩ := trodAll_nil r2
 obtain rfl : args = #[v0, v1, v2] := by cases args; simp_all
 obtain ⟨rfl, rfl⟩ := trodVars_none hV
 clear hA0
 obtain ⟨x1, rfl, rfl, rfl, hx1⟩ := open_int Tryz.underlying3 (hval 1 3 v1 rfl rfl) h1
 obtain ⟨x2, rfl, rfl, rfl, hx2⟩ := open_string Tryz.underlying9 (hval 2 9 v2 rfl rfl) h2
 simp only [List.append_nil] at hW'
 have hrb : reachBytes = 140737488351232 := by decide
 have hsum := of_decide_eq_true hks
 simp only [List.append_nil, Rows.uptoBulkAll, Nat.add_zero] at hsum
 have hk0 : ∀ n ∈ DataW.weights Tryz.prog 28 d0, n ≤ reachBytes := fun n hn => by
  have := List.all_eq_true.1 hk n (DataW.weights_mem_each (j := 0) (t := 28) rfl rfl n hn)
  simpa using this
 have hk2 : ∀ n ∈ DataW.weights Tryz.prog 9 (.lit (.string x2.data.toList) : DataW H), n ≤ reachBytes := fun n hn => by
  have := List.all_eq_true.1 hk n (DataW.weights_mem_each (j := 2) (t := 9) rfl rfl n hn)
  simpa using this
 have hz2 : x2.size ≤ 150000000000000 := by
  have := hk2 _ (List.mem_of_mem_head? (by simp [DataW.weights] : _ = some x2.data.toList.length))
  rw [hrb, ← Lib.size_eq] at this
  omega
 have h0k := h0
 have hlt0 : ∀ x ∈ p0, x.block < W.heap.size := fun x hx => hW'.lt x (by simp [hx])
 obtain ⟨H0, hl0, hF0, hG0, hS0⟩ := open_hub (B := 1048576) (by decide) (hval 0 28 v0 rfl rfl) h0 (by omega) hk0
 have hz0 : SizedH H0 := ⟨fun s hs => ⟨by have := (hF0 s hs).1; omega, (fun e he => ⟨by have := ((hF0 s hs).2.1 e he).1; omega, by have := ((hF0 s hs).2.1 e he).2; omega⟩), (hF0 s hs).2.2.mono (by decide)⟩, hG0, hS0⟩
 have hu0 := hF0
 refine (hubTicks_walk H0 _ x1 x2 W hl0 hz0 hz2 hu0).mono fun e W' ⟨he, hb⟩ => ?_
 subst he
 exact ⟨_, rfl, _, _, _, [], _, [], hW', trodAll_cons_mk (shut_bool Tryz.underlying4 _) trodAll_mk0, (trodAll_cons_mk (Below.trod laidOut (by kernel_rfl) (of_decide_eq_true (by kernel_rfl)) h0k hb hlt0) (trodAll_cons_mk (shut_int Tryz.underlying3 hx1) (trodAll_cons_mk (shut_string Tryz.underlying9 hx2) trodAll_mk0))), rfl, hb.frame _, fun h => by cases h⟩

set_option maxRecDepth 100000 in
theorem liftedUpto (os : Os) (started : os.Started) (H : Type) (enc : TypeId × Value → H) (F : Stop.Interp) :
    ReturnsInHanded {} Tryz.checked os 6 .any ((Rows.OpenSpec.upto Rows.hubTicksSpec).pre6 enc Tryz.prog Tryz.f6 Rows.hubTicksUptoRow.domain false) (((Rows.OpenSpec.upto Rows.hubTicksSpec).at F).post enc Tryz.prog Tryz.f6 false true false false) := by
 refine returnsInHanded_of_cond_sized (C := Tryz.checked) (s := Rows.OpenSpec.upto Rows.hubTicksSpec) (k := Rows.uptoSmall) rfl own started (by kernel_rfl) Tryz.func6
  (OpenSpec.witness (enc := enc) (C := Tryz.checked) (s := Rows.OpenSpec.upto Rows.hubTicksSpec) (k := Rows.uptoSmall) rfl false ⟨#[], #[.agg #[.slice none 0 0, .slice none 0 0, .slice none 0 0, .int .i64 0, .int .i64 0, .int .i64 0, .int .i64 0], .int .i64 0, .string ⟨#[]⟩], []⟩ 8 (by kernel_rfl) (by kernel_rfl) (by kernel_rfl) (x := ([.agg [.nil, .nil, .agg [.nil, .lit (.int .i64 0), .lit (.int .i64 0), .lit (.int .i64 0)], .lit (.int .i64 0)], .lit (.int .i64 0), .lit (.string [])], [], [])) (by kernel_rfl) (by kernel_rfl) (by kernel_rfl)) ?_
 intro W base args ds gs before hval hW _ hk hsz _
 exact contract H enc W base args ds gs before hval hW hsz hk

theorem saidUpto : Rows.HubTicksUptoSaid :=
 OpenClaim.holds_of_cond 6 Tryz.f6 rfl rfl rfl rfl rfl rfl rfl ⟨rfl, rfl, rfl, rfl, rfl⟩ rfl rfl rfl rfl rfl (by kernel_rfl) Tryz.func6 (by kernel_rfl)
  (of_decide_eq_true (by kernel_rfl)) (by unfold Func.isWrapper; first | (rw [if_pos (by decide +kernel)]; kernel_rfl) | (rw [if_neg (by decide +kernel)]; exact ⟨rfl, rfl⟩))
  (fun os started H enc _ F => by rw [OpenClaim.pre_of_none' rfl]; exact liftedUpto os started H enc F)
end Go.Proofs.YtmdkecdhgjjceaaGreat.hubTicks
namespace Go.Proofs.YtmdkecdhgjjceaaGreat
theorem hubTicks_holds : Rows.HubTicksUptoSaid := hubTicks.saidUpto
#print axioms hubTicks_holds
end Go.Proofs.YtmdkecdhgjjceaaGreat
