/- HubApart is true of every hub and every two requests (its first form): what is asked of one folder does not hang on what was asked of another one ahead of it. -/
import Derived.Test.YtchlgpeiombmdaaGreatHL7
import Derived.Test.YtchlgpeiombmdaaGreatRows
import Derived.Test.YtchlgpeiombmdaaGreatKP
import Derived.WalkKit
import Derived.ProofKit
import Derived.OpenShut
import Derived.JoinedCond
import Derived.Carry
import Derived.SizedLaws
set_option linter.unusedSimpArgs false
set_option linter.unusedVariables false
namespace Go.Proofs.YtchlgpeiombmdaaGreat.hubApart
open Go.ChangeShapes Go.WideShapes Go.ChangeAt Go.RowKit
open Go.ChangeMaps (open_string shut_string)

theorem own : ownKnob Tryz.prog.godebug = none := by kernel_rfl
theorem laidOut : laidOutB Tryz.prog = true := by kernel_rfl
set_option maxRecDepth 100000 in
theorem contract (H : Type) (enc : TypeId × Value → H) (W : World) (base : Nat) (args : Array Value) (ds gs : List (DataW H)) (before : List MemPlace)
    (hval : ∀ (j : Nat) t v, Tryz.f5.params[j]? = some t → args[j]? = some v → Value.okWide Tryz.prog W .any base t v)
    (hW : DataW.Whole enc Tryz.prog Tryz.f5.params.toList Rows.hubApartSpec.vars false W args.toList ds gs before) (hk : (DataW.weightsEach Tryz.prog (Tryz.f5.params.toList ++ Rows.hubApartSpec.plain.varTypes Tryz.prog) (ds ++ gs)).all (· ≤ reachBytes) = true) :
    Calls Tryz.prog 5 args W fun e W' => ∃ v, e = .returned v ∧ Rows.hubApartSpec.post enc Tryz.prog Tryz.f5 false true false false W args v W' := by
 have hW' := hW
 obtain ⟨p, q, hA0, hV, rfl, hfz, hnd⟩ := hW
 have hA : DataW.TrodAll enc Tryz.prog W 0 (fun _ => true) true Tryz.f5.params.toList args.toList ds p := hA0
 rw [Tryz.params5] at hA hval hk
 obtain ⟨v0, vs0, d0, ds0, p0, q0, hargs, rfl, rfl, h0, r0⟩ := trodAll_cons hA
 obtain ⟨v1, vs1, d1, ds1, p1, q1, rfl, rfl, rfl, h1, r1⟩ := trodAll_cons r0
 obtain ⟨v2, vs2, d2, ds2, p2, q2, rfl, rfl, rfl, h2, r2⟩ := trodAll_cons r1
 obtain ⟨rfl, rfl, rfl⟩ := trodAll_nil r2
 obtain rfl : args = #[v0, v1, v2] := by cases args; simp_all
 obtain ⟨rfl, rfl⟩ := trodVars_none hV
 clear hA0
 simp only [List.append_nil] at hW'
 have hrb : reachBytes = 140737488351232 := by decide
 have hk0 : ∀ n ∈ DataW.weights Tryz.prog 28 d0, n ≤ reachBytes := fun n hn => by
  have := List.all_eq_true.1 hk n (DataW.weights_mem_each (j := 0) (t := 28) rfl rfl n hn)
  simpa using this
 have hk1 : ∀ n ∈ DataW.weights Tryz.prog 31 d1, n ≤ reachBytes := fun n hn => by
  have := List.all_eq_true.1 hk n (DataW.weights_mem_each (j := 1) (t := 31) rfl rfl n hn)
  simpa using this
 have hk2 : ∀ n ∈ DataW.weights Tryz.prog 31 d2, n ≤ reachBytes := fun n hn => by
  have := List.all_eq_true.1 hk n (DataW.weights_mem_each (j := 2) (t := 31) rfl rfl n hn)
  simpa using this
 have h0k := h0
 have hlt0 : ∀ x ∈ p0, x.block < W.heap.size := fun x hx => hW'.lt x (by simp [hx])
 have h1k := h1
 have hlt1 : ∀ x ∈ p1, x.block < W.heap.size := fun x hx => hW'.lt x (by simp [hx])
 have h2k := h2
 have hlt2 : ∀ x ∈ p2, x.block < W.heap.size := fun x hx => hW'.lt x (by simp [hx])
 obtain ⟨H0, hl0, hF0, hG0, hS0⟩ := open_hub_w (hval 0 28 v0 rfl rfl) h0 hk0
 rw [hrb] at hF0
 have hz0 : SizedH H0 := ⟨fun s hs => ⟨by have := (hF0 s hs).1; omega, (fun e he => ⟨by have := ((hF0 s hs).2.1 e he).1; omega, by have := ((hF0 s hs).2.1 e he).2; omega⟩), (hF0 s hs).2.2.mono (by decide)⟩, hG0, hS0⟩
 obtain ⟨Q1, hl1, ⟨a1, b1, c1, e1, f1⟩, hC1⟩ := open_request_w (hval 1 31 v1 rfl rfl) h1 hk1
 rw [hrb] at a1 b1 c1 e1 f1 hC1
 have hz1 : SizedQ Q1 := ⟨by omega, by omega, by omega, by omega, by omega, fun x hx => ⟨by have := (hC1 x hx).1; omega, by have := (hC1 x hx).2.1; omega, by have := (hC1 x hx).2.2; omega⟩⟩
 obtain ⟨Q2, hl2, ⟨a2, b2, c2, e2, f2⟩, hC2⟩ := open_request_w (hval 2 31 v2 rfl rfl) h2 hk2
 rw [hrb] at a2 b2 c2 e2 f2 hC2
 have hz2 : SizedQ Q2 := ⟨by omega, by omega, by omega, by omega, by omega, fun x hx => ⟨by have := (hC2 x hx).1; omega, by have := (hC2 x hx).2.1; omega, by have := (hC2 x hx).2.2; omega⟩⟩
 refine (hubApart_walk H0 Q1 Q2 v0 v1 v2 W hl0 hz0 hl1 hz1 hl2 hz2).mono fun e W' ⟨he, hb⟩ => ?_
 subst he
 exact ⟨_, rfl, _, _, _, [], _, [], hW', trodAll_cons_mk (shut_bool Tryz.underlying4 _) trodAll_mk0, (trodAll_cons_mk (Below.trod laidOut (by kernel_rfl) (of_decide_eq_true (by kernel_rfl)) h0k hb hlt0) (trodAll_cons_mk (Below.trod laidOut (by kernel_rfl) (of_decide_eq_true (by kernel_rfl)) h1k hb hlt1) (trodAll_cons_mk (Below.trod laidOut (by kernel_rfl) (of_decide_eq_true (by kernel_rfl)) h2k hb hlt2) trodAll_mk0))), rfl, hb.frame _, fun h => by cases h⟩
set_option maxRecDepth 100000 in
theorem lifted (os : Os) (started : os.Started) (H : Type) (enc : TypeId × Value → H) :
    ReturnsInHanded {} Tryz.checked os 5 .any (Rows.hubApartSpec.pre6 enc Tryz.prog Tryz.f5 Rows.hubApartRow.domain false) (Rows.hubApartSpec.post enc Tryz.prog Tryz.f5 false true false false) := by
 refine returnsInHanded_of_change_sized (C := Tryz.checked) own started (by kernel_rfl) Tryz.func5
  (ChangeSpec.witness6 (enc := enc) (C := Tryz.checked) false ⟨#[], #[.agg #[.slice none 0 0, .slice none 0 0, .slice none 0 0, .int .i64 0, .int .i64 0, .int .i64 0, .int .i64 0], .agg #[.int .i64 0, .string ⟨#[]⟩, .string ⟨#[]⟩, .string ⟨#[]⟩, .string ⟨#[]⟩, .string ⟨#[]⟩, .int .i64 0, .int .i64 0, .int .i64 0, .slice none 0 0], .agg #[.int .i64 0, .string ⟨#[]⟩, .string ⟨#[]⟩, .string ⟨#[]⟩, .string ⟨#[]⟩, .string ⟨#[]⟩, .int .i64 0, .int .i64 0, .int .i64 0, .slice none 0 0]], []⟩ 8 (by kernel_rfl) (by kernel_rfl) (by kernel_rfl) (by kernel_rfl)) ?_
 intro W base args ds gs before hval hW _ hsz _
 exact contract H enc W base args ds gs before hval hW hsz
theorem said : Rows.HubApartSaid :=
 OpenClaim.holds_of_wide 5 Tryz.f5 rfl rfl rfl rfl rfl rfl rfl ⟨rfl, rfl, rfl, rfl, rfl⟩ rfl rfl rfl rfl rfl (by kernel_rfl) Tryz.func5 (by kernel_rfl)
  (of_decide_eq_true (by kernel_rfl)) (by unfold Func.isWrapper; first | (rw [if_pos (by decide +kernel)]; kernel_rfl) | (rw [if_neg (by decide +kernel)]; exact ⟨rfl, rfl⟩))
  (fun os started H enc _ => lifted os started H enc)
end Go.Proofs.YtchlgpeiombmdaaGreat.hubApart
namespace Go.Proofs.YtchlgpeiombmdaaGreat
theorem hubApart_holds : Rows.HubApartSaid := hubApart.said
#print axioms hubApart_holds
end Go.Proofs.YtchlgpeiombmdaaGreat
