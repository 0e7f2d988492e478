/- HubUploads is true of every hub and all texts (its first form): a text that was uploaded, and finished, is a file, if there is room for it, and who asks may. -/
import Derived.Test.YtchlgpeiombmdaaGreatQZG
import Derived.Test.YtchlgpeiombmdaaGreatRows
import Derived.Test.YtchlgpeiombmdaaGreatQZI
import Derived.WalkKit
import Derived.ProofKit
import Derived.OpenShut
import Derived.JoinedCond
import Derived.Carry
import Derived.SizedLaws
set_option linter.unusedSimpArgs false
set_option linter.unusedVariables false
namespace Go.Proofs.YtchlgpeiombmdaaGreat.hubUploads
open Go.ChangeShapes Go.WideShapes Go.ChangeAt Go.RowKit
open Go.ChangeMaps (open_string shut_string)

theorem own : ownKnob Tryz.prog.godebug = none := by kernel_rfl
theorem laidOut : laidOutB Tryz.prog = true := by kernel_rfl
set_option maxRecDepth 100000 in
theorem contract (H : Type) (enc : TypeId × Value → H) (W : World) (base : Nat) (args : Array Value) (ds gs : List (DataW H)) (before : List MemPlace)
    (hval : ∀ (j : Nat) t v, Tryz.f7.params[j]? = some t → args[j]? = some v → Value.okWide Tryz.prog W .any base t v)
    (hW : DataW.Whole enc Tryz.prog Tryz.f7.params.toList Rows.hubUploadsSpec.vars false W args.toList ds gs before) (hk : (DataW.weightsEach Tryz.prog (Tryz.f7.params.toList ++ Rows.hubUploadsSpec.plain.varTypes Tryz.prog) (ds ++ gs)).all (· ≤ reachBytes) = true) :
    Calls Tryz.prog 7 args W fun e W' => ∃ v, e = .returned v ∧ Rows.hubUploadsSpec.post enc Tryz.prog Tryz.f7 false true false false W args v W' := by
 have hW' := hW
 obtain ⟨p, q, hA0, hV, rfl, hfz, hnd⟩ := hW
 have hA : DataW.TrodAll enc Tryz.prog W 0 (fun _ => true) true Tryz.f7.params.toList args.toList ds p := hA0
 rw [Tryz.params7] at hA hval hk
 obtain ⟨v0, vs0, d0, ds0, p0, q0, hargs, rfl, rfl, h0, r0⟩ := trodAll_cons hA
 obtain ⟨v1, vs1, d1, ds1, p1, q1, rfl, rfl, rfl, h1, r1⟩ := trodAll_cons r0
 obtain ⟨v2, vs2, d2, ds2, p2, q2, rfl, rfl, rfl, h2, r2⟩ := trodAll_cons r1
 obtain ⟨v3, vs3, d3, ds3, p3, q3, rfl, rfl, rfl, h3, r3⟩ := trodAll_cons r2
 obtain ⟨v4, vs4, d4, ds4, p4, q4, rfl, rfl, rfl, h4, r4⟩ := trodAll_cons r3
 obtain ⟨v5, vs5, d5, ds5, p5, q5, rfl, rfl, rfl, h5, r5⟩ := trodAll_cons r4
 obtain ⟨rfl, rfl, rfl⟩ := trodAll_nil r5
 obtain rfl : args = #[v0, v1, v2, v3, v4, v5] := by cases args; simp_all
 obtain ⟨rfl, rfl⟩ := trodVars_none hV
 clear hA0
 obtain ⟨x1, rfl, rfl, rfl, hx1⟩ := open_string Tryz.underlying9 (hval 1 9 v1 rfl rfl) h1
 obtain ⟨x2, rfl, rfl, rfl, hx2⟩ := open_string Tryz.underlying9 (hval 2 9 v2 rfl rfl) h2
 obtain ⟨x3, rfl, rfl, rfl, hx3⟩ := open_string Tryz.underlying9 (hval 3 9 v3 rfl rfl) h3
 obtain ⟨x4, rfl, rfl, rfl, hx4⟩ := open_string Tryz.underlying9 (hval 4 9 v4 rfl rfl) h4
 obtain ⟨x5, rfl, rfl, rfl, hx5⟩ := open_string Tryz.underlying9 (hval 5 9 v5 rfl rfl) h5
 simp only [List.append_nil] at hW'
 have hrb : reachBytes = 140737488351232 := by decide
 have hk0 : ∀ n ∈ DataW.weights Tryz.prog 28 d0, n ≤ reachBytes := fun n hn => by
  have := List.all_eq_true.1 hk n (DataW.weights_mem_each (j := 0) (t := 28) rfl rfl n hn)
  simpa using this
 have hk1 : ∀ n ∈ DataW.weights Tryz.prog 9 (.lit (.string x1.data.toList) : DataW H), n ≤ reachBytes := fun n hn => by
  have := List.all_eq_true.1 hk n (DataW.weights_mem_each (j := 1) (t := 9) rfl rfl n hn)
  simpa using this
 have hz1 : x1.size ≤ 150000000000000 := by
  have := hk1 _ (List.mem_of_mem_head? (by simp [DataW.weights] : _ = some x1.data.toList.length))
  rw [hrb, ← Lib.size_eq] at this
  omega
 have hk2 : ∀ n ∈ DataW.weights Tryz.prog 9 (.lit (.string x2.data.toList) : DataW H), n ≤ reachBytes := fun n hn => by
  have := List.all_eq_true.1 hk n (DataW.weights_mem_each (j := 2) (t := 9) rfl rfl n hn)
  simpa using this
 have hz2 : x2.size ≤ 150000000000000 := by
  have := hk2 _ (List.mem_of_mem_head? (by simp [DataW.weights] : _ = some x2.data.toList.length))
  rw [hrb, ← Lib.size_eq] at this
  omega
 have hk3 : ∀ n ∈ DataW.weights Tryz.prog 9 (.lit (.string x3.data.toList) : DataW H), n ≤ reachBytes := fun n hn => by
  have := List.all_eq_true.1 hk n (DataW.weights_mem_each (j := 3) (t := 9) rfl rfl n hn)
  simpa using this
 have hz3 : x3.size ≤ 150000000000000 := by
  have := hk3 _ (List.mem_of_mem_head? (by simp [DataW.weights] : _ = some x3.data.toList.length))
  rw [hrb, ← Lib.size_eq] at this
  omega
 have hk4 : ∀ n ∈ DataW.weights Tryz.prog 9 (.lit (.string x4.data.toList) : DataW H), n ≤ reachBytes := fun n hn => by
  have := List.all_eq_true.1 hk n (DataW.weights_mem_each (j := 4) (t := 9) rfl rfl n hn)
  simpa using this
 have hz4 : x4.size ≤ 150000000000000 := by
  have := hk4 _ (List.mem_of_mem_head? (by simp [DataW.weights] : _ = some x4.data.toList.length))
  rw [hrb, ← Lib.size_eq] at this
  omega
 have hk5 : ∀ n ∈ DataW.weights Tryz.prog 9 (.lit (.string x5.data.toList) : DataW H), n ≤ reachBytes := fun n hn => by
  have := List.all_eq_true.1 hk n (DataW.weights_mem_each (j := 5) (t := 9) rfl rfl n hn)
  simpa using this
 have hz5 : x5.size ≤ 150000000000000 := by
  have := hk5 _ (List.mem_of_mem_head? (by simp [DataW.weights] : _ = some x5.data.toList.length))
  rw [hrb, ← Lib.size_eq] at this
  omega
 have h0k := h0
 have hlt0 : ∀ x ∈ p0, x.block < W.heap.size := fun x hx => hW'.lt x (by simp [hx])
 obtain ⟨H0, hl0, hF0, hG0, hS0⟩ := open_hub_w (hval 0 28 v0 rfl rfl) h0 hk0
 rw [hrb] at hF0
 have hz0 : SizedH H0 := ⟨fun s hs => ⟨by have := (hF0 s hs).1; omega, (fun e he => ⟨by have := ((hF0 s hs).2.1 e he).1; omega, by have := ((hF0 s hs).2.1 e he).2; omega⟩), (hF0 s hs).2.2.mono (by decide)⟩, hG0, hS0⟩
 refine (hubUploads_walk H0 x1 x2 x3 x4 x5 v0 W hl0 hz0 hz1 hz2 hz3 hz4 hz5).mono fun e W' ⟨he, hb⟩ => ?_
 subst he
 exact ⟨_, rfl, _, _, _, [], _, [], hW', trodAll_cons_mk (shut_bool Tryz.underlying4 _) trodAll_mk0, (trodAll_cons_mk (Below.trod laidOut (by kernel_rfl) (of_decide_eq_true (by kernel_rfl)) h0k hb hlt0) (trodAll_cons_mk (shut_string Tryz.underlying9 hx1) (trodAll_cons_mk (shut_string Tryz.underlying9 hx2) (trodAll_cons_mk (shut_string Tryz.underlying9 hx3) (trodAll_cons_mk (shut_string Tryz.underlying9 hx4) (trodAll_cons_mk (shut_string Tryz.underlying9 hx5) trodAll_mk0)))))), rfl, hb.frame _, fun h => by cases h⟩
set_option maxRecDepth 100000 in
theorem lifted (os : Os) (started : os.Started) (H : Type) (enc : TypeId × Value → H) :
    ReturnsInHanded {} Tryz.checked os 7 .any (Rows.hubUploadsSpec.pre6 enc Tryz.prog Tryz.f7 Rows.hubUploadsRow.domain false) (Rows.hubUploadsSpec.post enc Tryz.prog Tryz.f7 false true false false) := by
 refine returnsInHanded_of_change_sized (C := Tryz.checked) own started (by kernel_rfl) Tryz.func7
  (ChangeSpec.witness6 (enc := enc) (C := Tryz.checked) false ⟨#[], #[.agg #[.slice none 0 0, .slice none 0 0, .slice none 0 0, .int .i64 0, .int .i64 0, .int .i64 0, .int .i64 0], .string ⟨#[]⟩, .string ⟨#[]⟩, .string ⟨#[]⟩, .string ⟨#[]⟩, .string ⟨#[]⟩], []⟩ 8 (by kernel_rfl) (by kernel_rfl) (by kernel_rfl) (by kernel_rfl)) ?_
 intro W base args ds gs before hval hW _ hsz _
 exact contract H enc W base args ds gs before hval hW hsz
theorem said : Rows.HubUploadsSaid :=
 OpenClaim.holds_of_wide 7 Tryz.f7 rfl rfl rfl rfl rfl rfl rfl ⟨rfl, rfl, rfl, rfl, rfl⟩ rfl rfl rfl rfl rfl (by kernel_rfl) Tryz.func7 (by kernel_rfl)
  (of_decide_eq_true (by kernel_rfl)) (by unfold Func.isWrapper; first | (rw [if_pos (by decide +kernel)]; kernel_rfl) | (rw [if_neg (by decide +kernel)]; exact ⟨rfl, rfl⟩))
  (fun os started H enc _ => lifted os started H enc)
end Go.Proofs.YtchlgpeiombmdaaGreat.hubUploads
namespace Go.Proofs.YtchlgpeiombmdaaGreat
theorem hubUploads_holds : Rows.HubUploadsSaid := hubUploads.said
#print axioms hubUploads_holds
end Go.Proofs.YtchlgpeiombmdaaGreat
