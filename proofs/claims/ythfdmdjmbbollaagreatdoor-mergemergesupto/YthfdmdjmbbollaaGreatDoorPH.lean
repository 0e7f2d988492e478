/- What the reference's LikeTrees answers of two trees. What the reference's SameEntries answers, of the same trees. -/
import Derived.Test.YthfdmdjmbbollaaGreatDoorD11
import Derived.Test.YthfdmdjmbbollaaGreatDoorMD
import Derived.BigQuiet
import Derived.Deep.QuietTactic
set_option linter.unusedSimpArgs false
set_option linter.unusedVariables false
namespace Go.Proofs.YthfdmdjmbbollaaGreatDoor
open Go.RowKit

set_option maxRecDepth 100000 in
set_option maxHeartbeats 4000000 in
theorem rLike_any (A B : List En) (va vb : Value) (w : World) (hA : Lies w va A) (hB : Lies w vb B) (r : Bool) (hr : r = true ↔ Sp.likeP A B) :
    Calls Tryz.prog 15 #[va, vb] w fun e w' => e = .returned (.bool r) ∧ Below w.heap.size w w' := by
  have HRR := hid hr
  clear hr
  obtain ⟨a, capa, rfl, hcapa, hcapa2, hLA⟩ := hA
  have HA : Hid (∀ i (h : i < A.length), ∃ b o, a = some ⟨b, o, none⟩ ∧ b < w.heap.size ∧ EnAt w b (o + i * 4) A[i]) := hLA
  obtain ⟨a2, capb, rfl, hcapb, hcapb2, hLB⟩ := hB
  have HB : Hid (∀ i (h : i < B.length), ∃ b o, a2 = some ⟨b, o, none⟩ ∧ b < w.heap.size ∧ EnAt w b (o + i * 4) B[i]) := hLB
  clear hLA hLB
  by_cases hl : A.length = B.length
  · rw [← hl] at hcapb hcapb2 ⊢
    have HL := hid hl
    clear hl
    go_enter Tryz.func15, Tryz.ntmps15
    go_wp2_with fail
    go_loopw [5] (fun i wr => ∃ k : Nat, k ≤ A.length ∧ i = .int .i64 k ∧ Hid (∀ j (h : j < A.length) (h2 : j < B.length), j < k → Sp.likeE A[j] B[j] = true) ∧ Below w.heap.size w wr) (fun i _ => A.length - (intOf i).toNat)
    case atStart => exact ⟨0, Nat.zero_le _, rfl, (fun j _ _ h => absurd h (Nat.not_lt_zero _) : ∀ j (h : j < A.length) (h2 : j < B.length), j < 0 → Sp.likeE A[j] B[j] = true), Below.refl _ _⟩
    case round =>
      obtain ⟨k, hk, rfl, HP, hbel⟩ := hrel
      by_cases hlt : k < A.length
      · have hlt2 : k < B.length := by have := HL.out; omega
        obtain ⟨b, o, rfl, hb, he⟩ := HA.out k hlt
        obtain ⟨c0, c1, c2, c3⟩ := he.below hb hbel
        obtain ⟨b2, o2, rfl, hb2, he2⟩ := HB.out k hlt2
        obtain ⟨d0, d1, d2, d3⟩ := he2.below hb2 hbel
        have HN : Hid (Sp.likeE A[k] B[k] = false → (r = false)) := (fun h => Bool.eq_false_iff.2 fun x => by have := (HRR.out.1 x).2 k hlt hlt2; rw [h] at this; exact Bool.noConfusion this : Sp.likeE A[k] B[k] = false → (r = false))
        have HY : Hid (Sp.likeE A[k] B[k] = true → ∀ j (h : j < A.length) (h2 : j < B.length), j < k + 1 → Sp.likeE A[j] B[j] = true) := (fun hp j h1 h2 h3 => by
          by_cases e : j = k
          · subst e; exact hp
          · exact HP.out j h1 h2 (by omega) : Sp.likeE A[k] B[k] = true → ∀ j (h : j < A.length) (h2 : j < B.length), j < k + 1 → Sp.likeE A[j] B[j] = true)
        clear he he2
        generalize A[k] = x at *
        generalize B[k] = y at *
        cases h1 : (x.path.toList == y.path.toList) with
        | false =>
          have HE := hid (HN.out (by rw [Sp.likeE, h1]; rfl))
          clear HN HY
          go_wp2_with fail
          go_quiet (fail)
          generalize hwq : World.drewN wr _ = wq
          have hbq : Below w.heap.size w wq := hwq ▸ ⟨hbel.os, hbel.tape, hbel.output, hbel.size, hbel.block⟩
          clear hwq
          go_wp2_with fail
          go_ret
          exact ⟨by rw [HE.out]; rfl, hbq⟩
        | true =>
          cases h2 : (x.folder == y.folder) with
          | false =>
            have HE := hid (HN.out (by rw [Sp.likeE, h1, h2]; rfl))
            clear HN HY
            go_wp2_with fail
            go_quiet (fail)
            generalize hwq : World.drewN wr _ = wq
            have hbq : Below w.heap.size w wq := hwq ▸ ⟨hbel.os, hbel.tape, hbel.output, hbel.size, hbel.block⟩
            clear hwq
            go_wp2_with fail
            go_ret
            exact ⟨by rw [HE.out]; rfl, hbq⟩
          | true =>
            cases h3 : (x.text.toList == y.text.toList) with
            | false =>
              have HE := hid (HN.out (by rw [Sp.likeE, h1, h2, h3]; rfl))
              clear HN HY
              go_wp2_with fail
              go_quiet (fail)
              generalize hwq : World.drewN wr _ = wq
              have hbq : Below w.heap.size w wq := hwq ▸ ⟨hbel.os, hbel.tape, hbel.output, hbel.size, hbel.block⟩
              clear hwq
              go_wp2_with fail
              go_ret
              exact ⟨by rw [HE.out]; rfl, hbq⟩
            | true =>
              have HP2 := hid (HY.out (by rw [Sp.likeE, h1, h2, h3]; rfl))
              clear HN HY
              go_wp2_with fail
              go_quiet (fail)
              generalize hwq : World.drewN wr _ = wq
              have hbq : Below w.heap.size w wq := hwq ▸ ⟨hbel.os, hbel.tape, hbel.output, hbel.size, hbel.block⟩
              clear hwq
              go_wp2_with fail
              go_roundw
              case rel => exact ⟨k + 1, by omega, by simp, HP2, hbq⟩
              case measure => simp [intOf]; omega
      · have HE : Hid (r = true) := (HRR.out.2 ⟨HL.out, fun j h1 h2 => HP.out j h1 h2 (by omega)⟩ : r = true)
        go_wp2_with fail
        go_ret
        exact ⟨by rw [HE.out]; rfl, hbel⟩
  · have HE : Hid (r = false) := (Bool.eq_false_iff.2 fun x => hl (HRR.out.1 x).1 : r = false)
    have hl2 : ¬ (A.length : Int) = B.length := by omega
    go_enter Tryz.func15, Tryz.ntmps15
    go_wp2_with fail
    go_ret
    exact ⟨by rw [HE.out]; rfl, Below.refl _ _⟩

end Go.Proofs.YthfdmdjmbbollaaGreatDoor
set_option linter.unusedSimpArgs false
set_option linter.unusedVariables false
namespace Go.Proofs.YthfdmdjmbbollaaGreatDoor
open Go.RowKit

set_option maxHeartbeats 1000000 in
theorem same_yes (L : List En) (v u : Value) (w : World) (hv : Lies w v L) (hu : Lies w u L) :
    Calls Tryz.prog 16 #[v, u] w fun e w' => e = .returned (.bool true) ∧ Below w.heap.size w w' := by
  obtain ⟨a, cap, rfl, hcap, hcap2, hL⟩ := hv
  have HL : Hid (∀ i (h : i < L.length), ∃ b o, a = some ⟨b, o, none⟩ ∧ b < w.heap.size ∧ EnAt w b (o + i * 4) L[i]) := hL
  obtain ⟨a', cap', rfl, hcap', _, hL'⟩ := hu
  have HL' : Hid (∀ i (h : i < L.length), ∃ b o, a' = some ⟨b, o, none⟩ ∧ b < w.heap.size ∧ EnAt w b (o + i * 4) L[i]) := hL'
  clear hL hL'
  go_enter Tryz.func16, Tryz.ntmps16
  go_wp2_with fail
  go_loopw [5] (fun i wr => ∃ k : Nat, k ≤ L.length ∧ i = .int .i64 k ∧ Below w.heap.size w wr) (fun i _ => L.length - (intOf i).toNat)
  case atStart => exact ⟨0, Nat.zero_le _, rfl, Below.refl _ _⟩
  case round =>
    obtain ⟨k, hk, rfl, hbel⟩ := hrel
    by_cases hlt : k < L.length
    · obtain ⟨b, o, rfl, hb, he⟩ := HL.out k hlt
      obtain ⟨b', o', rfl, hb', he'⟩ := HL'.out k hlt
      obtain ⟨c0, c1, c2, c3⟩ := he.below hb hbel
      obtain ⟨d0, d1, d2, d3⟩ := he'.below hb' hbel
      go_wp2_with fail
      go_region
      go_wp2_with fail
      go_roundw
      case rel => exact ⟨k + 1, by omega, by simp, hbel.drew⟩
      case measure => simp [intOf]; omega
    · go_wp2_with fail
      go_ret
      exact ⟨rfl, hbel⟩

--@if tetherpost/tetherpostlaw.treeIs
end Go.Proofs.YthfdmdjmbbollaaGreatDoor
