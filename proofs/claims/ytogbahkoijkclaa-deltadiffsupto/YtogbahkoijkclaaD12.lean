/- What the reference's LikeTrees, delta.Same and the law's twoTrees answer of two trees. -/
import Derived.Test.YtogbahkoijkclaaD10
import Derived.Test.YtogbahkoijkclaaD11
import Derived.Test.YtogbahkoijkclaaT13
import Derived.BigQuiet
import Derived.Deep.QuietTactic
set_option linter.unusedSimpArgs false
set_option linter.unusedVariables false
namespace Go.Proofs.Ytogbahkoijkclaa
open Go.RowKit

set_option maxRecDepth 100000 in
set_option maxHeartbeats 4000000 in
theorem rLike_any (A B : List En) (va vb : Value) (w : World) (hA : Lies w va A) (hB : Lies w vb B) (r : Bool) (hr : r = true ↔ Sp.likeP A B) :
    Calls Try.prog 8 #[va, vb] w fun e w' => e = .returned (.bool r) ∧ Below w.heap.size w w' := by
  have HRR := hid hr
  clear hr
  obtain ⟨a, capa, rfl, hcapa, hcapa2, hLA⟩ := hA
  have HA : Hid (∀ i (h : i < A.length), ∃ b o, a = some ⟨b, o, none⟩ ∧ b < w.heap.size ∧ EnAt w b (o + i * 4) A[i]) := hLA
  obtain ⟨a2, capb, rfl, hcapb, hcapb2, hLB⟩ := hB
  have HB : Hid (∀ i (h : i < B.length), ∃ b o, a2 = some ⟨b, o, none⟩ ∧ b < w.heap.size ∧ EnAt w b (o + i * 4) B[i]) := hLB
  clear hLA hLB
  by_cases hl : A.length = B.length
  · rw [← hl] at hcapb hcapb2 ⊢
    have HL := hid hl
    clear hl
    go_enter Try.func8, Try.ntmps8
    go_wp2_with fail
    go_loopw [5] (fun i wr => ∃ k : Nat, k ≤ A.length ∧ i = .int .i64 k ∧ Hid (∀ j (h : j < A.length) (h2 : j < B.length), j < k → Sp.likeE A[j] B[j] = true) ∧ Below w.heap.size w wr) (fun i _ => A.length - (intOf i).toNat)
    case atStart => exact ⟨0, Nat.zero_le _, rfl, (fun j _ _ h => absurd h (Nat.not_lt_zero _) : ∀ j (h : j < A.length) (h2 : j < B.length), j < 0 → Sp.likeE A[j] B[j] = true), Below.refl _ _⟩
    case round =>
      obtain ⟨k, hk, rfl, HP, hbel⟩ := hrel
      by_cases hlt : k < A.length
      · have hlt2 : k < B.length := by have := HL.out; omega
        obtain ⟨b, o, rfl, hb, he⟩ := HA.out k hlt
        obtain ⟨c0, c1, c2, c3⟩ := he.below hb hbel
        obtain ⟨b2, o2, rfl, hb2, he2⟩ := HB.out k hlt2
        obtain ⟨d0, d1, d2, d3⟩ := he2.below hb2 hbel
        have HN : Hid (Sp.likeE A[k] B[k] = false → (r = false)) := (fun h => Bool.eq_false_iff.2 fun x => by have := (HRR.out.1 x).2 k hlt hlt2; rw [h] at this; exact Bool.noConfusion this : Sp.likeE A[k] B[k] = false → (r = false))
        have HY : Hid (Sp.likeE A[k] B[k] = true → ∀ j (h : j < A.length) (h2 : j < B.length), j < k + 1 → Sp.likeE A[j] B[j] = true) := (fun hp j h1 h2 h3 => by
          by_cases e : j = k
          · subst e; exact hp
          · exact HP.out j h1 h2 (by omega) : Sp.likeE A[k] B[k] = true → ∀ j (h : j < A.length) (h2 : j < B.length), j < k + 1 → Sp.likeE A[j] B[j] = true)
        clear he he2
        generalize A[k] = x at *
        generalize B[k] = y at *
        cases h1 : (x.path.toList == y.path.toList) with
        | false =>
          have HE := hid (HN.out (by rw [Sp.likeE, h1]; rfl))
          clear HN HY
          go_wp2_with fail
          go_quiet (fail)
          generalize hwq : World.drewN wr _ = wq
          have hbq : Below w.heap.size w wq := hwq ▸ ⟨hbel.os, hbel.tape, hbel.output, hbel.size, hbel.block⟩
          clear hwq
          go_wp2_with fail
          go_ret
          exact ⟨by rw [HE.out]; rfl, hbq⟩
        | true =>
          cases h2 : (x.folder == y.folder) with
          | false =>
            have HE := hid (HN.out (by rw [Sp.likeE, h1, h2]; rfl))
            clear HN HY
            go_wp2_with fail
            go_quiet (fail)
            generalize hwq : World.drewN wr _ = wq
            have hbq : Below w.heap.size w wq := hwq ▸ ⟨hbel.os, hbel.tape, hbel.output, hbel.size, hbel.block⟩
            clear hwq
            go_wp2_with fail
            go_ret
            exact ⟨by rw [HE.out]; rfl, hbq⟩
          | true =>
            cases h3 : (x.text.toList == y.text.toList) with
            | false =>
              have HE := hid (HN.out (by rw [Sp.likeE, h1, h2, h3]; rfl))
              clear HN HY
              go_wp2_with fail
              go_quiet (fail)
              generalize hwq : World.drewN wr _ = wq
              have hbq : Below w.heap.size w wq := hwq ▸ ⟨hbel.os, hbel.tape, hbel.output, hbel.size, hbel.block⟩
              clear hwq
              go_wp2_with fail
              go_ret
              exact ⟨by rw [HE.out]; rfl, hbq⟩
            | true =>
              have HP2 := hid (HY.out (by rw [Sp.likeE, h1, h2, h3]; rfl))
              clear HN HY
              go_wp2_with fail
              go_quiet (fail)
              generalize hwq : World.drewN wr _ = wq
              have hbq : Below w.heap.size w wq := hwq ▸ ⟨hbel.os, hbel.tape, hbel.output, hbel.size, hbel.block⟩
              clear hwq
              go_wp2_with fail
              go_roundw
              case rel => exact ⟨k + 1, by omega, by simp, HP2, hbq⟩
              case measure => simp [intOf]; omega
      · have HE : Hid (r = true) := (HRR.out.2 ⟨HL.out, fun j h1 h2 => HP.out j h1 h2 (by omega)⟩ : r = true)
        go_wp2_with fail
        go_ret
        exact ⟨by rw [HE.out]; rfl, hbel⟩
  · have HE : Hid (r = false) := (Bool.eq_false_iff.2 fun x => hl (HRR.out.1 x).1 : r = false)
    have hl2 : ¬ (A.length : Int) = B.length := by omega
    go_enter Try.func8, Try.ntmps8
    go_wp2_with fail
    go_ret
    exact ⟨by rw [HE.out]; rfl, Below.refl _ _⟩

theorem own_slice {w : World} {B : Nat} {e : TypeId} {size : Nat} {v : Value} {n : Nat} {xs : List Value} (h : w.ownsRow B e size v n xs) : ∃ a cap, v = .slice a n cap := by
  obtain ⟨_, h2⟩ := h
  rcases h2 with ⟨rfl, rfl⟩ | ⟨g, cap, cur, rfl, _⟩
  · exact ⟨none, 0, rfl⟩
  · exact ⟨_, _, rfl⟩

def Sp.sameB (A B : List En) : Bool := (Sp.dfE A B == 0) && ((Sp.dfL A B).length == 0)

set_option maxRecDepth 100000 in
set_option maxHeartbeats 2000000 in
theorem same_any (A B : List En) (va vb : Value) (w : World) (hA : Lies w va A) (hB : Lies w vb B) (hsA : Sized A) (hsB : Sized B) :
    Calls Try.prog 5 #[va, vb] w fun e w' => e = .returned (.tuple #[.bool (Sp.sameB A B), .int .i64 (Sp.dfE A B)]) ∧ Below w.heap.size w w' := by
  have HVA := hid hA
  have HVB := hid hB
  have HSA := hid hsA
  have HSB := hid hsB
  clear hA hB hsA hsB
  obtain ⟨s, hs⟩ : ∃ s, s = Sp.sameB A B := ⟨_, rfl⟩
  obtain ⟨x, hx⟩ : ∃ x, x = Sp.dfE A B := ⟨_, rfl⟩
  obtain ⟨n, hn⟩ : ∃ n, n = (Sp.dfL A B).length := ⟨_, rfl⟩
  rw [← hs, ← hx]
  have HX : Hid (s = ((x == 0) && (n == 0))) := (by rw [hs, Sp.sameB, ← hx, ← hn] : s = ((x == 0) && (n == 0)))
  have HXE := hid hx
  have HNE := hid hn
  clear hs hx hn
  go_enter Try.func5, Try.ntmps5
  go_wp2_with fail
  refine (diff_any A B _ _ _ HVA.out HVB.out HSA.out HSB.out).mono ?_
  rintro e w1 ⟨u, rfl, hou, hb1⟩
  obtain ⟨au, capu, rfl⟩ := own_slice hou
  rw [← HXE.out, ← HNE.out]
  clear hou
  cases hx : (x == 0) with
  | false =>
    go_wp2_with fail
    go_ret2
    exact ⟨by rw [HX.out, hx]; rfl, hb1⟩
  | true =>
    have hn : (n == 0) = ((n : Int) == 0) := by
      cases n with
      | zero => rfl
      | succ n => simp; omega
    go_wp2_with fail
    go_ret2
    exact ⟨by rw [HX.out, hx, hn]; rfl, hb1⟩

set_option maxRecDepth 100000 in
set_option maxHeartbeats 2000000 in
theorem twoTrees_any (A B : List En) (va vb : Value) (w : World) (hA : Lies w va A) (hB : Lies w vb B) (hsA : ∀ e ∈ A, e.path.size ≤ 1000000000) (hsB : ∀ e ∈ B, e.path.size ≤ 1000000000) :
    Calls Try.prog 6 #[va, vb] w fun e w' => e = .returned (.int .i64 (Sp.dfE A B)) ∧ Below w.heap.size w w' := by
  have HVA := hid hA
  have HVB := hid hB
  have HSA := hid hsA
  have HSB := hid hsB
  clear hA hB hsA hsB
  obtain ⟨y, hy⟩ : ∃ y, y = Pp.treeE A := ⟨_, rfl⟩
  obtain ⟨z, hz⟩ : ∃ z, z = Sp.dfE A B := ⟨_, rfl⟩
  rw [← hz]
  have HY := hid hy
  have HZ := hid hz
  clear hy hz
  go_enter Try.func6, Try.ntmps6
  go_wp2_with fail
  refine (rCheckTree_any A _ _ HVA.out HSA.out).mono ?_
  rintro e w1 ⟨rfl, hb1⟩
  rw [← HY.out]
  by_cases ha : y = 0
  · have HE : Hid (z = Pp.treeE B) := (by rw [HZ.out, Sp.dfE, if_pos (by rw [← HY.out]; exact ha)] : z = Pp.treeE B)
    rw [ha]
    clear ha
    go_wp2_with fail
    refine (rCheckTree_any B _ _ (HVB.out.below hb1) HSB.out).mono ?_
    rintro e w2 ⟨rfl, hb2⟩
    rw [← HE.out]
    have hb02 := below_trans hb1 hb2
    go_wp2_with fail
    go_ret
    exact ⟨rfl, hb02⟩
  · have HE : Hid (z = y) := (by rw [HZ.out, Sp.dfE, if_neg (by rw [← HY.out]; exact ha), HY.out] : z = y)
    have ha2 : (y == 0) = false := by simpa using ha
    go_wp2_with fail
    go_ret
    exact ⟨by rw [HE.out]; rfl, hb1⟩
end Go.Proofs.Ytogbahkoijkclaa
