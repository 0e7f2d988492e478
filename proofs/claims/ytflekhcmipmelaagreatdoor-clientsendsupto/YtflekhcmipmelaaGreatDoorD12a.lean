/- What delta.Same answers of two trees. -/
import Derived.Test.YtflekhcmipmelaaGreatDoorPO
set_option linter.unusedSimpArgs false
set_option linter.unusedVariables false
namespace Go.Proofs.YtflekhcmipmelaaGreatDoor
open Go.RowKit

theorem own_slice {w : World} {B : Nat} {e : TypeId} {size : Nat} {v : Value} {n : Nat} {xs : List Value} (h : w.ownsRow B e size v n xs) : ∃ a cap, v = .slice a n cap := by
  obtain ⟨_, h2⟩ := h
  rcases h2 with ⟨rfl, rfl⟩ | ⟨g, cap, cur, rfl, _⟩
  · exact ⟨none, 0, rfl⟩
  · exact ⟨_, _, rfl⟩

def Sp.sameB (A B : List En) : Bool := (Sp.dfE A B == 0) && ((Sp.dfL A B).length == 0)

set_option maxRecDepth 100000 in
set_option maxHeartbeats 2000000 in
theorem same_any (A B : List En) (va vb : Value) (w : World) (hA : Lies w va A) (hB : Lies w vb B) (hsA : Sized A) (hsB : Sized B) :
    Calls Tryz.prog 23 #[va, vb] w fun e w' => e = .returned (.tuple #[.bool (Sp.sameB A B), .int .i64 (Sp.dfE A B)]) ∧ Below w.heap.size w w' := by
  have HVA := hid hA
  have HVB := hid hB
  have HSA := hid hsA
  have HSB := hid hsB
  clear hA hB hsA hsB
  obtain ⟨s, hs⟩ : ∃ s, s = Sp.sameB A B := ⟨_, rfl⟩
  obtain ⟨x, hx⟩ : ∃ x, x = Sp.dfE A B := ⟨_, rfl⟩
  obtain ⟨n, hn⟩ : ∃ n, n = (Sp.dfL A B).length := ⟨_, rfl⟩
  rw [← hs, ← hx]
  have HX : Hid (s = ((x == 0) && (n == 0))) := (by rw [hs, Sp.sameB, ← hx, ← hn] : s = ((x == 0) && (n == 0)))
  have HXE := hid hx
  have HNE := hid hn
  clear hs hx hn
  go_enter Tryz.func23, Tryz.ntmps23
  go_wp2_with fail
  refine (diff_any A B _ _ _ HVA.out HVB.out HSA.out HSB.out).mono ?_
  rintro e w1 ⟨u, rfl, hou, hb1⟩
  obtain ⟨au, capu, rfl⟩ := own_slice hou
  rw [← HXE.out, ← HNE.out]
  clear hou
  cases hx : (x == 0) with
  | false =>
    go_wp2_with fail
    go_ret2
    exact ⟨by rw [HX.out, hx]; rfl, hb1⟩
  | true =>
    have hn : (n == 0) = ((n : Int) == 0) := by
      cases n with
      | zero => rfl
      | succ n => simp; omega
    go_wp2_with fail
    go_ret2
    exact ⟨by rw [HX.out, hx, hn]; rfl, hb1⟩
end Go.Proofs.YtflekhcmipmelaaGreatDoor
