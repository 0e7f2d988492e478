/- What the reference's EntryAt answers, for every tree. -/
import Derived.Test.YthfdmdjmbbollaaGreatDoorMD
set_option linter.unusedSimpArgs false
set_option linter.unusedVariables false
namespace Go.Proofs.YthfdmdjmbbollaaGreatDoor
open Go.RowKit

namespace Pp
/-- The place of the first entry at a path; -1: there is none. -/
def idx (L : List En) (q : List UInt8) : Int := match L.findIdx? (atB q) with
  | some i => (i : Int)
  | none => -1
theorem idx_hit {L : List En} {q : List UInt8} {k : Nat} (hlt : k < L.length) (h : ∀ j (h : j < L.length), j < k → atB q L[j] = false) (hp : atB q L[k] = true) : (k : Int) = idx L q := by
  have : L.findIdx? (atB q) = some k := List.findIdx?_eq_some_iff_getElem.2 ⟨hlt, hp, fun j hj => by rw [h j (by omega) hj]; simp⟩
  rw [idx, this]
theorem idx_miss {L : List En} {q : List UInt8} (h : ∀ j (h : j < L.length), atB q L[j] = false) : -1 = idx L q := by
  have : L.findIdx? (atB q) = none := List.findIdx?_eq_none_iff.2 fun x hx => by
    obtain ⟨j, hj, rfl⟩ := List.getElem_of_mem hx
    exact h j hj
  rw [idx, this]
theorem idx_cases (L : List En) (q : List UInt8) : (idx L q = -1 ∧ L.find? (atB q) = none) ∨ ∃ k, ∃ h : k < L.length, idx L q = (k : Int) ∧ L.find? (atB q) = some L[k] := by
  cases hf : L.findIdx? (atB q) with
  | none =>
    refine Or.inl ⟨by rw [idx, hf], ?_⟩
    rw [List.find?_eq_none]
    intro x hx
    have := List.findIdx?_eq_none_iff.1 hf x hx
    simp [this]
  | some k =>
    obtain ⟨hlt, hp, hmin⟩ := List.findIdx?_eq_some_iff_getElem.1 hf
    refine Or.inr ⟨k, hlt, by rw [idx, hf], find_hit hlt (fun j h hj => ?_) hp⟩
    have := hmin j hj
    simpa using this
end Pp

set_option maxHeartbeats 800000 in
theorem entryAt_any (L : List En) (v : Value) (q : ByteArray) (w : World) (hv : Lies w v L) :
    Calls Tryz.prog 30 #[v, .string q] w fun e w' => e = .returned (.int .i64 (Pp.idx L q.data.toList)) ∧ Below w.heap.size w w' := by
  obtain ⟨a, cap, rfl, hcap, hcap2, hL⟩ := hv
  have HL : Hid (∀ i (h : i < L.length), ∃ b o, a = some ⟨b, o, none⟩ ∧ b < w.heap.size ∧ EnAt w b (o + i * 4) L[i]) := hL
  clear hL
  go_enter Tryz.func30, Tryz.ntmps30
  go_wp2_with fail
  go_loopw [5] (fun i wr => ∃ k : Nat, k ≤ L.length ∧ i = .int .i64 k ∧ Hid (∀ j (h : j < L.length), j < k → Pp.atB q.data.toList L[j] = false) ∧ Below w.heap.size w wr) (fun i _ => L.length - (intOf i).toNat)
  case atStart => exact ⟨0, Nat.zero_le _, rfl, (fun j _ h => absurd h (Nat.not_lt_zero _) : ∀ j (h : j < L.length), j < 0 → Pp.atB q.data.toList L[j] = false), Below.refl _ _⟩
  case round =>
    obtain ⟨k, hk, rfl, HP, hbel⟩ := hrel
    by_cases hlt : k < L.length
    · obtain ⟨b, o, rfl, hb, he⟩ := HL.out k hlt
      obtain ⟨c0, c1, c2, c3⟩ := he.below hb hbel
      cases hp : Pp.atB q.data.toList L[k] with
      | true =>
        have hp2 : ((L[k]).path.toList == q.toList) = true := by rw [← hp, Pp.atB, Lib.toList_data, Lib.toList_data]
        have HE : Hid ((k : Int) = Pp.idx L q.data.toList) := (Pp.idx_hit hlt HP.out hp : (k : Int) = Pp.idx L q.data.toList)
        go_wp2_with fail
        go_ret
        exact ⟨Pp.ret_int HE.out, hbel⟩
      | false =>
        have hp2 : ((L[k]).path.toList == q.toList) = false := by rw [← hp, Pp.atB, Lib.toList_data, Lib.toList_data]
        go_wp2_with fail
        go_roundw
        case rel => exact ⟨k + 1, by omega, by simp, (fun j h1 h2 => by
          by_cases e : j = k
          · subst e; exact hp
          · exact HP.out j h1 (by omega) : ∀ j (h : j < L.length), j < k + 1 → Pp.atB q.data.toList L[j] = false), hbel⟩
        case measure => simp [intOf]; omega
    · have HE : Hid (-1 = Pp.idx L q.data.toList) := (Pp.idx_miss (fun j h => HP.out j h (by omega)) : -1 = Pp.idx L q.data.toList)
      go_wp2_with fail
      go_ret
      exact ⟨Pp.ret_int HE.out, hbel⟩

end Go.Proofs.YthfdmdjmbbollaaGreatDoor
