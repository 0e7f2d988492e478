/- What the document's own Decimal answers, for every number that is not negative. -/
import Derived.Test.YtflekhcmipmelaaGreatDoorMC
set_option linter.unusedSimpArgs false
set_option linter.unusedVariables false
namespace Go.Proofs.YtflekhcmipmelaaGreatDoor
open Go.RowKit

namespace Pp
theorem dec_le : ∀ (n u : Nat), u < n → (Lib.decDigits u).length ≤ u + 1
  | 0, u, h => absurd h (Nat.not_lt_zero _)
  | n + 1, u, h => by
    rw [Lib.decDigits]
    split
    · simp
    · rename_i h1
      have := dec_le n (u / 10) (by omega)
      simp only [List.length_append, List.length_cons, List.length_nil]
      omega
theorem dec_small {u : Nat} (h : u < 10) : Lib.decDigits u = [UInt8.ofNat (48 + u)] := by rw [Lib.decDigits, dif_pos h]
theorem dec_more {u : Nat} (h : ¬ u < 10) : Lib.decDigits u = Lib.decDigits (u / 10) ++ [UInt8.ofNat (48 + u % 10)] := by rw [Lib.decDigits, dif_neg h]
def dg (u : Nat) : UInt8 := UInt8.ofNat (48 + u % 10)
theorem dig_toNat (u : Nat) : (dg u).toNat = 48 + u % 10 := by
  rw [dg, UInt8.toNat_ofNat']; omega
theorem dec_one {u : Nat} (h : u < 10) : Lib.decDigits u = [dg u] := by rw [dec_small h, dg, Nat.mod_eq_of_lt h]
theorem dec_two {u : Nat} (h : ¬ u < 10) : Lib.decDigits u = Lib.decDigits (u / 10) ++ [dg u] := dec_more h
end Pp

theorem conv_one (u : Nat) (w : World) (ty : TypeId) :
    (convert 83 9 (.slice (some ⟨w.heap.size, 0, none⟩) 1 1)).run Tryz.prog (w.alloc (.cells #[.int .u8 (48 + (u : Int) % 10)] ty)) = .ok (.string ⟨#[Pp.dg u]⟩) (w.alloc (.cells #[.int .u8 (48 + (u : Int) % 10)] ty)) := by
  refine run_convert_bytes_back (P := Tryz.prog) (w.alloc (.cells #[.int .u8 (48 + (u : Int) % 10)] ty)) 83 9 5 ⟨w.heap.size, 0, none⟩ 1 [Pp.dg u] Tryz.underlying83 Tryz.underlying5 Tryz.underlying9 ?_
  intro j hj
  match j, hj with
  | 0, _ =>
    have e : ((Pp.dg u).toNat : Int) = 48 + (u : Int) % 10 := by rw [Pp.dig_toNat]; omega
    simp only [List.getElem_cons_zero]
    rw [e]
    simp [Addr.add]

set_option maxHeartbeats 600000 in
theorem decimal_any (n : Nat) (w : World) (hn : n ≤ 1000000000) :
    Calls Tryz.prog 39 #[.int .i64 n] w fun e w' => e = .returned (.string ⟨(Lib.decDigits n).toArray⟩) ∧ Below w.heap.size w w' := by
  have hlen := Pp.dec_le (n + 1) n (Nat.lt_succ_self n)
  have h0 : ¬ (n : Int) < 0 := by omega
  go_enter Tryz.func39, Tryz.ntmps39
  go_wp2_with fail
  go_loopw [0, 3] (fun m r wr => ∃ (u : Nat) (l : List UInt8), m = .int .i64 u ∧ r = .string ⟨l.toArray⟩ ∧ u ≤ n ∧ l.length ≤ n + 1 ∧ Hid (Lib.decDigits n = Lib.decDigits u ++ l) ∧ Below w.heap.size w wr) (fun m _ _ => (intOf m).toNat)
  case atStart => exact ⟨n, [], rfl, rfl, Nat.le_refl _, by simp, (by simp : Lib.decDigits n = Lib.decDigits n ++ []), Below.refl _ _⟩
  case round =>
    obtain ⟨u, l, rfl, rfl, hu, hl, HD, hbel⟩ := hrel
    have hcv := fun ty => conv_one u wr ty
    by_cases hlt : u < 10
    · have HR : Hid ((⟨#[Pp.dg u]⟩ : ByteArray) ++ ⟨l.toArray⟩ = ⟨(Lib.decDigits n).toArray⟩) := (Pp.bytes_eq (by
        rw [Joins.data_append, HD.out, Pp.dec_one hlt]) : (⟨#[Pp.dg u]⟩ : ByteArray) ++ ⟨l.toArray⟩ = ⟨(Lib.decDigits n).toArray⟩)
      have hq : ((u : Int) / 10 == 0) = true := by rw [beq_iff_eq]; omega
      go_wp2_with fail
      go_ret
      exact ⟨by rw [← HR.out]; rfl, hbel.alloc hbel.size _⟩
    · have HR : Hid ((⟨#[Pp.dg u]⟩ : ByteArray) ++ ⟨l.toArray⟩ = ⟨(Pp.dg u :: l).toArray⟩) := (Pp.bytes_eq (by rw [Joins.data_append]; rfl) : (⟨#[Pp.dg u]⟩ : ByteArray) ++ ⟨l.toArray⟩ = ⟨(Pp.dg u :: l).toArray⟩)
      have HD2 : Hid (Lib.decDigits n = Lib.decDigits (u / 10) ++ (Pp.dg u :: l)) := (by rw [HD.out, Pp.dec_two hlt]; simp : Lib.decDigits n = Lib.decDigits (u / 10) ++ (Pp.dg u :: l))
      have hl2 : (Pp.dg u :: l).length ≤ n + 1 := by
        have := congrArg List.length HD2.out
        rw [List.length_append] at this
        omega
      have hq : ((u : Int) / 10 == 0) = false := by rw [beq_eq_false_iff_ne]; omega
      go_wp2_with fail
      go_roundw
      case rel => exact ⟨u / 10, Pp.dg u :: l, by simp, by rw [HR.out], by omega, hl2, HD2.out, hbel.alloc hbel.size _⟩
      case measure => simp [intOf]; omega
end Go.Proofs.YtflekhcmipmelaaGreatDoor
