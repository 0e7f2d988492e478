/- What grant.rises answers, for every list of grants. -/
import Derived.Test.YtgjiicnhedekjaaG2
set_option linter.unusedSimpArgs false
set_option linter.unusedVariables false
namespace Go.Proofs.Ytgjiicnhedekjaa
open Go.RowKit

namespace Pp
/-- Does each grant come ahead of the next one? -/
def risG : List Gr → Bool
  | [] => true
  | [_] => true
  | a :: b :: r => decide (cG a b < 0) && risG (b :: r)
theorem risG_iff (G : List Gr) : risG G = true ↔ ∀ k (h : k + 1 < G.length), cG G[k] G[k + 1] < 0 := by
  match G with
  | [] => simp [risG]
  | [a] => simp [risG]
  | a :: b :: r =>
    rw [risG, Bool.and_eq_true, risG_iff (b :: r)]
    constructor
    · intro ⟨h1, h2⟩ k hk
      match k with
      | 0 => simpa using h1
      | k + 1 =>
        have := h2 k (by simpa using hk)
        simpa using this
    · intro h
      refine ⟨by simpa using h 0 (by simp), fun k hk => ?_⟩
      have := h (k + 1) (by simpa using hk)
      simpa using this
theorem risG_no {G : List Gr} {k : Nat} (h : k + 1 < G.length) (hk : 0 ≤ cG G[k] G[k + 1]) : risG G = false := by
  cases hr : risG G with
  | false => rfl
  | true =>
    have := (risG_iff G).1 hr k h
    omega
end Pp

set_option maxRecDepth 100000 in
set_option maxHeartbeats 1000000 in
theorem grises_any (G : List Gr) (v : Value) (w : World) (hv : LiesG w v G) (hn : G.length ≤ 1000) :
    Calls Try.prog 30 #[v] w fun e w' => e = .returned (.bool (Pp.risG G)) ∧ Below w.heap.size w w' := by
  obtain ⟨a, cap, rfl, hcap, hcap2, hLL⟩ := hv
  have HL : Hid (∀ i (h : i < G.length), ∃ b o, a = some ⟨b, o, none⟩ ∧ b < w.heap.size ∧ GrAt w b (o + i * 3) G[i]) := hLL
  clear hLL
  go_enter Try.func30, Try.ntmps30
  go_wp2_with fail
  go_loopw [3] (fun i wr => ∃ m : Nat, (m = 0 ∨ m < G.length) ∧ i = .int .i64 ((m : Int) + 1) ∧ Hid (∀ j (h : j + 1 < G.length), j < m → Pp.cG G[j] G[j + 1] < 0) ∧ Below w.heap.size w wr) (fun i _ => G.length + 2 - (intOf i).toNat)
  case atStart => exact ⟨0, Or.inl rfl, rfl, (fun j _ h => absurd h (Nat.not_lt_zero _) : ∀ j (h : j + 1 < G.length), j < 0 → Pp.cG G[j] G[j + 1] < 0), Below.refl _ _⟩
  case round =>
    obtain ⟨m, hk, rfl, HP, hbel⟩ := hrel
    by_cases hlt : m + 1 < G.length
    · obtain ⟨b, o, rfl, hb, he⟩ := HL.out (m + 1) hlt
      obtain ⟨b', o', hab, hb', he'⟩ := HL.out m (by omega)
      cases hab
      obtain ⟨c0, c1, c2⟩ := he.below hb hbel
      obtain ⟨d0, d1, d2⟩ := he'.below hb' hbel
      have hbr : b < wr.heap.size := Nat.lt_of_lt_of_le hb hbel.size
      have hm0 : (0 : Int) ≤ (m : Int) := by omega
      have hm1 : (m : Int) < (G.length : Int) := by omega
      have hm2 : (m : Int) + 1 < (G.length : Int) := by omega
      have hm3 : (0 : Int) ≤ (m : Int) + 1 := by omega
      have hm5 : ((m : Int) + 1).toNat = m + 1 := by omega
      have hm6 : IntKind.i64.wrap ((m : Int) + 1 - 1) = (m : Int) := by rw [IntKind.wrap_i64]; omega
      have hm7 : IntKind.i64.wrap (m : Int) = (m : Int) := by rw [IntKind.wrap_i64]; omega
      have C0 := ghid c0
      have C1 := ghid c1
      have C2 := ghid c2
      have D0 := ghid d0
      have D1 := ghid d1
      have D2 := ghid d2
      have HNO : Hid (0 ≤ Pp.cG G[m] G[m + 1] → false = Pp.risG G) := (fun h => (Pp.risG_no hlt h).symm : 0 ≤ Pp.cG G[m] G[m + 1] → false = Pp.risG G)
      have HP2 : Hid (Pp.cG G[m] G[m + 1] < 0 → ∀ j (h : j + 1 < G.length), j < m + 1 → Pp.cG G[j] G[j + 1] < 0) := (fun h0 j h1 h2 => by
        by_cases e : j = m
        · subst e; exact h0
        · exact HP.out j h1 (by omega) : Pp.cG G[m] G[m + 1] < 0 → ∀ j (h : j + 1 < G.length), j < m + 1 → Pp.cG G[j] G[j + 1] < 0)
      generalize G[m] = x at *
      generalize G[m + 1] = y at *
      go_wp2_with fail
      go_region_held3 (fun W => W.cell? ⟨b, o + m * 3, none⟩ = some (.string x.fo) ∧ W.cell? ⟨b, o + m * 3 + 1, none⟩ = some (.string x.wh) ∧ W.cell? ⟨b, o + m * 3 + 2, none⟩ = some (.int .i64 x.ri) ∧ W.cell? ⟨b, o + (m + 1) * 3, none⟩ = some (.string y.fo) ∧ W.cell? ⟨b, o + (m + 1) * 3 + 1, none⟩ = some (.string y.wh) ∧ W.cell? ⟨b, o + (m + 1) * 3 + 2, none⟩ = some (.int .i64 y.ri)) (go_keep) (first
        | (go_at_call 35; refine (compare_any x y _).mono ?_; rintro e wa ⟨rfl, hba⟩; have k0 := (hba.cell (p := ⟨b, o + m * 3, none⟩) hbr).trans D0.out; have k1 := (hba.cell (p := ⟨b, o + m * 3 + 1, none⟩) hbr).trans D1.out; have k2 := (hba.cell (p := ⟨b, o + m * 3 + 2, none⟩) hbr).trans D2.out; have k3 := (hba.cell (p := ⟨b, o + (m + 1) * 3, none⟩) hbr).trans C0.out; have k4 := (hba.cell (p := ⟨b, o + (m + 1) * 3 + 1, none⟩) hbr).trans C1.out; have k5 := (hba.cell (p := ⟨b, o + (m + 1) * 3 + 2, none⟩) hbr).trans C2.out))
      have hbel2 : Below w.heap.size w wa := hbel.drew.trans (hba.mono hbel.drew.size)
      by_cases hc : 0 ≤ Pp.cG x y
      · have HE := ghid (HNO.out hc)
        go_wp2_with fail
        go_ret
        exact ⟨Pp.ret_bool HE.out, hbel2⟩
      · have HP3 := ghid (HP2.out (by omega))
        go_wp2_with fail
        go_roundw
        case rel => exact ⟨m + 1, by omega, by simp, HP3, hbel2⟩
        case measure => simp [intOf]; omega
    · have HE : Hid (true = Pp.risG G) := (((Pp.risG_iff G).2 fun j h => HP.out j h (by omega)).symm : true = Pp.risG G)
      go_wp2_with fail
      go_ret
      exact ⟨Pp.ret_bool HE.out, hbel⟩
end Go.Proofs.Ytgjiicnhedekjaa
