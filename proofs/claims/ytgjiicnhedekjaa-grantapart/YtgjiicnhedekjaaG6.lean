/- What the reference's Owned and CheckGrants answer, for every list of grants. -/
import Derived.Test.YtgjiicnhedekjaaG5
import Derived.BigQuiet
import Derived.Deep.QuietTactic
set_option linter.unusedSimpArgs false
set_option linter.unusedVariables false
namespace Go.Proofs.Ytgjiicnhedekjaa
open Go.RowKit

namespace Pp
theorem tri (x y : ByteArray) : (Op.bytesLess x.toList y.toList = true ∧ Op.bytesLess y.toList x.toList = false ∧ (x.toList == y.toList) = false ∧ (y.toList == x.toList) = false) ∨
    (Op.bytesLess x.toList y.toList = false ∧ Op.bytesLess y.toList x.toList = false ∧ (x.toList == y.toList) = true ∧ (y.toList == x.toList) = true) ∨
    (Op.bytesLess x.toList y.toList = false ∧ Op.bytesLess y.toList x.toList = true ∧ (x.toList == y.toList) = false ∧ (y.toList == x.toList) = false) := by
  have irr : ∀ z : ByteArray, Op.bytesLess z.toList z.toList = false := fun z => lt_irrefl ⟨z, false, z, 0⟩
  have tr : Op.bytesLess x.toList y.toList = true → Op.bytesLess y.toList x.toList = true → False := fun h1 h2 => by
    have := lt_trans ⟨x, false, x, 0⟩ ⟨y, false, y, 0⟩ ⟨x, false, x, 0⟩ h1 h2
    have h3 := irr x
    rw [show Op.bytesLess x.toList x.toList = lt ⟨x, false, x, 0⟩ ⟨x, false, x, 0⟩ from rfl, this] at h3
    cases h3
  have ne : ∀ a b : ByteArray, Op.bytesLess a.toList b.toList = true → (a.toList == b.toList) = false ∧ (b.toList == a.toList) = false := fun a b h => by
    constructor <;> (rw [beq_eq_false_iff_ne]; intro e)
    · rw [e] at h; rw [irr b] at h; cases h
    · rw [e] at h; rw [irr a] at h; cases h
  cases h1 : Op.bytesLess x.toList y.toList with
  | true =>
    have h2 : Op.bytesLess y.toList x.toList = false := by
      cases h2 : Op.bytesLess y.toList x.toList with
      | false => rfl
      | true => exact (tr h1 h2).elim
    exact Or.inl ⟨rfl, h2, (ne x y h1).1, (ne x y h1).2⟩
  | false =>
    cases h2 : Op.bytesLess y.toList x.toList with
    | true => exact Or.inr (Or.inr ⟨rfl, rfl, (ne y x h2).2, (ne y x h2).1⟩)
    | false =>
      have e : x.data.toList = y.data.toList := lt_same (x := ⟨x, false, x, 0⟩) (y := ⟨y, false, y, 0⟩) h1 h2
      refine Or.inr (Or.inl ⟨rfl, rfl, ?_, ?_⟩)
      · rw [Lib.toList_data, Lib.toList_data, e]; simp
      · rw [Lib.toList_data, Lib.toList_data, e]; simp
end Pp

set_option maxHeartbeats 1000000 in
theorem rOwned_any (G : List Gr) (v : Value) (f : ByteArray) (w : World) (hv : LiesG w v G) :
    Calls Try.prog 21 #[v, .string f] w fun e w' => e = .returned (.bool (G.any (Pp.ownF f))) ∧ Below w.heap.size w w' := by
  obtain ⟨a, cap, rfl, hcap, hcap2, hLL⟩ := hv
  have HL : Hid (∀ i (h : i < G.length), ∃ b o, a = some ⟨b, o, none⟩ ∧ b < w.heap.size ∧ GrAt w b (o + i * 3) G[i]) := hLL
  clear hLL
  obtain ⟨r, hr⟩ : ∃ r, r = G.any (Pp.ownF f) := ⟨_, rfl⟩
  rw [← hr]
  have HR := ghid hr
  clear hr
  go_enter Try.func21, Try.ntmps21
  go_wp2_with fail
  go_loopw [5] (fun i wr => ∃ k : Nat, k ≤ G.length ∧ i = .int .i64 k ∧ Hid (∀ j (h : j < G.length), j < k → Pp.ownF f G[j] = false) ∧ Below w.heap.size w wr) (fun i _ => G.length - (intOf i).toNat)
  case atStart => exact ⟨0, Nat.zero_le _, rfl, (fun j _ h => absurd h (Nat.not_lt_zero _) : ∀ j (h : j < G.length), j < 0 → Pp.ownF f G[j] = false), Below.refl _ _⟩
  case round =>
    obtain ⟨k, hk, rfl, HP, hbel⟩ := hrel
    by_cases hlt : k < G.length
    · obtain ⟨b, o, rfl, hb, he⟩ := HL.out k hlt
      obtain ⟨c0, c1, c2⟩ := he.below hb hbel
      have HT : Hid (Pp.ownF f G[k] = true → true = r) := (fun h => by rw [HR.out]; exact (List.any_eq_true.2 ⟨G[k], List.getElem_mem hlt, h⟩).symm : Pp.ownF f G[k] = true → true = r)
      have HF : Hid (Pp.ownF f G[k] = false → ∀ j (h : j < G.length), j < k + 1 → Pp.ownF f G[j] = false) := (fun hp j h1 h2 => by
        by_cases e : j = k
        · subst e; exact hp
        · exact HP.out j h1 (by omega) : Pp.ownF f G[k] = false → ∀ j (h : j < G.length), j < k + 1 → Pp.ownF f G[j] = false)
      generalize G[k] = x at *
      cases h1 : (x.fo.toList == f.toList) with
      | true =>
        by_cases h2 : x.ri = 3
        · have HE := ghid (HT.out (by rw [Pp.ownF, h1, h2]; rfl))
          go_wp2_with fail
          go_ret
          exact ⟨Pp.ret_bool HE.out, hbel⟩
        · have h3 : (x.ri == 3) = false := by simpa using h2
          have HP2 := ghid (HF.out (by rw [Pp.ownF, h1, h3]; rfl))
          go_wp2_with fail
          go_roundw
          case rel => exact ⟨k + 1, by omega, by simp, HP2, hbel⟩
          case measure => simp [intOf]; omega
      | false =>
        have HP2 := ghid (HF.out (by rw [Pp.ownF, h1]; rfl))
        go_wp2_with fail
        go_roundw
        case rel => exact ⟨k + 1, by omega, by simp, HP2, hbel⟩
        case measure => simp [intOf]; omega
    · have HE : Hid (false = r) := (by
        rw [HR.out]
        symm
        rw [List.any_eq_false]
        intro x hx
        obtain ⟨j, hj, rfl⟩ := List.getElem_of_mem hx
        rw [HP.out j hj (by omega)]; decide : false = r)
      go_wp2_with fail
      go_ret
      exact ⟨Pp.ret_bool HE.out, hbel⟩

namespace Pp
theorem cG_neg {a b : Gr} (h : Op.bytesLess a.fo.toList b.fo.toList = true ∨ ((a.fo.toList == b.fo.toList) = true ∧ Op.bytesLess a.fo.toList b.fo.toList = false ∧ Op.bytesLess a.wh.toList b.wh.toList = true)) : cG a b < 0 := by
  rcases h with h | ⟨h1, h2, h3⟩
  · rw [cG, if_neg (by rw [cS, if_pos h]; decide), cS, if_pos h]; decide
  · rw [cG, if_pos (by rw [cS, if_neg (by rw [h2]; decide), if_pos h1]), cS, if_pos h3]; decide
theorem cG_pos {a b : Gr} (h : (Op.bytesLess a.fo.toList b.fo.toList = false ∧ (a.fo.toList == b.fo.toList) = false) ∨ ((a.fo.toList == b.fo.toList) = true ∧ Op.bytesLess a.fo.toList b.fo.toList = false ∧ Op.bytesLess a.wh.toList b.wh.toList = false)) : 0 ≤ cG a b := by
  rcases h with ⟨h1, h2⟩ | ⟨h1, h2, h3⟩
  · have : cS a.fo b.fo = 1 := by rw [cS, if_neg (by rw [h1]; decide), if_neg (by rw [h2]; decide)]
    rw [cG, if_neg (by rw [this]; decide), this]; decide
  · rw [cG, if_pos (by rw [cS, if_neg (by rw [h2]; decide), if_pos h1]), cS, if_neg (by rw [h3]; decide)]
    split <;> decide
end Pp

set_option maxRecDepth 100000 in
set_option maxHeartbeats 4000000 in
theorem rCheckGrants_any (G : List Gr) (v : Value) (w : World) (hv : LiesG w v G) (hs : SizedG G) :
    Calls Try.prog 7 #[v] w fun e w' => e = .returned (.int .i64 (Pp.gchE G)) ∧ Below w.heap.size w w' := by
  have HV := ghid hv
  have HS := ghid hs
  obtain ⟨a, cap, rfl, hcap, hcap2, hLL⟩ := hv
  have HL : Hid (∀ i (h : i < G.length), ∃ b o, a = some ⟨b, o, none⟩ ∧ b < w.heap.size ∧ GrAt w b (o + i * 3) G[i]) := hLL
  clear hLL hs
  by_cases h60 : 60 < G.length
  · have HE : Hid (2 = Pp.gchE G) := ((Pp.gch_many h60).symm : 2 = Pp.gchE G)
    have h60' : 60 < (G.length : Int) := by omega
    go_enter Try.func7, Try.ntmps7
    go_wp2_with fail
    go_ret
    exact ⟨Pp.ret_int HE.out, Below.refl _ _⟩
  · have h60' : ¬ 60 < (G.length : Int) := by omega
    go_enter Try.func7, Try.ntmps7
    go_wp2_with fail
    go_loopw [3] (fun i wr => ∃ k : Nat, k ≤ G.length ∧ i = .int .i64 k ∧ Hid (∀ j (h : j < G.length), j < k → Pp.grE G[j] = 0) ∧ Below w.heap.size w wr) (fun i _ => G.length - (intOf i).toNat)
    case atStart => exact ⟨0, Nat.zero_le _, rfl, (fun j _ h => absurd h (Nat.not_lt_zero _) : ∀ j (h : j < G.length), j < 0 → Pp.grE G[j] = 0), Below.refl _ _⟩
    case round =>
      obtain ⟨k, hk, rfl, HP, hbel⟩ := hrel
      by_cases hlt : k < G.length
      · obtain ⟨b, o, rfl, hb, he⟩ := HL.out k hlt
        obtain ⟨c0, c1, c2⟩ := he.below hb hbel
        have hsz := HS.out _ (List.getElem_mem hlt)
        have HNO : Hid (¬ Pp.grE G[k] = 0 → Pp.grE G[k] = Pp.gchE G) := (fun hp => by
          have hg := Pp.grs_hit hlt HP.out hp
          rw [Pp.gch_grs h60 (by rw [hg]; exact hp), hg] : ¬ Pp.grE G[k] = 0 → Pp.grE G[k] = Pp.gchE G)
        have HYES : Hid (Pp.grE G[k] = 0 → ∀ j (h : j < G.length), j < k + 1 → Pp.grE G[j] = 0) := (fun hp j h1 h2 => by
          by_cases e : j = k
          · subst e; exact hp
          · exact HP.out j h1 (by omega) : Pp.grE G[k] = 0 → ∀ j (h : j < G.length), j < k + 1 → Pp.grE G[j] = 0)
        generalize G[k] = x at *
        go_wp2_with fail
        refine (rIsName_any x.fo _ hsz.1).mono ?_
        rintro e w1 ⟨rfl, hw⟩
        rw [hw]
        clear hw w1
        cases hn1 : Pp.nameB x.fo.data.toList with
        | false =>
          have hg : Pp.grE x = 1 := by rw [Pp.grE, if_neg (by rw [Pp.nm2, hn1, Bool.false_and]; decide)]
          have HE : Hid (1 = Pp.gchE G) := (by rw [← hg]; exact HNO.out (by rw [hg]; decide) : 1 = Pp.gchE G)
          clear hg
          go_wp2_with fail
          go_ret
          exact ⟨Pp.ret_int HE.out, hbel⟩
        | true =>
          go_wp2_with fail
          refine (rIsName_any x.wh _ hsz.2).mono ?_
          rintro e w1 ⟨rfl, hw⟩
          rw [hw]
          clear hw w1
          cases hn2 : Pp.nameB x.wh.data.toList with
          | false =>
            have hg : Pp.grE x = 1 := by rw [Pp.grE, if_neg (by rw [Pp.nm2, hn1, hn2]; decide)]
            have HE : Hid (1 = Pp.gchE G) := (by rw [← hg]; exact HNO.out (by rw [hg]; decide) : 1 = Pp.gchE G)
            clear hg
            go_wp2_with fail
            go_ret
            exact ⟨Pp.ret_int HE.out, hbel⟩
          | true =>
            have hgx : Pp.grE x = if x.ri < 1 ∨ 3 < x.ri then 3 else 0 := by rw [Pp.grE, if_pos (by rw [Pp.nm2, hn1, hn2]; rfl)]
            by_cases h1 : x.ri < 1
            · have hg : Pp.grE x = 3 := by rw [hgx, if_pos (Or.inl h1)]
              have HE : Hid (3 = Pp.gchE G) := (by rw [← hg]; exact HNO.out (by rw [hg]; decide) : 3 = Pp.gchE G)
              clear hg hgx
              go_wp2_with fail
              go_ret
              exact ⟨Pp.ret_int HE.out, hbel⟩
            · by_cases h3 : 3 < x.ri
              · have hg : Pp.grE x = 3 := by rw [hgx, if_pos (Or.inr h3)]
                have HE : Hid (3 = Pp.gchE G) := (by rw [← hg]; exact HNO.out (by rw [hg]; decide) : 3 = Pp.gchE G)
                clear hg hgx
                go_wp2_with fail
                go_ret
                exact ⟨Pp.ret_int HE.out, hbel⟩
              · have hg : Pp.grE x = 0 := by rw [hgx, if_neg (by omega)]
                have HP2 := ghid (HYES.out hg)
                clear hg hgx
                go_wp2_with fail
                go_roundw
                case rel => exact ⟨k + 1, by omega, by simp, HP2, hbel⟩
                case measure => simp [intOf]; omega
      · have HG0 := ghid (Pp.grs_all (fun j h => HP.out j h (by omega)))
        obtain ⟨wx, hwx⟩ : ∃ wx, wx = wr := ⟨_, rfl⟩
        rw [← hwx]
        rw [← hwx] at hbel
        clear hwx HP hk
        go_wp2_with fail
        go_loopw [4] (fun i wr => ∃ m : Nat, (m = 0 ∨ m < G.length) ∧ i = .int .i64 ((m : Int) + 1) ∧ Hid (∀ j (h : j + 1 < G.length), j < m → Pp.cG G[j] G[j + 1] < 0) ∧ Below w.heap.size w wr) (fun i _ => G.length + 2 - (intOf i).toNat)
        case atStart => exact ⟨0, Or.inl rfl, rfl, (fun j _ h => absurd h (Nat.not_lt_zero _) : ∀ j (h : j + 1 < G.length), j < 0 → Pp.cG G[j] G[j + 1] < 0), hbel⟩
        case round =>
          clear hbel
          obtain ⟨m, hk, rfl, HP, hbel⟩ := hrel
          by_cases hlm : m + 1 < G.length
          · obtain ⟨b, o, rfl, hb, he⟩ := HL.out (m + 1) hlm
            obtain ⟨b', o', hab, hb', he'⟩ := HL.out m (by omega)
            cases hab
            obtain ⟨c0, c1, c2⟩ := he.below hb hbel
            obtain ⟨d0, d1, d2⟩ := he'.below hb' hbel
            have hm0 : (0 : Int) ≤ (m : Int) := by omega
            have hm1 : (m : Int) < (G.length : Int) := by omega
            have hm2 : (m : Int) + 1 < (G.length : Int) := by omega
            have hm3 : (0 : Int) ≤ (m : Int) + 1 := by omega
            have hm5 : ((m : Int) + 1).toNat = m + 1 := by omega
            have hm6 : IntKind.i64.wrap ((m : Int) + 1 - 1) = (m : Int) := by rw [IntKind.wrap_i64]; omega
            have hm7 : IntKind.i64.wrap (m : Int) = (m : Int) := by rw [IntKind.wrap_i64]; omega
            have HNO : Hid (0 ≤ Pp.cG G[m] G[m + 1] → 4 = Pp.gchE G) := (fun h => (Pp.gch_ris h60 HG0.out (Pp.risG_no hlm h)).symm : 0 ≤ Pp.cG G[m] G[m + 1] → 4 = Pp.gchE G)
            have HP2 : Hid (Pp.cG G[m] G[m + 1] < 0 → ∀ j (h : j + 1 < G.length), j < m + 1 → Pp.cG G[j] G[j + 1] < 0) := (fun h0 j h1 h2 => by
              by_cases e : j = m
              · subst e; exact h0
              · exact HP.out j h1 (by omega) : Pp.cG G[m] G[m + 1] < 0 → ∀ j (h : j + 1 < G.length), j < m + 1 → Pp.cG G[j] G[j + 1] < 0)
            generalize G[m] = x at *
            generalize G[m + 1] = y at *
            rcases Pp.tri x.fo y.fo with ⟨t1, t2, t3, t4⟩ | ⟨t1, t2, t3, t4⟩ | ⟨t1, t2, t3, t4⟩
            · have HQ := ghid (HP2.out (Pp.cG_neg (Or.inl t1)))
              go_wp2_with fail
              go_quiet (fail)
              generalize hwq : World.drewN wr _ = wq
              have hbelq : Below w.heap.size w wq := hwq ▸ ⟨hbel.os, hbel.tape, hbel.output, hbel.size, hbel.block⟩
              clear hwq
              go_wp2_with fail
              go_roundw
              case rel => exact ⟨m + 1, by omega, by simp, HQ, hbelq⟩
              case measure => simp [intOf]; omega
            · rcases Pp.tri x.wh y.wh with ⟨r1, r2, r3, r4⟩ | ⟨r1, r2, r3, r4⟩ | ⟨r1, r2, r3, r4⟩
              · have HQ := ghid (HP2.out (Pp.cG_neg (Or.inr ⟨t3, t1, r1⟩)))
                go_wp2_with fail
                go_quiet (fail)
                generalize hwq : World.drewN wr _ = wq
                have hbelq : Below w.heap.size w wq := hwq ▸ ⟨hbel.os, hbel.tape, hbel.output, hbel.size, hbel.block⟩
                clear hwq
                go_wp2_with fail
                go_roundw
                case rel => exact ⟨m + 1, by omega, by simp, HQ, hbelq⟩
                case measure => simp [intOf]; omega
              · have HE := ghid (HNO.out (Pp.cG_pos (Or.inr ⟨t3, t1, r1⟩)))
                go_wp2_with fail
                go_quiet (fail)
                generalize hwq : World.drewN wr _ = wq
                have hbelq : Below w.heap.size w wq := hwq ▸ ⟨hbel.os, hbel.tape, hbel.output, hbel.size, hbel.block⟩
                clear hwq
                go_wp2_with fail
                go_ret
                exact ⟨Pp.ret_int HE.out, hbelq⟩
              · have HE := ghid (HNO.out (Pp.cG_pos (Or.inr ⟨t3, t1, r1⟩)))
                go_wp2_with fail
                go_quiet (fail)
                generalize hwq : World.drewN wr _ = wq
                have hbelq : Below w.heap.size w wq := hwq ▸ ⟨hbel.os, hbel.tape, hbel.output, hbel.size, hbel.block⟩
                clear hwq
                go_wp2_with fail
                go_ret
                exact ⟨Pp.ret_int HE.out, hbelq⟩
            · have HE := ghid (HNO.out (Pp.cG_pos (Or.inl ⟨t1, t3⟩)))
              go_wp2_with fail
              go_quiet (fail)
              generalize hwq : World.drewN wr _ = wq
              have hbelq : Below w.heap.size w wq := hwq ▸ ⟨hbel.os, hbel.tape, hbel.output, hbel.size, hbel.block⟩
              clear hwq
              go_wp2_with fail
              go_ret
              exact ⟨Pp.ret_int HE.out, hbelq⟩
          · have hris : Pp.risG G = true := (Pp.risG_iff G).2 fun j h => HP.out j h (by omega)
            have HGC := ghid (Pp.gch_own h60 HG0.out hris)
            obtain ⟨wy, hwy⟩ : ∃ wy, wy = wr := ⟨_, rfl⟩
            rw [← hwy]
            rw [← hwy] at hbel
            clear hwy HP hk hris
            go_wp2_with fail
            go_loopw [5] (fun i wr => ∃ k : Nat, k ≤ G.length ∧ i = .int .i64 k ∧ Hid (∀ j (h : j < G.length), j < k → G.any (Pp.ownF (G[j]).fo) = true) ∧ Below w.heap.size w wr) (fun i _ => G.length - (intOf i).toNat)
            case atStart => exact ⟨0, Nat.zero_le _, rfl, (fun j _ h => absurd h (Nat.not_lt_zero _) : ∀ j (h : j < G.length), j < 0 → G.any (Pp.ownF (G[j]).fo) = true), hbel⟩
            case round =>
              clear hbel
              obtain ⟨k, hk, rfl, HP, hbel⟩ := hrel
              by_cases hlk : k < G.length
              · obtain ⟨b, o, rfl, hb, he⟩ := HL.out k hlk
                obtain ⟨c0, c1, c2⟩ := he.below hb hbel
                go_wp2_with fail
                refine (rOwned_any G _ (G[k]).fo _ (HV.out.below hbel)).mono ?_
                rintro e w1 ⟨rfl, hb1⟩
                have hbel1 := below_trans hbel hb1
                clear c0 c1 c2 hbel hb1
                cases hp : G.any (Pp.ownF (G[k]).fo) with
                | true =>
                  have HP2 : Hid (∀ j (h : j < G.length), j < k + 1 → G.any (Pp.ownF (G[j]).fo) = true) := (fun j h1 h2 => by
                    by_cases e : j = k
                    · subst e; exact hp
                    · exact HP.out j h1 (by omega) : ∀ j (h : j < G.length), j < k + 1 → G.any (Pp.ownF (G[j]).fo) = true)
                  clear hp
                  go_wp2_with fail
                  go_roundw
                  case rel => exact ⟨k + 1, by omega, by simp, HP2, hbel1⟩
                  case measure => simp [intOf]; omega
                | false =>
                  have HE : Hid (5 = Pp.gchE G) := ((Pp.owns_no hlk hp).trans HGC.out.symm : 5 = Pp.gchE G)
                  clear hp
                  go_wp2_with fail
                  go_ret
                  exact ⟨Pp.ret_int HE.out, hbel1⟩
              · have HE : Hid (0 = Pp.gchE G) := ((Pp.owns_yes (fun j h => HP.out j h (by omega))).trans HGC.out.symm : 0 = Pp.gchE G)
                go_wp2_with fail
                go_ret
                exact ⟨Pp.ret_int HE.out, hbel⟩
end Go.Proofs.Ytgjiicnhedekjaa
