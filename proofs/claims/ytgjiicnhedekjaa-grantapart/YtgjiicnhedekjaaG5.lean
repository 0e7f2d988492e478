/- What grant.Check and the reference's CheckGrants answer, for every list of grants. -/
import Derived.Test.YtgjiicnhedekjaaG4
set_option linter.unusedSimpArgs false
set_option linter.unusedVariables false
namespace Go.Proofs.Ytgjiicnhedekjaa
open Go.RowKit

namespace Pp
def grsE : List Gr → Int
  | [] => 0
  | g :: r => if grE g = 0 then grsE r else grE g
theorem grs_hit : ∀ {G : List Gr} {k : Nat} (hlt : k < G.length), (∀ j (h : j < G.length), j < k → grE G[j] = 0) → ¬ grE G[k] = 0 → grsE G = grE G[k]
  | [], k, hlt, _, _ => absurd hlt (by simp)
  | g :: r, 0, _, _, hk => by rw [grsE, if_neg (show ¬ grE g = 0 from hk)]; rfl
  | g :: r, k + 1, hlt, h, hk => by
    rw [grsE, if_pos (show grE g = 0 from h 0 (by simp) (by omega))]
    have := grs_hit (G := r) (k := k) (by simpa using hlt) (fun j hj hjk => h (j + 1) (by simpa using hj) (by omega)) hk
    rw [this]; rfl
theorem grs_all : ∀ {G : List Gr}, (∀ j (h : j < G.length), grE G[j] = 0) → grsE G = 0
  | [], _ => rfl
  | g :: r, h => by
    rw [grsE, if_pos (show grE g = 0 from h 0 (by simp))]
    exact grs_all fun j hj => h (j + 1) (by simpa using hj)
def ownsE (G : List Gr) : Int := if (G.all fun g => G.any (ownF g.fo)) = true then 0 else 5
def gchE (G : List Gr) : Int := if 60 < G.length then 2 else if ¬ grsE G = 0 then grsE G else if risG G = false then 4 else ownsE G
theorem gch_many {G : List Gr} (h : 60 < G.length) : gchE G = 2 := if_pos h
theorem gch_grs {G : List Gr} (h : ¬ 60 < G.length) (h2 : ¬ grsE G = 0) : gchE G = grsE G := by rw [gchE, if_neg h, if_pos h2]
theorem gch_ris {G : List Gr} (h : ¬ 60 < G.length) (h2 : grsE G = 0) (h3 : risG G = false) : gchE G = 4 := by rw [gchE, if_neg h, if_neg (fun x => x h2), if_pos h3]
theorem gch_own {G : List Gr} (h : ¬ 60 < G.length) (h2 : grsE G = 0) (h3 : risG G = true) : gchE G = ownsE G := by rw [gchE, if_neg h, if_neg (fun x => x h2), if_neg (by rw [h3]; decide)]
theorem owns_no {G : List Gr} {k : Nat} (hlt : k < G.length) (h : G.any (ownF (G[k]).fo) = false) : 5 = ownsE G := by
  rw [ownsE, if_neg]
  rw [List.all_eq_true]
  intro hh
  have := hh G[k] (List.getElem_mem hlt)
  rw [h] at this; cases this
theorem owns_yes {G : List Gr} (h : ∀ j (h : j < G.length), G.any (ownF (G[j]).fo) = true) : 0 = ownsE G := by
  rw [ownsE, if_pos]
  rw [List.all_eq_true]
  intro x hx
  obtain ⟨j, hj, rfl⟩ := List.getElem_of_mem hx
  exact h j hj
end Pp

set_option maxHeartbeats 1000000 in
theorem checkOwners_any (G : List Gr) (v : Value) (w : World) (hv : LiesG w v G) :
    Calls Try.prog 31 #[v] w fun e w' => e = .returned (.int .i64 (Pp.ownsE G)) ∧ Below w.heap.size w w' := by
  have HV := ghid hv
  obtain ⟨a, cap, rfl, hcap, hcap2, hLL⟩ := hv
  have HL : Hid (∀ i (h : i < G.length), ∃ b o, a = some ⟨b, o, none⟩ ∧ b < w.heap.size ∧ GrAt w b (o + i * 3) G[i]) := hLL
  clear hLL
  go_enter Try.func31, Try.ntmps31
  go_wp2_with fail
  go_loopw [7] (fun i wr => ∃ k : Nat, k ≤ G.length ∧ i = .int .i64 k ∧ Hid (∀ j (h : j < G.length), j < k → G.any (Pp.ownF (G[j]).fo) = true) ∧ Below w.heap.size w wr) (fun i _ => G.length - (intOf i).toNat)
  case atStart => exact ⟨0, Nat.zero_le _, rfl, (fun j _ h => absurd h (Nat.not_lt_zero _) : ∀ j (h : j < G.length), j < 0 → G.any (Pp.ownF (G[j]).fo) = true), Below.refl _ _⟩
  case round =>
    obtain ⟨k, hk, rfl, HP, hbel⟩ := hrel
    by_cases hlt : k < G.length
    · obtain ⟨b, o, rfl, hb, he⟩ := HL.out k hlt
      obtain ⟨c0, c1, c2⟩ := he.below hb hbel
      have hsz := hbel.size
      go_wp2_with fail
      refine (isOwned_any G _ (G[k]).fo _ (HV.out.below (hbel.alloc hbel.size _))).mono ?_
      rintro e w1 ⟨rfl, hb1⟩
      obtain ⟨d0, d1, d2, hb1w, hlt1⟩ := bx3 hb1
      have hbel1 := below_trans hbel hb1w
      clear c0 c1 c2 hbel hb1 hb1w d0 d1 d2
      cases hp : G.any (Pp.ownF (G[k]).fo) with
      | true =>
        have HP2 : Hid (∀ j (h : j < G.length), j < k + 1 → G.any (Pp.ownF (G[j]).fo) = true) := (fun j h1 h2 => by
          by_cases e : j = k
          · subst e; exact hp
          · exact HP.out j h1 (by omega) : ∀ j (h : j < G.length), j < k + 1 → G.any (Pp.ownF (G[j]).fo) = true)
        clear hp
        go_wp2_with fail
        go_roundw
        case rel => exact ⟨k + 1, by omega, by simp, HP2, hbel1⟩
        case measure => simp [intOf]; omega
      | false =>
        have HE : Hid (5 = Pp.ownsE G) := (Pp.owns_no hlt hp : 5 = Pp.ownsE G)
        clear hp
        go_wp2_with fail
        go_ret
        exact ⟨Pp.ret_int HE.out, hbel1⟩
    · have HE : Hid (0 = Pp.ownsE G) := (Pp.owns_yes (fun j h => HP.out j h (by omega)) : 0 = Pp.ownsE G)
      go_wp2_with fail
      go_ret
      exact ⟨Pp.ret_int HE.out, hbel⟩

set_option maxHeartbeats 2000000 in
theorem gcheck_any (G : List Gr) (v : Value) (w : World) (hv : LiesG w v G) (hs : SizedG G) :
    Calls Try.prog 14 #[v] w fun e w' => e = .returned (.int .i64 (Pp.gchE G)) ∧ Below w.heap.size w w' := by
  have HV := ghid hv
  have HS := ghid hs
  obtain ⟨a, cap, rfl, hcap, hcap2, hLL⟩ := hv
  have HL : Hid (∀ i (h : i < G.length), ∃ b o, a = some ⟨b, o, none⟩ ∧ b < w.heap.size ∧ GrAt w b (o + i * 3) G[i]) := hLL
  clear hLL hs
  by_cases h60 : 60 < G.length
  · have HE : Hid (2 = Pp.gchE G) := ((Pp.gch_many h60).symm : 2 = Pp.gchE G)
    have h60' : 60 < (G.length : Int) := by omega
    go_enter Try.func14, Try.ntmps14
    go_wp2_with fail
    go_ret
    exact ⟨Pp.ret_int HE.out, Below.refl _ _⟩
  · have h60' : ¬ 60 < (G.length : Int) := by omega
    go_enter Try.func14, Try.ntmps14
    go_wp2_with fail
    go_loopw [11] (fun i wr => ∃ k : Nat, k ≤ G.length ∧ i = .int .i64 k ∧ Hid (∀ j (h : j < G.length), j < k → Pp.grE G[j] = 0) ∧ Below w.heap.size w wr) (fun i _ => G.length - (intOf i).toNat)
    case atStart => exact ⟨0, Nat.zero_le _, rfl, (fun j _ h => absurd h (Nat.not_lt_zero _) : ∀ j (h : j < G.length), j < 0 → Pp.grE G[j] = 0), Below.refl _ _⟩
    case round =>
      obtain ⟨k, hk, rfl, HP, hbel⟩ := hrel
      by_cases hlt : k < G.length
      · obtain ⟨b, o, rfl, hb, he⟩ := HL.out k hlt
        obtain ⟨c0, c1, c2⟩ := he.below hb hbel
        have hsz := HS.out _ (List.getElem_mem hlt)
        go_wp2_with fail
        refine (checkGrant_any G[k] _ hsz.1 hsz.2).mono ?_
        rintro e w1 ⟨rfl, hb1⟩
        first
          | (have hbel1 := below_trans hbel hb1)
          | (have hbel1 := below_trans hbel (bx3 hb1).2.2.2.1)
        clear c0 c1 c2 hbel hb1
        by_cases hp : Pp.grE G[k] = 0
        · rw [hp]
          have HP2 : Hid (∀ j (h : j < G.length), j < k + 1 → Pp.grE G[j] = 0) := (fun j h1 h2 => by
            by_cases e : j = k
            · subst e; exact hp
            · exact HP.out j h1 (by omega) : ∀ j (h : j < G.length), j < k + 1 → Pp.grE G[j] = 0)
          clear hp
          go_wp2_with fail
          go_roundw
          case rel => exact ⟨k + 1, by omega, by simp, HP2, hbel1⟩
          case measure => simp [intOf]; omega
        · have hg := Pp.grs_hit hlt HP.out hp
          have HE : Hid (Pp.grE G[k] = Pp.gchE G) := (by rw [Pp.gch_grs h60 (by rw [hg]; exact hp), hg] : Pp.grE G[k] = Pp.gchE G)
          have hz : (Pp.grE G[k] == 0) = false := by simpa using hp
          clear hg hp
          generalize Pp.grE G[k] = x at *
          go_wp2_with fail
          go_ret
          exact ⟨Pp.ret_int HE.out, hbel1⟩
      · have HG0 := ghid (Pp.grs_all (fun j h => HP.out j h (by omega)))
        clear HP
        go_wp2_with fail
        refine (grises_any G _ _ (HV.out.below hbel) (by omega)).mono ?_
        rintro e w1 ⟨rfl, hb1⟩
        have hbel1 := below_trans hbel hb1
        clear hbel hb1
        cases hr : Pp.risG G with
        | false =>
          have HE : Hid (4 = Pp.gchE G) := ((Pp.gch_ris h60 HG0.out hr).symm : 4 = Pp.gchE G)
          clear hr
          go_wp2_with fail
          go_ret
          exact ⟨Pp.ret_int HE.out, hbel1⟩
        | true =>
          have HE : Hid (Pp.ownsE G = Pp.gchE G) := ((Pp.gch_own h60 HG0.out hr).symm : Pp.ownsE G = Pp.gchE G)
          clear hr
          go_wp2_with fail
          refine (checkOwners_any G _ _ (HV.out.below hbel1)).mono ?_
          rintro e w2 ⟨rfl, hb2⟩
          go_wp2_with fail
          go_ret
          exact ⟨Pp.ret_int HE.out, below_trans hbel1 hb2⟩
end Go.Proofs.Ytgjiicnhedekjaa
