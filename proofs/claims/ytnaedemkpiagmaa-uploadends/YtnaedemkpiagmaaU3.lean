/- What upload.checkRoom and Check answer, for every uploads. -/
import Derived.Test.YtnaedemkpiagmaaU2
import Derived.Deep.RegionHeld3
set_option linter.unusedSimpArgs false
set_option linter.unusedVariables false
namespace Go.Proofs.Ytnaedemkpiagmaa
open Go.RowKit

set_option maxRecDepth 100000 in
set_option maxHeartbeats 1000000 in
theorem checkRoom_any (G : List Se) (v : Value) (x l r : Int) (w : World) (hv : LiesS w v G) (hn : G.length ≤ 1000) (hs : ∀ s ∈ G, 0 ≤ s.si ∧ s.si ≤ 300) :
    Calls Try.prog 40 #[.agg #[v, .int .i64 x, .int .i64 l, .int .i64 r]] w fun e w' => e = .returned (.int .i64 (Pp.roE G r)) ∧ Below w.heap.size w w' := by
  have HV := ghid hv
  have HS := ghid hs
  obtain ⟨a, cap, rfl, hcap, hcap2, hLL⟩ := hv
  have HL : Hid (∀ i (h : i < G.length), ∃ b o, a = some ⟨b, o, none⟩ ∧ b < w.heap.size ∧ SeAt w b (o + i * 5) G[i]) := hLL
  clear hLL hs
  go_enter Try.func40, Try.ntmps40
  go_wp2_with fail
  go_loopw [8] (fun i wr => ∃ k : Nat, k ≤ G.length ∧ i = .int .i64 k ∧ Hid (∀ j (h : j < G.length), j < k → Pp.takS G (G[j]).wh ≤ r) ∧ Below (w.alloc (.cells #[.slice a G.length cap, .int .i64 x, .int .i64 l, .int .i64 r] 24)).heap.size (w.alloc (.cells #[.slice a G.length cap, .int .i64 x, .int .i64 l, .int .i64 r] 24)) wr) (fun i _ => G.length - (intOf i).toNat)
  case atStart => exact ⟨0, Nat.zero_le _, rfl, (fun j _ h => absurd h (Nat.not_lt_zero _) : ∀ j (h : j < G.length), j < 0 → Pp.takS G (G[j]).wh ≤ r), Below.refl _ _⟩
  case round =>
    obtain ⟨k, hk, rfl, HP, hbel0⟩ := hrel
    obtain ⟨b0, b1, b2, b3, hbel, hltw⟩ := bx4 hbel0
    have HB0 := ghid hbel0
    clear hbel0
    by_cases hlt : k < G.length
    · obtain ⟨b, o, rfl, hb, he⟩ := HL.out k hlt
      obtain ⟨c0, c1, c2, c3, c4⟩ := he.below hb hbel
      have hsz := hbel.size
      clear he
      have HNO : Hid (r < Pp.takS G (G[k]).wh → 10 = Pp.roE G r) := (fun h => Pp.ro_no hlt h : r < Pp.takS G (G[k]).wh → 10 = Pp.roE G r)
      have HYES : Hid (Pp.takS G (G[k]).wh ≤ r → ∀ j (h : j < G.length), j < k + 1 → Pp.takS G (G[j]).wh ≤ r) := (fun hh j h1 h2 => by
        by_cases e : j = k
        · subst e; exact hh
        · exact HP.out j h1 (by omega) : Pp.takS G (G[k]).wh ≤ r → ∀ j (h : j < G.length), j < k + 1 → Pp.takS G (G[j]).wh ≤ r)
      generalize G[k] = s at *
      obtain ⟨wz, hwz⟩ : ∃ wz, wz = wr.alloc (.cells #[.int .i64 s.nu, .string s.wh, .string s.tx, .int .i64 s.si, .int .i64 s.ti] 38) := ⟨_, rfl⟩
      have hbz0 : Below (w.alloc (.cells #[.slice (some ⟨b, o, none⟩) G.length cap, .int .i64 x, .int .i64 l, .int .i64 r] 24)).heap.size (w.alloc (.cells #[.slice (some ⟨b, o, none⟩) G.length cap, .int .i64 x, .int .i64 l, .int .i64 r] 24)) wz := hwz ▸ HB0.out.alloc HB0.out.size _
      obtain ⟨z0, _, _, z3, hbz, hltz⟩ := bx4 hbz0
      have z1 : wz.cell? ⟨wr.heap.size, 1, none⟩ = some (.string s.wh) := by rw [hwz]; simp
      have hsz1 : wr.heap.size < wz.heap.size := by rw [hwz]; simp
      have HBZ0 := ghid hbz0
      clear hbz0 HB0 hbel b0 b1 b2 b3
      go_wp2_with fail
      rw [← hwz]
      clear hwz c0 c1 c2 c3 c4
      go_region_held3 (fun W => W.cell? ⟨w.heap.size, 0, none⟩ = some (.slice (some ⟨b, o, none⟩) G.length cap) ∧ W.cell? ⟨w.heap.size, 3, none⟩ = some (.int .i64 r) ∧ W.cell? ⟨wr.heap.size, 1, none⟩ = some (.string s.wh)) (go_keep) (first
        | (go_at_call 20; refine (taken_any G _ s.wh _ (HV.out.below hbz.drew) hn HS.out).mono ?_; rintro e wa ⟨rfl, hba⟩; have k0 := (hba.cell (p := ⟨w.heap.size, 0, none⟩) hltz).trans z0; have k3 := (hba.cell (p := ⟨w.heap.size, 3, none⟩) hltz).trans z3; have k1 := (hba.cell (p := ⟨wr.heap.size, 1, none⟩) hsz1).trans z1))
      all_goals
        have hb01 : Below (w.alloc (.cells #[.slice (some ⟨b, o, none⟩) G.length cap, .int .i64 x, .int .i64 l, .int .i64 r] 24)).heap.size (w.alloc (.cells #[.slice (some ⟨b, o, none⟩) G.length cap, .int .i64 x, .int .i64 l, .int .i64 r] 24)) wa := HBZ0.out.drew.trans (hba.mono HBZ0.out.drew.size)
        clear hba
        by_cases hr : r < Pp.takS G s.wh
        · have HE := ghid (HNO.out hr)
          generalize Pp.takS G s.wh = T at *
          go_wp2_with fail
          go_ret
          exact ⟨Pp.ret_int HE.out, (bx4 hb01).2.2.2.2.1⟩
        · have HP2 := ghid (HYES.out (by omega))
          generalize Pp.takS G s.wh = T at *
          go_wp2_with fail
          go_roundw
          case rel => exact ⟨k + 1, by omega, by simp, HP2, hb01⟩
          case measure => simp [intOf]; omega
    · have HE : Hid (0 = Pp.roE G r) := (Pp.ro_yes fun j h => HP.out j h (by omega) : 0 = Pp.roE G r)
      go_wp2_with fail
      go_ret
      exact ⟨Pp.ret_int HE.out, hbel⟩

set_option maxRecDepth 100000 in
set_option maxHeartbeats 2000000 in
theorem ucheck_any (G : List Se) (v : Value) (x l r : Int) (w : World) (hv : LiesS w v G) (hs : SizedS G) :
    Calls Try.prog 28 #[.agg #[v, .int .i64 x, .int .i64 l, .int .i64 r]] w fun e w' => e = .returned (.int .i64 (Pp.uchE G x l r)) ∧ Below w.heap.size w w' := by
  have HV := ghid hv
  have HS := ghid hs
  obtain ⟨a, cap, rfl, hcap, hcap2, hLL⟩ := hv
  have HL : Hid (∀ i (h : i < G.length), ∃ b o, a = some ⟨b, o, none⟩ ∧ b < w.heap.size ∧ SeAt w b (o + i * 5) G[i]) := hLL
  clear hLL hs
  by_cases hbd : Pp.bndE G.length x l r = 0
  case neg =>
    have HE : Hid (Pp.bndE G.length x l r = Pp.uchE G x l r) := ((Pp.uch_bnd hbd).symm : Pp.bndE G.length x l r = Pp.uchE G x l r)
    have hz : (Pp.bndE G.length x l r == 0) = false := by simpa using hbd
    clear hbd
    go_enter Try.func28, Try.ntmps28
    go_wp2_with fail
    refine (checkBounds_any G _ x l r _ (HV.out.below ((Below.refl _ _).alloc (Nat.le_refl _) _))).mono ?_
    rintro e w1 ⟨rfl, hb1⟩
    obtain ⟨b0, b1, b2, b3, hbel, hltw⟩ := bx4 hb1
    clear hb1
    generalize Pp.bndE G.length x l r = y at *
    go_wp2
    go_ret
    exact ⟨Pp.ret_int HE.out, hbel⟩
  case pos =>
  have HBD := ghid hbd
  obtain ⟨h20, ⟨hl1, hl2⟩, ⟨hr1, hr2⟩, ⟨hx1, hx2⟩⟩ := Pp.bnd_zero hbd
  clear hbd
  go_enter Try.func28, Try.ntmps28
  go_wp2_with fail
  refine (checkBounds_any G _ x l r _ (HV.out.below ((Below.refl _ _).alloc (Nat.le_refl _) _))).mono ?_
  rintro e w1 ⟨rfl, hb1⟩
  rw [HBD.out]
  have HB1 := ghid hb1
  obtain ⟨b0, b1, b2, b3, hbel1, hltw⟩ := bx4 hb1
  clear hb1
  go_wp2_with fail
  go_loopw [15] (fun i wr => ∃ k : Nat, k ≤ G.length ∧ i = .int .i64 k ∧ Hid (∀ j (h : j < G.length), j < k → Pp.seE x G[j] = 0) ∧ Below (w.alloc (.cells #[.slice a G.length cap, .int .i64 x, .int .i64 l, .int .i64 r] 24)).heap.size (w.alloc (.cells #[.slice a G.length cap, .int .i64 x, .int .i64 l, .int .i64 r] 24)) wr) (fun i _ => G.length - (intOf i).toNat)
  case atStart => exact ⟨0, Nat.zero_le _, rfl, (fun j _ h => absurd h (Nat.not_lt_zero _) : ∀ j (h : j < G.length), j < 0 → Pp.seE x G[j] = 0), HB1.out⟩
  case round =>
    clear b0 b1 b2 b3 hbel1 hltw
    obtain ⟨k, hk, rfl, HP, hbel0⟩ := hrel
    obtain ⟨b0, b1, b2, b3, hbel, hltw⟩ := bx4 hbel0
    have HB0 := ghid hbel0
    clear hbel0
    by_cases hlt : k < G.length
    · obtain ⟨b, o, rfl, hb, he⟩ := HL.out k hlt
      obtain ⟨c0, c1, c2, c3, c4⟩ := he.below hb hbel
      have hsz := hbel.size
      clear he
      have HNO : Hid (¬ Pp.seE x G[k] = 0 → Pp.seE x G[k] = Pp.uchE G x l r) := (fun h => by
        have hg := Pp.ses_hit hlt HP.out h
        rw [Pp.uch_ses HBD.out (by rw [hg]; exact h), hg] : ¬ Pp.seE x G[k] = 0 → Pp.seE x G[k] = Pp.uchE G x l r)
      have HYES : Hid (Pp.seE x G[k] = 0 → ∀ j (h : j < G.length), j < k + 1 → Pp.seE x G[j] = 0) := (fun hh j h1 h2 => by
        by_cases e : j = k
        · subst e; exact hh
        · exact HP.out j h1 (by omega) : Pp.seE x G[k] = 0 → ∀ j (h : j < G.length), j < k + 1 → Pp.seE x G[j] = 0)
      have hss := (HS.out G[k] (List.getElem_mem hlt)).1
      generalize G[k] = s at *
      by_cases hr : Pp.seE x s = 0
      · have HP2 := ghid (HYES.out hr)
        have HR := ghid hr
        clear hr
        go_wp2_with fail
        refine (checkSession_any s x _ hx1 hx2 hss).mono ?_
        rintro e w1 ⟨rfl, hb1⟩
        rw [HR.out]
        obtain ⟨d0, d1, d2, d3, d4, hbw1, hlt1⟩ := bx5 hb1
        have hb01 := HB0.out.trans (hbw1.mono HB0.out.size)
        clear hb1 hbw1 hbel
        go_wp2_with fail
        go_roundw
        case rel => exact ⟨k + 1, by omega, by simp, HP2, hb01⟩
        case measure => simp [intOf]; omega
      · have HE := ghid (HNO.out hr)
        have hz : (Pp.seE x s == 0) = false := by simpa using hr
        clear hr
        go_wp2_with fail
        refine (checkSession_any s x _ hx1 hx2 hss).mono ?_
        rintro e w1 ⟨rfl, hb1⟩
        obtain ⟨d0, d1, d2, d3, d4, hbw1, hlt1⟩ := bx5 hb1
        have hb01 := below_trans hbel hbw1
        clear hb1 hbw1 hbel
        generalize Pp.seE x s = y at *
        go_wp2_with fail
        go_ret
        exact ⟨Pp.ret_int HE.out, hb01⟩
    · have HSE := ghid (Pp.ses_all fun j h => HP.out j h (by omega))
      have HSI := ghid (Pp.ses_si HSE.out)
      cases hris : Pp.risS G with
      | false =>
        have HE : Hid (4 = Pp.uchE G x l r) := ((Pp.uch_ris HBD.out HSE.out hris).symm : 4 = Pp.uchE G x l r)
        have HR := ghid hris
        clear hris
        go_wp2_with fail
        refine (urises_any G _ _ (HV.out.below hbel)).mono ?_
        rintro e w1 ⟨rfl, hb1⟩
        rw [HR.out]
        have hb01 := below_trans hbel hb1
        go_wp2
        go_ret
        exact ⟨Pp.ret_int HE.out, hb01⟩
      | true =>
        have HE : Hid (Pp.roE G r = Pp.uchE G x l r) := ((Pp.uch_ro HBD.out HSE.out hris).symm : Pp.roE G r = Pp.uchE G x l r)
        have HR := ghid hris
        clear hris
        go_wp2_with fail
        refine (urises_any G _ _ (HV.out.below hbel)).mono ?_
        rintro e w1 ⟨rfl, hb1⟩
        rw [HR.out]
        have hb01 := below_trans hbel hb1
        have f0 := (hb1.cell (p := ⟨w.heap.size, 0, none⟩) hltw).trans b0
        have f1 := (hb1.cell (p := ⟨w.heap.size, 1, none⟩) hltw).trans b1
        have f2 := (hb1.cell (p := ⟨w.heap.size, 2, none⟩) hltw).trans b2
        have f3 := (hb1.cell (p := ⟨w.heap.size, 3, none⟩) hltw).trans b3
        clear hb1 hbel b0 b1 b2 b3
        go_wp2_with fail
        refine (checkRoom_any G _ x l r _ (HV.out.below hb01) (by omega) HSI.out).mono ?_
        rintro e w2 ⟨rfl, hb2⟩
        have hb02 := below_trans hb01 hb2
        generalize Pp.roE G r = y at *
        go_wp2
        go_ret
        exact ⟨Pp.ret_int HE.out, hb02⟩
end Go.Proofs.Ytnaedemkpiagmaa
