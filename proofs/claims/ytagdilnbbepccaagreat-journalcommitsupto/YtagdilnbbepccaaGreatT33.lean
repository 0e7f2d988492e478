/- What the reference's AllOf answers, for every tree that passes Check and every list of changes. -/
import Derived.Test.YtagdilnbbepccaaGreatT32
import Derived.Test.YtagdilnbbepccaaGreatMA
import Derived.Test.YtagdilnbbepccaaGreatMH
import Derived.Test.YtagdilnbbepccaaGreatT13
set_option linter.unusedSimpArgs false
set_option linter.unusedVariables false
namespace Go.Proofs.YtagdilnbbepccaaGreat
open Go.RowKit

namespace Pp
theorem run_ver {n : Int} (h : ¬ verE n = 0) (L : List En) {cs : List Ch} (hc : 0 < cs.length) : runF n L cs = (0, 3, []) := by
  cases cs with
  | nil => simp at hc
  | cons c r =>
    have h3 : verE n = 3 := by
      unfold verE at h ⊢
      split
      · rfl
      · rename_i h1; rw [if_neg h1] at h; exact absurd rfl h
    rw [runF, if_neg (by rw [app_ver h]; exact h), app_ver h, h3]
end Pp

set_option maxRecDepth 100000 in
set_option maxHeartbeats 2000000 in
theorem rAllOf_any (L : List En) (v : Value) (cs : List Pp.Ch) (u : Value) (n : Int) (w : World) (hv : Lies w v L) (hL : Pp.Good L) (hu : LiesC w u cs) (hcs : SizedC 1000000000 cs) :
    Calls Tryz.prog 34 #[v, u, .int .i64 n] w fun e w' => ∃ r, e = .returned (.tuple #[r, .int .i64 (Pp.allN L cs n), .int .i64 (Pp.allE L cs n)]) ∧ (Pp.allE L cs n = 0 → Lies w' r (Pp.allR L cs n)) ∧ Below w.heap.size w w' := by
  have HV := hid hv
  have HL := hid hL
  have HCS := hid hcs
  have htr := (Pp.good_iff L).2 hL
  obtain ⟨a, cap, rfl, hcap, hcap2, hC⟩ := hu
  have HC : Hid (∀ i (h : i < cs.length), ∃ b o, a = some ⟨b, o, none⟩ ∧ b < w.heap.size ∧ ChAt w b (o + i * 5) cs[i]) := hC
  clear hv hcs hC
  by_cases h20 : 20 < cs.length
  · obtain ⟨hE, hN, hR⟩ := Pp.all_many htr h20 n
    rw [hE, hN]
    clear hE hN hR htr hL
    have h20' : 20 < (cs.length : Int) := by omega
    go_enter Tryz.func34, Tryz.ntmps34
    go_wp2
    go_ret3
    exact ⟨_, rfl, fun h => absurd h (by decide), Below.refl _ _⟩
  · have h20' : ¬ 20 < (cs.length : Int) := by omega
    have HRUN : Hid (∀ k e R, Pp.runF n L cs = (k, e, R) → Pp.allE L cs n = e ∧ Pp.allN L cs n = k ∧ Pp.allR L cs n = R) := (fun k e R h => Pp.all_run htr h20 h : ∀ k e R, Pp.runF n L cs = (k, e, R) → Pp.allE L cs n = e ∧ Pp.allN L cs n = k ∧ Pp.allR L cs n = R)
    clear htr hL
    by_cases hz : cs.length = 0
    · have hn : cs = [] := List.length_eq_zero_iff.1 hz
      subst hn
      obtain ⟨hE, hN, hR⟩ := HRUN.out _ _ _ (runF_nil n L)
      have HE := hid hE
      have HN := hid hN
      have HR := hid hR
      clear hE hN hR hz
      simp only [List.length_nil] at hcap hcap2 ⊢
      go_enter Tryz.func34, Tryz.ntmps34
      go_wp2_with fail
      go_loopw [0, 9] (fun x i wr => x = v ∧ i = .int .i64 0 ∧ Below w.heap.size w wr) (fun _ _ _ => 0)
      case atStart => exact ⟨rfl, rfl, Below.refl _ _⟩
      case round =>
        obtain ⟨rfl, rfl, hbel⟩ := hrel
        go_wp2_with fail
        go_ret3
        exact ⟨_, by rw [HE.out, HN.out]; rfl, fun _ => by rw [HR.out]; exact HV.out.below hbel, hbel⟩
    · have hz' : 0 < (cs.length : Int) := by omega
      by_cases hver : Pp.verE n = 0
      · have HVE := hid hver
        clear hver
        go_enter Tryz.func34, Tryz.ntmps34
        go_wp2_with fail
        refine (isVersion_any n _).mono ?_
        rintro e w1 ⟨rfl, hw⟩
        rw [hw]
        clear hw w1
        rw [HVE.out]
        go_wp2_with fail
        go_loopw [0, 9] (fun x i wr => ∃ (k : Nat) (S : List En), k ≤ cs.length ∧ i = .int .i64 k ∧ Hid (Lies wr x S) ∧ Hid (Pp.Good S) ∧ Hid (Pp.Left n L cs S k) ∧ Below w.heap.size w wr) (fun _ i _ => cs.length - (intOf i).toNat)
        case atStart => exact ⟨0, L, Nat.zero_le _, rfl, HV, HL, Pp.left_zero n L cs, Below.refl _ _⟩
        case round =>
          obtain ⟨k, S, hk, rfl, HX, HGS, HLF, hbel⟩ := hrel
          by_cases hlt : k < cs.length
          · obtain ⟨b, o, rfl, hb, he⟩ := HC.out k hlt
            obtain ⟨c0, c1, c2, c3, c4⟩ := he.below hb hbel
            have HZ := hid (HCS.out cs[k] (List.getElem_mem hlt))
            have HNX : Hid (Pp.appE S cs[k] n = 0 → Pp.Left n L cs (Pp.chdR S cs[k] n) (k + 1)) := (fun h0 => Pp.left_next HLF.out hlt h0 : Pp.appE S cs[k] n = 0 → Pp.Left n L cs (Pp.chdR S cs[k] n) (k + 1))
            have HST : Hid (¬ Pp.appE S cs[k] n = 0 → Pp.runF n L cs = (k, Pp.appE S cs[k] n, [])) := (fun h0 => Pp.left_stop HLF.out hlt h0 : ¬ Pp.appE S cs[k] n = 0 → Pp.runF n L cs = (k, Pp.appE S cs[k] n, []))
            have HGN : Hid (Pp.appE S cs[k] n = 0 → Pp.Good (Pp.chdR S cs[k] n)) := (fun h0 => Pp.app_good HGS.out h0 : Pp.appE S cs[k] n = 0 → Pp.Good (Pp.chdR S cs[k] n))
            clear he
            generalize cs[k] = ck at *
            obtain ⟨kk, p, q, t, bs⟩ := ck
            simp only at c0 c1 c2 c3 c4
            go_wp2_with fail
            refine (changeOf_any S _ kk p q t bs n _ HX.out HZ.out.1 HZ.out.2.1 HZ.out.2.2 HGS.out HVE.out).mono ?_
            rintro e w3 ⟨u3, rfl, hli, hb3⟩
            have HLI := hid hli
            have hbel3 := below_trans hbel hb3
            clear hb3 hli c0 c1 c2 c3 c4 hbel
            by_cases h0 : Pp.appE S ⟨kk, p, q, t, bs⟩ n = 0
            · have HN := hid (HNX.out h0)
              have HG3 := hid (HGN.out h0)
              have HL3 := hid (HLI.out h0)
              rw [h0]
              clear h0 HLI HNX HST HGN
              go_wp2_with fail
              go_roundw
              case rel => exact ⟨k + 1, _, by omega, by simp, HL3, HG3, HN, hbel3⟩
              case measure => simp [intOf]; omega
            · obtain ⟨hE, hN, hR⟩ := HRUN.out _ _ _ (HST.out h0)
              have hzz : (Pp.appE S ⟨kk, p, q, t, bs⟩ n == 0) = false := by simpa using h0
              have HE := hid hE
              have HN := hid hN
              have H0 := hid h0
              clear hE hN hR h0 HLI HNX HST HGN
              go_wp2_with fail
              go_ret3
              exact ⟨_, by rw [HE.out, HN.out]; rfl, fun h => absurd (HE.out ▸ h) H0.out, hbel3⟩
          · obtain rfl : k = cs.length := by omega
            obtain ⟨hE, hN, hR⟩ := HRUN.out _ _ _ (Pp.left_end HLF.out)
            have HE := hid hE
            have HN := hid hN
            have HR := hid hR
            clear hE hN hR
            go_wp2_with fail
            go_ret3
            exact ⟨_, by rw [HE.out, HN.out]; rfl, fun _ => by rw [HR.out]; exact HX.out, hbel⟩
      · obtain ⟨hE, hN, hR⟩ := HRUN.out _ _ _ (Pp.run_ver hver L (by omega))
        have HE := hid hE
        have HN := hid hN
        have hzz : (Pp.verE n == 0) = false := by simpa using hver
        clear hE hN hR
        go_enter Tryz.func34, Tryz.ntmps34
        go_wp2_with fail
        refine (isVersion_any n _).mono ?_
        rintro e w1 ⟨rfl, hw⟩
        rw [hw]
        clear hw w1
        go_wp2_with fail
        go_ret3
        exact ⟨_, by rw [HE.out, HN.out]; rfl, (fun h => by rw [HE.out] at h; exact absurd h (by decide)), Below.refl _ _⟩
end Go.Proofs.YtagdilnbbepccaaGreat
