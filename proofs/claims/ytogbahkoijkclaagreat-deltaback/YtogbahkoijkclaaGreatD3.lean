/- What delta.Patch answers, for every tree and every list of changes. -/
import Derived.Test.YtogbahkoijkclaaGreatDPure
import Derived.Test.YtogbahkoijkclaaGreatD1
import Derived.Test.YtogbahkoijkclaaGreatT28
set_option linter.unusedSimpArgs false
set_option linter.unusedVariables false
namespace Go.Proofs.YtogbahkoijkclaaGreat
open Go.RowKit

set_option maxRecDepth 100000 in
set_option maxHeartbeats 2000000 in
theorem patch_any (L : List En) (v : Value) (cs : List Pp.Ch) (u : Value) (n : Int) (w : World) (hv : Lies w v L) (hs : Sized L) (hu : LiesC w u cs) (hcs : SizedC 150000000000000 cs) :
    Calls Tryz.prog 7 #[v, u, .int .i64 n] w fun e w' => ∃ r, e = .returned (.tuple #[r, .int .i64 (Pp.patE L cs n)]) ∧ Lies w' r (Pp.patR L cs n) ∧ Below w.heap.size w w' := by
  have HV := hid hv
  have HS := hid hs
  have HCS := hid hcs
  obtain ⟨a, cap, rfl, hcap, hcap2, hC⟩ := hu
  have HC : Hid (∀ i (h : i < cs.length), ∃ b o, a = some ⟨b, o, none⟩ ∧ b < w.heap.size ∧ ChAt w b (o + i * 5) cs[i]) := hC
  clear hv hs hcs hC
  by_cases htr : Pp.treeE L = 0
  · have HT := hid htr
    by_cases h120 : 120 < cs.length
    · obtain ⟨hE, hR⟩ := Pp.pat_many htr h120 n
      rw [hE, hR]
      clear hE hR htr
      have h120' : 120 < (cs.length : Int) := by omega
      go_enter Tryz.func7, Tryz.ntmps7
      go_wp2_with fail
      refine (tcheck_all L v _ HV.out HS.out).mono ?_
      rintro e w1 ⟨rfl, hb1⟩
      rw [HT.out]
      go_wp2_with fail
      go_ret2
      exact ⟨_, rfl, lies_nil _, hb1⟩
    · have h120' : ¬ 120 < (cs.length : Int) := by omega
      have hg := (Pp.good_iff L).1 htr
      have HG := hid hg
      have hlen := hg.len
      have HRUN : Hid (∀ k e R, Pp.runF n L cs = (k, e, R) → Pp.patE L cs n = e ∧ Pp.patR L cs n = R) := (fun k e R h => Pp.pat_run htr h120 h : ∀ k e R, Pp.runF n L cs = (k, e, R) → Pp.patE L cs n = e ∧ Pp.patR L cs n = R)
      clear hg htr
      go_enter Tryz.func7, Tryz.ntmps7
      go_wp2_with fail
      refine (tcheck_all L v _ HV.out HS.out).mono ?_
      rintro e w1 ⟨rfl, hb1⟩
      rw [HT.out]
      go_wp2_with fail
      refine (eclone_any L v _ (HV.out.below hb1) (by omega)).mono ?_
      rintro e w2 ⟨u, rfl, hou, hb2⟩
      have HU := hid hou
      have hb02 := hb1.trans (hb2.mono hb1.size)
      clear hou hb1 hb2
      go_wp2_with fail
      go_loopw [9, 26] (fun x i wr => ∃ (k : Nat) (S : List En), k ≤ cs.length ∧ i = .int .i64 k ∧ Hid (Lies wr x S) ∧ Hid (Pp.Good S) ∧ Hid (Pp.Left n L cs S k) ∧ Below w.heap.size w wr) (fun _ i _ => cs.length - (intOf i).toNat)
      case atStart => exact ⟨0, L, Nat.zero_le _, rfl, HU, HG, Pp.left_zero n L cs, hb02⟩
      case round =>
        obtain ⟨k, S, hk, rfl, HX, HGS, HLF, hbel⟩ := hrel
        clear hb02
        by_cases hlt : k < cs.length
        · obtain ⟨b, o, rfl, hb, he⟩ := HC.out k hlt
          obtain ⟨c0, c1, c2, c3, c4⟩ := he.below hb hbel
          have hsz := HCS.out cs[k] (List.getElem_mem hlt)
          have HZ := hid hsz
          have HNX : Hid (Pp.appE S cs[k] n = 0 → Pp.Left n L cs (Pp.chdR S cs[k] n) (k + 1)) := (fun h0 => Pp.left_next HLF.out hlt h0 : Pp.appE S cs[k] n = 0 → Pp.Left n L cs (Pp.chdR S cs[k] n) (k + 1))
          have HST : Hid (¬ Pp.appE S cs[k] n = 0 → Pp.runF n L cs = (k, Pp.appE S cs[k] n, [])) := (fun h0 => Pp.left_stop HLF.out hlt h0 : ¬ Pp.appE S cs[k] n = 0 → Pp.runF n L cs = (k, Pp.appE S cs[k] n, []))
          have HGN : Hid (Pp.appE S cs[k] n = 0 → Pp.Good (Pp.chdR S cs[k] n)) := (fun h0 => Pp.app_good HGS.out h0 : Pp.appE S cs[k] n = 0 → Pp.Good (Pp.chdR S cs[k] n))
          clear he hsz
          generalize cs[k] = ck at *
          obtain ⟨kk, p, q, t, bs⟩ := ck
          simp only at c0 c1 c2 c3 c4
          go_wp2_with fail
          refine (tapply_all S _ kk p q t bs n _ (HX.out.below ((Below.refl _ _).alloc (Nat.le_refl _) _)) (Pp.good_sizedD HGS.out) HZ.out.1 HZ.out.2.1 HZ.out.2.2).mono ?_
          rintro e w3 ⟨u3, rfl, hli, hb3⟩
          rw [Pp.tapE_yes ((Pp.good_iff S).2 HGS.out)]
          rw [Pp.tapR_yes ((Pp.good_iff S).2 HGS.out)] at hli
          obtain ⟨d0, d1, d2, d3, d4, hbw, hlt3⟩ := box5 hb3
          have HLI := hid hli
          have hbel3 := below_trans hbel hbw
          clear hb3 hli d0 d1 d2 d3 d4 c0 c1 c2 c3 c4 hbel hbw
          by_cases h0 : Pp.appE S ⟨kk, p, q, t, bs⟩ n = 0
          · have HN := hid (HNX.out h0)
            have HG3 := hid (HGN.out h0)
            have hR : Pp.appR S ⟨kk, p, q, t, bs⟩ n = Pp.chdR S ⟨kk, p, q, t, bs⟩ n := by rw [Pp.appR, Pp.ifz_yes h0]
            have HL3 : Hid (Lies w3 u3 (Pp.chdR S ⟨kk, p, q, t, bs⟩ n)) := (hR ▸ HLI.out : Lies w3 u3 (Pp.chdR S ⟨kk, p, q, t, bs⟩ n))
            rw [h0]
            clear hR h0 HLI HNX HST HGN
            go_wp2_with fail
            go_roundw
            case rel => exact ⟨k + 1, _, by omega, by simp, HL3, HG3, HN, hbel3⟩
            case measure => simp [intOf]; omega
          · obtain ⟨hE, hR⟩ := HRUN.out _ _ _ (HST.out h0)
            have hz : (Pp.appE S ⟨kk, p, q, t, bs⟩ n == 0) = false := by simpa using h0
            have HE := hid hE
            have HR := hid hR
            clear hE hR h0 HLI HNX HST HGN
            go_wp2_with fail
            go_ret2
            exact ⟨_, by rw [HE.out]; rfl, by rw [HR.out]; exact lies_nil _, hbel3⟩
        · obtain rfl : k = cs.length := by omega
          obtain ⟨hE, hR⟩ := HRUN.out _ _ _ (Pp.left_end HLF.out)
          have HE := hid hE
          have HR := hid hR
          clear hE hR
          go_wp2_with fail
          go_ret2
          exact ⟨_, by rw [HE.out]; rfl, by rw [HR.out]; exact HX.out, hbel⟩
  · obtain ⟨hE, hR⟩ := Pp.pat_no htr cs n
    rw [hE, hR]
    have hz : (Pp.treeE L == 0) = false := by simpa using htr
    clear hE hR
    go_enter Tryz.func7, Tryz.ntmps7
    go_wp2_with fail
    refine (tcheck_all L v _ HV.out HS.out).mono ?_
    rintro e w1 ⟨rfl, hb1⟩
    go_wp2_with fail
    go_ret2
    exact ⟨_, rfl, lies_nil _, hb1⟩
end Go.Proofs.YtogbahkoijkclaaGreat
