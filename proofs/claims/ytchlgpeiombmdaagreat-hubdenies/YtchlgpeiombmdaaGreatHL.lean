/- What the law TreeGoes says, as plain mathematics. What tree.All answers, for every tree and every list of changes. -/
import Derived.Test.YtchlgpeiombmdaaGreatHJ
import Derived.Test.YtchlgpeiombmdaaGreatHG
import Derived.Test.YtchlgpeiombmdaaGreatMA
set_option linter.unusedSimpArgs false
set_option linter.unusedVariables false
namespace Go.Proofs.YtchlgpeiombmdaaGreat.Pp

theorem app_parts {L : List En} {c : Ch} {n : Int} (h : appE L c n = 0) : verE n = 0 ∧ chgE c = 0 ∧ plcE L c = 0 ∧ stl L c = false ∧ chdE L c n = 0 := by
 have hv : verE n = 0 := by
  by_cases h1 : verE n = 0
  · exact h1
  · rw [app_ver h1] at h; exact h
 have hc : chgE c = 0 := by
  by_cases h1 : chgE c = 0
  · exact h1
  · rw [app_chg hv h1] at h; exact h
 have hp : plcE L c = 0 := by
  by_cases h1 : plcE L c = 0
  · exact h1
  · rw [app_plc hv hc h1] at h; exact h
 cases hs : stl L c with
 | true => rw [app_stl hv hc hp hs] at h; cases h
 | false => exact ⟨hv, hc, hp, rfl, by rw [app_chd hv hc hp hs] at h; exact h⟩
/-- All else is there as it was, but what the change is about. -/
theorem else_kept {L : List En} {c : Ch} {n : Int} (hk : 1 ≤ c.k ∧ c.k ≤ 4) {x : En} (hx : x ∈ L) (h1 : isInB x.path.data.toList c.p.data.toList = false) : x ∈ chdR L c n := by
 rw [chdR]
 split
 · rw [(ins_perm _ _).mem_iff, List.mem_cons]
   refine Or.inr (mem_outE.2 ⟨hx, fun e => ?_⟩)
   have e' : x.path.data.toList = c.p.data.toList := e
   rw [e', isIn_refl] at h1; cases h1
 · split
   · rw [(insAll_perm _ _).mem_iff, List.mem_append]
     exact Or.inl (mem_keptL.2 ⟨hx, h1⟩)
   · exact mem_keptL.2 ⟨hx, h1⟩
theorem good_sized {R : List En} (hR : Good R) : Sized R := fun e he => by
 have h1 := chk_len (entE_path (hR.ents e he))
 have h2 := hR.ents e he
 refine ⟨by rw [Lib.size_eq]; omega, ?_⟩
 rw [entE, if_pos (entE_path h2)] at h2
 split at h2
 · cases h2
 · split at h2
   · cases h2
   · omega
theorem written {L : List En} {c : Ch} {n : Int} (h2 : c.k = 2) : newE c n ∈ chdR L c n := by
 rw [chdR, if_pos (Or.inr h2), (ins_perm _ _).mem_iff]; simp
end Go.Proofs.YtchlgpeiombmdaaGreat.Pp
set_option linter.unusedSimpArgs false
set_option linter.unusedVariables false
namespace Go.Proofs.YtchlgpeiombmdaaGreat
open Go.RowKit

set_option maxRecDepth 100000 in
set_option maxHeartbeats 2000000 in
theorem tall_any (L : List En) (v : Value) (cs : List Pp.Ch) (u : Value) (n : Int) (w : World) (hv : Lies w v L) (hs : Sized L) (hu : LiesC w u cs) (hcs : SizedC 150000000000000 cs) :
    Calls Tryz.prog 122 #[v, u, .int .i64 n] w fun e w' => ∃ r, e = .returned (.tuple #[r, .int .i64 (Pp.allN L cs n), .int .i64 (Pp.allE L cs n)]) ∧ Lies w' r (Pp.allR L cs n) ∧ Below w.heap.size w w' := by
 have HV := hid hv
 have HS := hid hs
 have HCS := hid hcs
 obtain ⟨a, cap, rfl, hcap, hcap2, hC⟩ := hu
 have HC : Hid (∀ i (h : i < cs.length), ∃ b o, a = some ⟨b, o, none⟩ ∧ b < w.heap.size ∧ ChAt w b (o + i * 5) cs[i]) := hC
 clear hv hs hcs hC
 by_cases htr : Pp.treeE L = 0
 · have HT := hid htr
   by_cases h20 : 20 < cs.length
   · obtain ⟨hE, hN, hR⟩ := Pp.all_many htr h20 n
     rw [hE, hN, hR]
     clear hE hN hR htr
     have h20' : 20 < (cs.length : Int) := by omega
     go_enter Tryz.func122, Tryz.ntmps122
     go_wp2_with fail
     refine (tcheck_all L v _ HV.out HS.out).mono ?_
     rintro e w1 ⟨rfl, hb1⟩
     rw [HT.out]
     go_wp2_with fail
     go_ret3
     exact ⟨_, rfl, lies_nil _, hb1⟩
   · have h20' : ¬ 20 < (cs.length : Int) := by omega
     have hg := (Pp.good_iff L).1 htr
     have HG := hid hg
     have hlen := hg.len
     have HRUN := hid (show ∀ k e R, Pp.runF n L cs = (k, e, R) → Pp.allE L cs n = e ∧ Pp.allN L cs n = k ∧ Pp.allR L cs n = R from fun k e R h => Pp.all_run htr h20 h)
     clear hg htr
     go_enter Tryz.func122, Tryz.ntmps122
     go_wp2_with fail
     refine (tcheck_all L v _ HV.out HS.out).mono ?_
     rintro e w1 ⟨rfl, hb1⟩
     rw [HT.out]
     go_wp2_with fail
     refine (every_any L v _ _ (fun _ => true) _ (HV.out.below hb1) (yes_tells _) (by omega) HS.out).mono ?_
     rintro e w2 ⟨u, rfl, hou, hnu, hb2⟩
     rw [show L.filter (fun _ => true) = L by simp] at hou
     have HU : Hid (Lies w2 u L) := lies_own hou (by omega)
     have hb02 := hb1.trans (hb2.mono hb1.size)
     clear hou hnu hb1 hb2
     go_wp2_with fail
     go_loopw [10, 26] (fun x i wr => ∃ (k : Nat) (S : List En), k ≤ cs.length ∧ i = .int .i64 k ∧ Hid (Lies wr x S) ∧ Hid (Pp.Good S) ∧ Hid (Pp.Left n L cs S k) ∧ Below w.heap.size w wr) (fun _ i _ => cs.length - (intOf i).toNat)
     case atStart => exact ⟨0, L, Nat.zero_le _, rfl, HU, HG, Pp.left_zero n L cs, hb02⟩
     case round =>
      obtain ⟨k, S, hk, rfl, HX, HGS, HLF, hbel⟩ := hrel
      clear hb02
      by_cases hlt : k < cs.length
      · obtain ⟨b, o, rfl, hb, he⟩ := HC.out k hlt
        obtain ⟨c0, c1, c2, c3, c4⟩ := he.below hb hbel
        have hsz := HCS.out cs[k] (List.getElem_mem hlt)
        have HZ := hid hsz
        have HNX := hid (show Pp.appE S cs[k] n = 0 → Pp.Left n L cs (Pp.chdR S cs[k] n) (k + 1) from fun h0 => Pp.left_next HLF.out hlt h0)
        have HST := hid (show ¬ Pp.appE S cs[k] n = 0 → Pp.runF n L cs = (k, Pp.appE S cs[k] n, []) from fun h0 => Pp.left_stop HLF.out hlt h0)
        have HGN := hid (show Pp.appE S cs[k] n = 0 → Pp.Good (Pp.chdR S cs[k] n) from fun h0 => Pp.app_good HGS.out h0)
        clear he hsz
        generalize cs[k] = ck at *
        obtain ⟨kk, p, q, t, bs⟩ := ck
        simp only at c0 c1 c2 c3 c4
        go_wp2_with fail
        refine (apply_any S _ kk p q t bs n _ (HX.out.below ((Below.refl _ _).alloc (Nat.le_refl _) _)) (Pp.good_sized HGS.out) HZ.out.1 HZ.out.2.1 HZ.out.2.2 HGS.out).mono ?_
        rintro e w3 ⟨u3, rfl, hli, hb3⟩
        obtain ⟨d0, d1, d2, d3, d4, hbw, hlt3⟩ := box5 hb3
        have HLI := hid hli
        have hbel3 := below_trans hbel hbw
        clear hb3 hli d0 d1 d2 d3 d4 c0 c1 c2 c3 c4 hbel hbw
        by_cases h0 : Pp.appE S ⟨kk, p, q, t, bs⟩ n = 0
        · have HN := hid (HNX.out h0)
          have HG3 := hid (HGN.out h0)
          have hR : Pp.appR S ⟨kk, p, q, t, bs⟩ n = Pp.chdR S ⟨kk, p, q, t, bs⟩ n := by rw [Pp.appR, Pp.ifz_yes h0]
          have HL3 := hid (show Lies w3 u3 (Pp.chdR S ⟨kk, p, q, t, bs⟩ n) from hR ▸ HLI.out)
          rw [h0]
          clear hR h0 HLI HNX HST HGN
          go_wp2_with fail
          go_roundw
          case rel => exact ⟨k + 1, _, by omega, by simp, HL3, HG3, HN, hbel3⟩
          case measure => simp [intOf]; omega
        · obtain ⟨hE, hN, hR⟩ := HRUN.out _ _ _ (HST.out h0)
          have hz : (Pp.appE S ⟨kk, p, q, t, bs⟩ n == 0) = false := by simpa using h0
          have HE := hid hE
          have HN := hid hN
          have HR := hid hR
          clear hE hN hR h0 HLI HNX HST HGN
          go_wp2_with fail
          go_ret3
          exact ⟨_, by rw [HE.out, HN.out]; rfl, by rw [HR.out]; exact lies_nil _, hbel3⟩
      · obtain rfl : k = cs.length := by omega
        obtain ⟨hE, hN, hR⟩ := HRUN.out _ _ _ (Pp.left_end HLF.out)
        have HE := hid hE
        have HN := hid hN
        have HR := hid hR
        clear hE hN hR
        go_wp2_with fail
        go_ret3
        exact ⟨_, by rw [HE.out, HN.out]; rfl, by rw [HR.out]; exact HX.out, hbel⟩
 · obtain ⟨hE, hN, hR⟩ := Pp.all_no htr cs n
   rw [hE, hN, hR]
   have hz : (Pp.treeE L == 0) = false := by simpa using htr
   clear hE hN hR
   go_enter Tryz.func122, Tryz.ntmps122
   go_wp2_with fail
   refine (tcheck_all L v _ HV.out HS.out).mono ?_
   rintro e w1 ⟨rfl, hb1⟩
   go_wp2_with fail
   go_ret3
   exact ⟨_, rfl, lies_nil _, hb1⟩
end Go.Proofs.YtchlgpeiombmdaaGreat
