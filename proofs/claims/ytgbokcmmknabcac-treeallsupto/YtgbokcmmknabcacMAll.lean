/- What the reference's ChangeOf answers, for every change of a tree that passes Check. What the reference's AllOf answers, for every tree that passes Check and every list of changes. What tree.Check and Apply answer, for a tree of any length. What tree.All answers, for every tree and every list of changes. What the reference's SameEntries and the laws' treeIs answer, of the same trees. What the law TreeAlls answers: true, for every tree, every list of changes and every version. -/
import Derived.Test.YtgbokcmmknabcacT24
import Derived.Test.YtgbokcmmknabcacT30a
import Derived.Test.YtgbokcmmknabcacT30b
import Derived.Test.YtgbokcmmknabcacT30c
import Derived.Test.YtgbokcmmknabcacT34
import Derived.Test.YtgbokcmmknabcacT35a
import Derived.Test.YtgbokcmmknabcacT35b
import Derived.Test.YtgbokcmmknabcacTAll
import Derived.Test.YtgbokcmmknabcacTPure6
import Derived.Test.YtgbokcmmknabcacT13
set_option linter.unusedSimpArgs false
set_option linter.unusedVariables false
namespace Go.Proofs.Ytgbokcmmknabcac
open Go.RowKit

theorem changeOf_any (L : List En) (v : Value) (k : Int) (p q t : ByteArray) (b n : Int) (w : World) (hv : Lies w v L) (hp : p.size ≤ 1000000000) (hq : q.size ≤ 1000000000) (ht : t.size ≤ 1000000000) (hL : Pp.Good L) (hver : Pp.verE n = 0) :
    Calls Try.prog 34 #[v, .agg #[.int .i64 k, .string p, .string q, .string t, .int .i64 b], .int .i64 n] w fun e w' => ∃ u, e = .returned (.tuple #[u, .int .i64 (Pp.appE L ⟨k, p, q, t, b⟩ n)]) ∧ (Pp.appE L ⟨k, p, q, t, b⟩ n = 0 → Lies w' u (Pp.chdR L ⟨k, p, q, t, b⟩ n)) ∧ Below w.heap.size w w' := by
  have hs : ∀ e ∈ L, e.path.size ≤ 1000000000 := fun e he => by
    have := Pp.chk_len (Pp.entE_path (hL.ents e he))
    rw [Lib.size_eq]; omega
  by_cases hc : Pp.chgE ⟨k, p, q, t, b⟩ = 0
  · by_cases hpl : Pp.plcE L ⟨k, p, q, t, b⟩ = 0
    · have hr : Pp.appE L ⟨k, p, q, t, b⟩ n = Pp.rstE L ⟨k, p, q, t, b⟩ n := by
        rw [Pp.appE, if_neg (fun x => x hver), if_neg (fun x => x hc), if_neg (fun x => x hpl)]; rfl
      rw [hr]
      have h4 : 1 ≤ k ∧ k ≤ 4 := Pp.chg_kind hc
      obtain ⟨h0, hcs⟩ := Pp.plc_ok h4 hpl
      have hrest := Pp.chg_rest hc
      rcases hcs with ⟨rfl, hi⟩ | ⟨rfl, hi⟩ | ⟨rfl, j, hj, hi, hx⟩ | ⟨rfl, ⟨j, hj, hi⟩, hx, hi2, hf2⟩ | ⟨rfl, j, hj, hi⟩
      · have ht0 : t = ⟨#[]⟩ := by
          rcases hrest.2.1 with h2 | h2
          · exact absurd (show (1 : Int) = 2 from h2) (by decide)
          · exact Pp.no_text h2
        subst ht0
        exact changeOf_mk L v p q b n w hv hs hp hq hL hc (hid (by simpa [Pp.goal] using h0)) hi
      · exact changeOf_wr L v p q t b n w hv hs hp hq ht hL hc (hid (by simpa [Pp.goal] using h0)) hi
      · exact changeOf_rw L v p q t b n w hv hs hp hq ht hL hc (hid (by simpa [Pp.goal] using h0)) j hj hi hx
      · by_cases hb : b < 0
        · exact changeOf_mv_any L v p q t b n w hv hs hp hq ht hL hc (hid (by simpa [Pp.goal] using h0)) j hj hi hx hi2 hf2 hb
        · exact changeOf_mv_at L v p q t b n w hv hs hp hq ht hL hc (hid (by simpa [Pp.goal] using h0)) j hj hi hx hi2 hf2 (by omega)
      · exact changeOf_del L v p q t b n w hv hs hp hq ht hL hc (hid (by simpa [Pp.goal] using h0)) j hj hi
    · have hr : Pp.appE L ⟨k, p, q, t, b⟩ n = Pp.plcE L ⟨k, p, q, t, b⟩ := Pp.app_plc hver hc hpl
      rw [hr]
      refine (changeOf_place L v k p q t b n w hv hp hq ht hc hpl).mono ?_
      rintro e w1 ⟨rfl, hb⟩
      exact ⟨_, rfl, fun h => absurd h hpl, hb⟩
  · have hr : Pp.appE L ⟨k, p, q, t, b⟩ n = Pp.chgE ⟨k, p, q, t, b⟩ := Pp.app_chg hver hc
    rw [hr]
    refine (changeOf_form L v k p q t b n w hp hq ht hc).mono ?_
    rintro e w1 ⟨rfl, hb⟩
    exact ⟨_, rfl, fun h => absurd h hc, hb⟩
end Go.Proofs.Ytgbokcmmknabcac
namespace Go.Proofs.Ytgbokcmmknabcac
open Go.RowKit

namespace Pp
theorem run_ver {n : Int} (h : ¬ verE n = 0) (L : List En) {cs : List Ch} (hc : 0 < cs.length) : runF n L cs = (0, 3, []) := by
  cases cs with
  | nil => simp at hc
  | cons c r =>
    have h3 : verE n = 3 := by
      unfold verE at h ⊢
      split
      · rfl
      · rename_i h1; rw [if_neg h1] at h; exact absurd rfl h
    rw [runF, if_neg (by rw [app_ver h]; exact h), app_ver h, h3]
end Pp

set_option maxRecDepth 100000 in
set_option maxHeartbeats 2000000 in
theorem rAllOf_any (L : List En) (v : Value) (cs : List Pp.Ch) (u : Value) (n : Int) (w : World) (hv : Lies w v L) (hL : Pp.Good L) (hu : LiesC w u cs) (hcs : SizedC 1000000000 cs) :
    Calls Try.prog 11 #[v, u, .int .i64 n] w fun e w' => ∃ r, e = .returned (.tuple #[r, .int .i64 (Pp.allN L cs n), .int .i64 (Pp.allE L cs n)]) ∧ (Pp.allE L cs n = 0 → Lies w' r (Pp.allR L cs n)) ∧ Below w.heap.size w w' := by
  have HV := hid hv
  have HL := hid hL
  have HCS := hid hcs
  have htr := (Pp.good_iff L).2 hL
  obtain ⟨a, cap, rfl, hcap, hcap2, hC⟩ := hu
  have HC : Hid (∀ i (h : i < cs.length), ∃ b o, a = some ⟨b, o, none⟩ ∧ b < w.heap.size ∧ ChAt w b (o + i * 5) cs[i]) := hC
  clear hv hcs hC
  by_cases h20 : 20 < cs.length
  · obtain ⟨hE, hN, hR⟩ := Pp.all_many htr h20 n
    rw [hE, hN]
    clear hE hN hR htr hL
    have h20' : 20 < (cs.length : Int) := by omega
    go_enter Try.func11, Try.ntmps11
    go_wp2
    go_ret3
    exact ⟨_, rfl, fun h => absurd h (by decide), Below.refl _ _⟩
  · have h20' : ¬ 20 < (cs.length : Int) := by omega
    have HRUN : Hid (∀ k e R, Pp.runF n L cs = (k, e, R) → Pp.allE L cs n = e ∧ Pp.allN L cs n = k ∧ Pp.allR L cs n = R) := (fun k e R h => Pp.all_run htr h20 h : ∀ k e R, Pp.runF n L cs = (k, e, R) → Pp.allE L cs n = e ∧ Pp.allN L cs n = k ∧ Pp.allR L cs n = R)
    clear htr hL
    by_cases hz : cs.length = 0
    · have hn : cs = [] := List.length_eq_zero_iff.1 hz
      subst hn
      obtain ⟨hE, hN, hR⟩ := HRUN.out _ _ _ (runF_nil n L)
      have HE := hid hE
      have HN := hid hN
      have HR := hid hR
      clear hE hN hR hz
      simp only [List.length_nil] at hcap hcap2 ⊢
      go_enter Try.func11, Try.ntmps11
      go_wp2_with fail
      go_loopw [0, 9] (fun x i wr => x = v ∧ i = .int .i64 0 ∧ Below w.heap.size w wr) (fun _ _ _ => 0)
      case atStart => exact ⟨rfl, rfl, Below.refl _ _⟩
      case round =>
        obtain ⟨rfl, rfl, hbel⟩ := hrel
        go_wp2_with fail
        go_ret3
        exact ⟨_, by rw [HE.out, HN.out]; rfl, fun _ => by rw [HR.out]; exact HV.out.below hbel, hbel⟩
    · have hz' : 0 < (cs.length : Int) := by omega
      by_cases hver : Pp.verE n = 0
      · have HVE := hid hver
        clear hver
        go_enter Try.func11, Try.ntmps11
        go_wp2_with fail
        refine (isVersion_any n _).mono ?_
        rintro e w1 ⟨rfl, hw⟩
        rw [hw]
        clear hw w1
        rw [HVE.out]
        go_wp2_with fail
        go_loopw [0, 9] (fun x i wr => ∃ (k : Nat) (S : List En), k ≤ cs.length ∧ i = .int .i64 k ∧ Hid (Lies wr x S) ∧ Hid (Pp.Good S) ∧ Hid (Pp.Left n L cs S k) ∧ Below w.heap.size w wr) (fun _ i _ => cs.length - (intOf i).toNat)
        case atStart => exact ⟨0, L, Nat.zero_le _, rfl, HV, HL, Pp.left_zero n L cs, Below.refl _ _⟩
        case round =>
          obtain ⟨k, S, hk, rfl, HX, HGS, HLF, hbel⟩ := hrel
          by_cases hlt : k < cs.length
          · obtain ⟨b, o, rfl, hb, he⟩ := HC.out k hlt
            obtain ⟨c0, c1, c2, c3, c4⟩ := he.below hb hbel
            have HZ := hid (HCS.out cs[k] (List.getElem_mem hlt))
            have HNX : Hid (Pp.appE S cs[k] n = 0 → Pp.Left n L cs (Pp.chdR S cs[k] n) (k + 1)) := (fun h0 => Pp.left_next HLF.out hlt h0 : Pp.appE S cs[k] n = 0 → Pp.Left n L cs (Pp.chdR S cs[k] n) (k + 1))
            have HST : Hid (¬ Pp.appE S cs[k] n = 0 → Pp.runF n L cs = (k, Pp.appE S cs[k] n, [])) := (fun h0 => Pp.left_stop HLF.out hlt h0 : ¬ Pp.appE S cs[k] n = 0 → Pp.runF n L cs = (k, Pp.appE S cs[k] n, []))
            have HGN : Hid (Pp.appE S cs[k] n = 0 → Pp.Good (Pp.chdR S cs[k] n)) := (fun h0 => Pp.app_good HGS.out h0 : Pp.appE S cs[k] n = 0 → Pp.Good (Pp.chdR S cs[k] n))
            clear he
            generalize cs[k] = ck at *
            obtain ⟨kk, p, q, t, bs⟩ := ck
            simp only at c0 c1 c2 c3 c4
            go_wp2_with fail
            refine (changeOf_any S _ kk p q t bs n _ HX.out HZ.out.1 HZ.out.2.1 HZ.out.2.2 HGS.out HVE.out).mono ?_
            rintro e w3 ⟨u3, rfl, hli, hb3⟩
            have HLI := hid hli
            have hbel3 := below_trans hbel hb3
            clear hb3 hli c0 c1 c2 c3 c4 hbel
            by_cases h0 : Pp.appE S ⟨kk, p, q, t, bs⟩ n = 0
            · have HN := hid (HNX.out h0)
              have HG3 := hid (HGN.out h0)
              have HL3 := hid (HLI.out h0)
              rw [h0]
              clear h0 HLI HNX HST HGN
              go_wp2_with fail
              go_roundw
              case rel => exact ⟨k + 1, _, by omega, by simp, HL3, HG3, HN, hbel3⟩
              case measure => simp [intOf]; omega
            · obtain ⟨hE, hN, hR⟩ := HRUN.out _ _ _ (HST.out h0)
              have hzz : (Pp.appE S ⟨kk, p, q, t, bs⟩ n == 0) = false := by simpa using h0
              have HE := hid hE
              have HN := hid hN
              have H0 := hid h0
              clear hE hN hR h0 HLI HNX HST HGN
              go_wp2_with fail
              go_ret3
              exact ⟨_, by rw [HE.out, HN.out]; rfl, fun h => absurd (HE.out ▸ h) H0.out, hbel3⟩
          · obtain rfl : k = cs.length := by omega
            obtain ⟨hE, hN, hR⟩ := HRUN.out _ _ _ (Pp.left_end HLF.out)
            have HE := hid hE
            have HN := hid hN
            have HR := hid hR
            clear hE hN hR
            go_wp2_with fail
            go_ret3
            exact ⟨_, by rw [HE.out, HN.out]; rfl, fun _ => by rw [HR.out]; exact HX.out, hbel⟩
      · obtain ⟨hE, hN, hR⟩ := HRUN.out _ _ _ (Pp.run_ver hver L (by omega))
        have HE := hid hE
        have HN := hid hN
        have hzz : (Pp.verE n == 0) = false := by simpa using hver
        clear hE hN hR
        go_enter Try.func11, Try.ntmps11
        go_wp2_with fail
        refine (isVersion_any n _).mono ?_
        rintro e w1 ⟨rfl, hw⟩
        rw [hw]
        clear hw w1
        go_wp2_with fail
        go_ret3
        exact ⟨_, by rw [HE.out, HN.out]; rfl, (fun h => by rw [HE.out] at h; exact absurd h (by decide)), Below.refl _ _⟩
end Go.Proofs.Ytgbokcmmknabcac
namespace Go.Proofs.Ytgbokcmmknabcac
open Go.RowKit

set_option maxHeartbeats 1000000 in
theorem tcheck_all (L : List En) (v : Value) (w : World) (hv : Lies w v L) (hs : Sized L) :
    Calls Try.prog 15 #[v] w fun e w' => e = .returned (.int .i64 (Pp.treeE L)) ∧ Below w.heap.size w w' := by
  by_cases h60 : L.length ≤ 60
  · exact tcheck_any L v w hv (by omega) hs
  · have HE : Hid (2 = Pp.treeE L) := (by rw [Pp.treeE, if_pos (by omega)] : 2 = Pp.treeE L)
    obtain ⟨a, cap, rfl, hcap, hcap2, hL⟩ := hv
    have hl : 60 < (L.length : Int) := by omega
    clear hL hs
    go_enter Try.func15, Try.ntmps15
    go_wp2_with fail
    go_ret
    exact ⟨Pp.ret_int HE.out, Below.refl _ _⟩

set_option maxHeartbeats 1000000 in
theorem tapply_all (L : List En) (v : Value) (k : Int) (p q t : ByteArray) (b n : Int) (w : World) (hv : Lies w v L) (hs : Sized L) (hp : p.size ≤ 150000000000000) (hq : q.size ≤ 150000000000000) (ht : t.size ≤ 150000000000000) :
    Calls Try.prog 14 #[v, .agg #[.int .i64 k, .string p, .string q, .string t, .int .i64 b], .int .i64 n] w fun e w' => ∃ u, e = .returned (.tuple #[u, .int .i64 (Pp.tapE L ⟨k, p, q, t, b⟩ n)]) ∧ Lies w' u (Pp.tapR L ⟨k, p, q, t, b⟩ n) ∧ Below w.heap.size w w' := by
  by_cases h60 : L.length ≤ 60
  · exact tapply_any L v k p q t b n w hv (by omega) hs hp hq ht
  · have HV : Hid (Lies w v L) := hv
    have HS : Hid (Sized L) := hs
    have htr : ¬ Pp.treeE L = 0 := by rw [Pp.treeE, if_pos (by omega)]; decide
    clear hv hs
    rw [Pp.tapE_no htr, Pp.tapR_no htr]
    have hz : (Pp.treeE L == 0) = false := by simpa using htr
    go_enter Try.func14, Try.ntmps14
    go_wp2_with fail
    refine (tcheck_all L v _ (HV.out.below ((Below.refl _ _).alloc (Nat.le_refl _) _)) HS.out).mono ?_
    rintro e w1 ⟨rfl, hb1⟩
    obtain ⟨c0, c1, c2, c3, c4, hbw, hlt⟩ := bx5 hb1
    clear hb1
    go_wp2
    go_ret2
    exact ⟨_, rfl, lies_nil _, hbw⟩
end Go.Proofs.Ytgbokcmmknabcac
namespace Go.Proofs.Ytgbokcmmknabcac
open Go.RowKit

set_option maxRecDepth 100000 in
set_option maxHeartbeats 2000000 in
theorem tall_any (L : List En) (v : Value) (cs : List Pp.Ch) (u : Value) (n : Int) (w : World) (hv : Lies w v L) (hs : Sized L) (hu : LiesC w u cs) (hcs : SizedC 150000000000000 cs) :
    Calls Try.prog 9 #[v, u, .int .i64 n] w fun e w' => ∃ r, e = .returned (.tuple #[r, .int .i64 (Pp.allN L cs n), .int .i64 (Pp.allE L cs n)]) ∧ Lies w' r (Pp.allR L cs n) ∧ Below w.heap.size w w' := by
  have HV := hid hv
  have HS := hid hs
  have HCS := hid hcs
  obtain ⟨a, cap, rfl, hcap, hcap2, hC⟩ := hu
  have HC : Hid (∀ i (h : i < cs.length), ∃ b o, a = some ⟨b, o, none⟩ ∧ b < w.heap.size ∧ ChAt w b (o + i * 5) cs[i]) := hC
  clear hv hs hcs hC
  by_cases htr : Pp.treeE L = 0
  · have HT := hid htr
    by_cases h20 : 20 < cs.length
    · obtain ⟨hE, hN, hR⟩ := Pp.all_many htr h20 n
      rw [hE, hN, hR]
      clear hE hN hR htr
      have h20' : 20 < (cs.length : Int) := by omega
      go_enter Try.func9, Try.ntmps9
      go_wp2_with fail
      refine (tcheck_all L v _ HV.out HS.out).mono ?_
      rintro e w1 ⟨rfl, hb1⟩
      rw [HT.out]
      go_wp2_with fail
      go_ret3
      exact ⟨_, rfl, lies_nil _, hb1⟩
    · have h20' : ¬ 20 < (cs.length : Int) := by omega
      have hg := (Pp.good_iff L).1 htr
      have HG := hid hg
      have hlen := hg.len
      have HRUN : Hid (∀ k e R, Pp.runF n L cs = (k, e, R) → Pp.allE L cs n = e ∧ Pp.allN L cs n = k ∧ Pp.allR L cs n = R) := (fun k e R h => Pp.all_run htr h20 h : ∀ k e R, Pp.runF n L cs = (k, e, R) → Pp.allE L cs n = e ∧ Pp.allN L cs n = k ∧ Pp.allR L cs n = R)
      clear hg htr
      go_enter Try.func9, Try.ntmps9
      go_wp2_with fail
      refine (tcheck_all L v _ HV.out HS.out).mono ?_
      rintro e w1 ⟨rfl, hb1⟩
      rw [HT.out]
      go_wp2_with fail
      refine (every_any L v _ _ (fun _ => true) _ (HV.out.below hb1) (yes_tells _) (by omega) HS.out).mono ?_
      rintro e w2 ⟨u, rfl, hou, hnu, hb2⟩
      rw [show L.filter (fun _ => true) = L by simp] at hou
      have HU : Hid (Lies w2 u L) := lies_own hou (by omega)
      have hb02 := hb1.trans (hb2.mono hb1.size)
      clear hou hnu hb1 hb2
      go_wp2_with fail
      go_loopw [10, 26] (fun x i wr => ∃ (k : Nat) (S : List En), k ≤ cs.length ∧ i = .int .i64 k ∧ Hid (Lies wr x S) ∧ Hid (Pp.Good S) ∧ Hid (Pp.Left n L cs S k) ∧ Below w.heap.size w wr) (fun _ i _ => cs.length - (intOf i).toNat)
      case atStart => exact ⟨0, L, Nat.zero_le _, rfl, HU, HG, Pp.left_zero n L cs, hb02⟩
      case round =>
        obtain ⟨k, S, hk, rfl, HX, HGS, HLF, hbel⟩ := hrel
        clear hb02
        by_cases hlt : k < cs.length
        · obtain ⟨b, o, rfl, hb, he⟩ := HC.out k hlt
          obtain ⟨c0, c1, c2, c3, c4⟩ := he.below hb hbel
          have hsz := HCS.out cs[k] (List.getElem_mem hlt)
          have HZ := hid hsz
          have HNX : Hid (Pp.appE S cs[k] n = 0 → Pp.Left n L cs (Pp.chdR S cs[k] n) (k + 1)) := (fun h0 => Pp.left_next HLF.out hlt h0 : Pp.appE S cs[k] n = 0 → Pp.Left n L cs (Pp.chdR S cs[k] n) (k + 1))
          have HST : Hid (¬ Pp.appE S cs[k] n = 0 → Pp.runF n L cs = (k, Pp.appE S cs[k] n, [])) := (fun h0 => Pp.left_stop HLF.out hlt h0 : ¬ Pp.appE S cs[k] n = 0 → Pp.runF n L cs = (k, Pp.appE S cs[k] n, []))
          have HGN : Hid (Pp.appE S cs[k] n = 0 → Pp.Good (Pp.chdR S cs[k] n)) := (fun h0 => Pp.app_good HGS.out h0 : Pp.appE S cs[k] n = 0 → Pp.Good (Pp.chdR S cs[k] n))
          clear he hsz
          generalize cs[k] = ck at *
          obtain ⟨kk, p, q, t, bs⟩ := ck
          simp only at c0 c1 c2 c3 c4
          go_wp2_with fail
          refine (apply_any S _ kk p q t bs n _ (HX.out.below ((Below.refl _ _).alloc (Nat.le_refl _) _)) (Pp.good_sized HGS.out) HZ.out.1 HZ.out.2.1 HZ.out.2.2 HGS.out).mono ?_
          rintro e w3 ⟨u3, rfl, hli, hb3⟩
          obtain ⟨d0, d1, d2, d3, d4, hbw, hlt3⟩ := box5 hb3
          have HLI := hid hli
          have hbel3 := below_trans hbel hbw
          clear hb3 hli d0 d1 d2 d3 d4 c0 c1 c2 c3 c4 hbel hbw
          by_cases h0 : Pp.appE S ⟨kk, p, q, t, bs⟩ n = 0
          · have HN := hid (HNX.out h0)
            have HG3 := hid (HGN.out h0)
            have hR : Pp.appR S ⟨kk, p, q, t, bs⟩ n = Pp.chdR S ⟨kk, p, q, t, bs⟩ n := by rw [Pp.appR, Pp.ifz_yes h0]
            have HL3 : Hid (Lies w3 u3 (Pp.chdR S ⟨kk, p, q, t, bs⟩ n)) := (hR ▸ HLI.out : Lies w3 u3 (Pp.chdR S ⟨kk, p, q, t, bs⟩ n))
            rw [h0]
            clear hR h0 HLI HNX HST HGN
            go_wp2_with fail
            go_roundw
            case rel => exact ⟨k + 1, _, by omega, by simp, HL3, HG3, HN, hbel3⟩
            case measure => simp [intOf]; omega
          · obtain ⟨hE, hN, hR⟩ := HRUN.out _ _ _ (HST.out h0)
            have hz : (Pp.appE S ⟨kk, p, q, t, bs⟩ n == 0) = false := by simpa using h0
            have HE := hid hE
            have HN := hid hN
            have HR := hid hR
            clear hE hN hR h0 HLI HNX HST HGN
            go_wp2_with fail
            go_ret3
            exact ⟨_, by rw [HE.out, HN.out]; rfl, by rw [HR.out]; exact lies_nil _, hbel3⟩
        · obtain rfl : k = cs.length := by omega
          obtain ⟨hE, hN, hR⟩ := HRUN.out _ _ _ (Pp.left_end HLF.out)
          have HE := hid hE
          have HN := hid hN
          have HR := hid hR
          clear hE hN hR
          go_wp2_with fail
          go_ret3
          exact ⟨_, by rw [HE.out, HN.out]; rfl, by rw [HR.out]; exact HX.out, hbel⟩
  · obtain ⟨hE, hN, hR⟩ := Pp.all_no htr cs n
    rw [hE, hN, hR]
    have hz : (Pp.treeE L == 0) = false := by simpa using htr
    clear hE hN hR
    go_enter Try.func9, Try.ntmps9
    go_wp2_with fail
    refine (tcheck_all L v _ HV.out HS.out).mono ?_
    rintro e w1 ⟨rfl, hb1⟩
    go_wp2_with fail
    go_ret3
    exact ⟨_, rfl, lies_nil _, hb1⟩
end Go.Proofs.Ytgbokcmmknabcac
namespace Go.Proofs.Ytgbokcmmknabcac
open Go.RowKit

set_option maxHeartbeats 1000000 in
theorem same_yes (L : List En) (v u : Value) (w : World) (hv : Lies w v L) (hu : Lies w u L) :
    Calls Try.prog 19 #[v, u] w fun e w' => e = .returned (.bool true) ∧ Below w.heap.size w w' := by
  obtain ⟨a, cap, rfl, hcap, hcap2, hL⟩ := hv
  have HL : Hid (∀ i (h : i < L.length), ∃ b o, a = some ⟨b, o, none⟩ ∧ b < w.heap.size ∧ EnAt w b (o + i * 4) L[i]) := hL
  obtain ⟨a', cap', rfl, hcap', _, hL'⟩ := hu
  have HL' : Hid (∀ i (h : i < L.length), ∃ b o, a' = some ⟨b, o, none⟩ ∧ b < w.heap.size ∧ EnAt w b (o + i * 4) L[i]) := hL'
  clear hL hL'
  go_enter Try.func19, Try.ntmps19
  go_wp2_with fail
  go_loopw [5] (fun i wr => ∃ k : Nat, k ≤ L.length ∧ i = .int .i64 k ∧ Below w.heap.size w wr) (fun i _ => L.length - (intOf i).toNat)
  case atStart => exact ⟨0, Nat.zero_le _, rfl, Below.refl _ _⟩
  case round =>
    obtain ⟨k, hk, rfl, hbel⟩ := hrel
    by_cases hlt : k < L.length
    · obtain ⟨b, o, rfl, hb, he⟩ := HL.out k hlt
      obtain ⟨b', o', rfl, hb', he'⟩ := HL'.out k hlt
      obtain ⟨c0, c1, c2, c3⟩ := he.below hb hbel
      obtain ⟨d0, d1, d2, d3⟩ := he'.below hb' hbel
      go_wp2_with fail
      go_region
      go_wp2_with fail
      go_roundw
      case rel => exact ⟨k + 1, by omega, by simp, hbel.drew⟩
      case measure => simp [intOf]; omega
    · go_wp2_with fail
      go_ret
      exact ⟨rfl, hbel⟩

set_option maxHeartbeats 1000000 in
theorem treeIs_yes (L M : List En) (v u : Value) (r : Int) (w : World) (hv : Lies w v (Pp.ifz r L)) (hu : r = 0 → Lies w u L) :
    Calls Try.prog 13 #[v, .int .i64 r, .int .i64 r, u] w fun e w' => e = .returned (.bool true) ∧ Below w.heap.size w w' := by
  by_cases hr : r = 0
  · rw [Pp.ifz_yes hr] at hv
    have HV := hid hv
    have HU := hid (hu hr)
    clear hv hu
    subst hr
    go_enter Try.func13, Try.ntmps13
    go_wp2_with fail
    refine (same_yes L v u _ HV.out HU.out).mono ?_
    rintro e w1 ⟨rfl, hb1⟩
    go_wp2
    go_ret
    exact ⟨rfl, hb1⟩
  · rw [Pp.ifz_no hr] at hv
    have HV := hid hv
    have hz : (r == 0) = false := by simpa using hr
    clear hv hu
    go_enter Try.func13, Try.ntmps13
    go_wp2_with fail
    refine (same_yes [] v _ _ HV.out (lies_nil _)).mono ?_
    rintro e w1 ⟨rfl, hb1⟩
    go_wp2
    go_ret
    exact ⟨rfl, hb1⟩
end Go.Proofs.Ytgbokcmmknabcac
namespace Go.Proofs.Ytgbokcmmknabcac
open Go.RowKit

namespace Pp
theorem allR_ifz (L : List En) (cs : List Ch) (n : Int) : allR L cs n = ifz (allE L cs n) (allR L cs n) := by
  by_cases h : allE L cs n = 0
  · rw [ifz_yes h]
  · rw [ifz_no h]
    by_cases ht : treeE L = 0
    · by_cases hm : 20 < cs.length
      · exact (all_many ht hm n).2.2
      · rw [allE, if_neg (fun x => x ht), if_neg hm] at h
        rw [allR, if_neg (fun x => x ht), if_neg hm]
        have : ∀ (cs : List Ch) (T : List En), ¬ (runF n T cs).2.1 = 0 → (runF n T cs).2.2 = [] := by
          intro cs
          induction cs with
          | nil => intro T h; exact absurd rfl h
          | cons c r ih =>
            intro T h
            rw [runF] at h ⊢
            by_cases h0 : appE T c n = 0
            · rw [if_pos h0] at h ⊢
              exact ih _ h
            · rw [if_neg h0]
        exact this cs L h
    · exact (all_no ht cs n).2.2
end Pp

set_option maxRecDepth 100000 in
set_option maxHeartbeats 1000000 in
theorem treeAlls_walk (L : List En) (v : Value) (cs : List Pp.Ch) (u : Value) (n : Int) (w : World) (hv : Lies w v L) (hs : ∀ e ∈ L, e.path.size ≤ 1000000000 ∧ e.text.size ≤ 1000000000) (hu : LiesC w u cs) (hcs : SizedC 1000000000 cs) :
    Calls Try.prog 3 #[v, u, .int .i64 n] w fun e w' => e = .returned (.bool true) ∧ Below w.heap.size w w' := by
  have HV := hid hv
  have HC := hid hu
  have HCS := hid hcs
  have HCS2 : Hid (SizedC 150000000000000 cs) := (fun c hc => ⟨by have := (hcs c hc).1; omega, by have := (hcs c hc).2.1; omega, by have := (hcs c hc).2.2; omega⟩ : SizedC 150000000000000 cs)
  have HS : Hid (Sized L) := (fun e he => ⟨by have := (hs e he).1; omega, by have := (hs e he).2; omega⟩ : Sized L)
  have HP : Hid (∀ e ∈ L, e.path.size ≤ 1000000000) := (fun e he => (hs e he).1 : ∀ e ∈ L, e.path.size ≤ 1000000000)
  have HR := hid (Pp.allR_ifz L cs n)
  clear hv hs hu hcs
  by_cases htr : Pp.treeE L = 0
  · have HG := hid ((Pp.good_iff L).1 htr)
    have HT := hid htr
    clear htr
    go_enter Try.func3, Try.ntmps3
    go_wp2_with fail
    refine (tall_any L v cs u n _ HV.out HS.out HC.out HCS2.out).mono ?_
    rintro e w1 ⟨r, rfl, hli, hb1⟩
    rw [HR.out] at hli
    have HU := hid hli
    clear hli
    go_wp2_with fail
    refine (rCheckTree_any L v _ (HV.out.below hb1) HP.out).mono ?_
    rintro e w2 ⟨rfl, hb2⟩
    rw [HT.out]
    have hb02 := below_trans hb1 hb2
    have HU2 := hid (HU.out.below hb2)
    clear hb1 hb2 HU
    go_wp2_with fail
    refine (rAllOf_any L v cs u n _ (HV.out.below hb02) HG.out (HC.out.below hb02) HCS.out).mono ?_
    rintro e w4 ⟨u4, rfl, hli, hb4⟩
    have HL4 := hid hli
    have HU4 := hid (HU2.out.below hb4)
    have hb04 := below_trans hb02 hb4
    clear hli hb4 hb02 HU2
    go_wp2_with fail
    refine (begun_yes _).mono ?_
    rintro e w5 ⟨rfl, hb5⟩
    have HL5 : Hid (Pp.allE L cs n = 0 → Lies w5 u4 (Pp.allR L cs n)) := (fun h => (HL4.out h).below hb5 : Pp.allE L cs n = 0 → Lies w5 u4 (Pp.allR L cs n))
    have HU5 := hid (HU4.out.below hb5)
    have hb05 := below_trans hb04 hb5
    clear hb5 hb04 HU4 HL4
    go_wp2_with fail
    refine (treeIs_yes (Pp.allR L cs n) [] r u4 _ _ HU5.out HL5.out).mono ?_
    rintro e w6 ⟨rfl, hb6⟩
    go_wp2
    go_ret
    exact ⟨rfl, below_trans hb05 hb6⟩
  · have hz : (Pp.treeE L == 0) = false := by simpa using htr
    obtain ⟨hE, hN, hR⟩ := Pp.all_no htr cs n
    have HE := hid hE
    have HN := hid hN
    have HR2 : Hid (Pp.allR L cs n = Pp.ifz (Pp.treeE L) []) := (by rw [hR, Pp.ifz_no htr] : Pp.allR L cs n = Pp.ifz (Pp.treeE L) [])
    clear hE hN hR
    go_enter Try.func3, Try.ntmps3
    go_wp2_with fail
    refine (tall_any L v cs u n _ HV.out HS.out HC.out HCS2.out).mono ?_
    rintro e w1 ⟨r, rfl, hli, hb1⟩
    rw [HE.out, HN.out]
    rw [HR2.out] at hli
    have HU := hid hli
    clear hli
    go_wp2_with fail
    refine (rCheckTree_any L v _ (HV.out.below hb1) HP.out).mono ?_
    rintro e w2 ⟨rfl, hb2⟩
    have hb02 := below_trans hb1 hb2
    have HU2 := hid (HU.out.below hb2)
    clear hb1 hb2 HU
    go_wp2_with fail
    refine (begun_yes _).mono ?_
    rintro e w5 ⟨rfl, hb5⟩
    have HU5 := hid (HU2.out.below hb5)
    have hb05 := below_trans hb02 hb5
    clear hb5 hb02 HU2
    go_wp2_with fail
    refine (treeIs_yes [] [] r _ _ _ HU5.out (fun _ => lies_nil _)).mono ?_
    rintro e w6 ⟨rfl, hb6⟩
    go_wp2
    go_ret
    exact ⟨rfl, below_trans hb05 hb6⟩
end Go.Proofs.Ytgbokcmmknabcac
