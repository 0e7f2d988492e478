/- What tree.changed and apply answer, for every change. -/
import Derived.Test.YtagdilnbbepccaaGreatT23
set_option linter.unusedSimpArgs false
set_option linter.unusedVariables false
namespace Go.Proofs.YtagdilnbbepccaaGreat
open Go.RowKit

namespace Pp
def ifz (e : Int) (L : List En) : List En := if e = 0 then L else []
theorem ifz_yes {e : Int} (h : e = 0) (L : List En) : ifz e L = L := if_pos h
theorem ifz_no {e : Int} (h : ¬ e = 0) (L : List En) : ifz e L = [] := if_neg h
theorem bytes0 {t : ByteArray} (h : t.data.toList = []) : t = ⟨#[]⟩ := bytes_eq h
theorem out_eq (x : En) (L : List En) : out x L = outE x L := rfl
end Pp

set_option maxHeartbeats 1000000 in
theorem changed_any (L : List En) (v : Value) (k : Int) (p q t : ByteArray) (b n : Int) (w : World) (hv : Lies w v L) (hs : Sized L) (hp : p.size ≤ 150000000000000) (hq : q.size ≤ 150000000000000) (hL : Pp.Good L) (hc : Pp.chgE ⟨k, p, q, t, b⟩ = 0) (hpl : Pp.plcE L ⟨k, p, q, t, b⟩ = 0) :
    Calls Tryz.prog 75 #[v, .agg #[.int .i64 k, .string p, .string q, .string t, .int .i64 b], .int .i64 n] w fun e w' => ∃ u, e = .returned (.tuple #[u, .int .i64 (Pp.chdE L ⟨k, p, q, t, b⟩ n)]) ∧ Lies w' u (Pp.ifz (Pp.chdE L ⟨k, p, q, t, b⟩ n) (Pp.chdR L ⟨k, p, q, t, b⟩ n)) ∧ Below w.heap.size w w' := by
  have hrest := Pp.chg_rest hc
  have HV : Hid (Lies w v L) := hv
  have HS : Hid (Sized L) := hs
  have HL : Hid (Pp.Good L) := hL
  rcases Pp.plc_rest hpl (Pp.chg_kind hc) with ⟨hk, h⟩ | ⟨hk, h⟩ | ⟨hk, ⟨x, hx⟩, h1, h2⟩ | ⟨hk, x, hx⟩
  · have hk : k = 1 := hk
    subst hk
    have ht : t = ⟨#[]⟩ := Pp.bytes0 (hrest.2.1.resolve_left (by simp))
    subst ht
    clear hrest h hpl hc hL hs hv
    have HE : Hid (Pp.chdE L ⟨1, p, q, ⟨#[]⟩, b⟩ n = if 60 < (Pp.out (made 1 p ⟨#[]⟩ n) L).length + 1 then 2 else 0) := (rfl : Pp.chdE L ⟨1, p, q, ⟨#[]⟩, b⟩ n = if 60 < (Pp.out (made 1 p ⟨#[]⟩ n) L).length + 1 then 2 else 0)
    have HR : Hid (Pp.chdR L ⟨1, p, q, ⟨#[]⟩, b⟩ n = Pp.ins (made 1 p ⟨#[]⟩ n) (Pp.out (made 1 p ⟨#[]⟩ n) L)) := (rfl : Pp.chdR L ⟨1, p, q, ⟨#[]⟩, b⟩ n = Pp.ins (made 1 p ⟨#[]⟩ n) (Pp.out (made 1 p ⟨#[]⟩ n) L))
    go_enter Tryz.func75, Tryz.ntmps75
    go_wp2_with fail
    refine (put_any L v (made 1 p ⟨#[]⟩ n) _ (HV.out.below ((Below.refl _ _).alloc (Nat.le_refl _) _)) HL.out.len HS.out (by simp only [made]; omega) HL.out.rise).mono ?_
    rintro e w1 (⟨h, rfl, hb1⟩ | ⟨h, u, rfl, hli, hb1⟩)
    · obtain ⟨c0, c1, c2, c3, c4, hbw, hlt⟩ := bx5 hb1
      have HH := hid h
      clear h hb1 c0 c1 c2 c3 c4
      go_wp2
      go_ret2
      refine ⟨_, by rw [HE.out, if_pos HH.out]; rfl, ?_, hbw⟩
      rw [Pp.ifz_no (by rw [HE.out, if_pos HH.out]; decide)]; exact lies_nil _
    · obtain ⟨c0, c1, c2, c3, c4, hbw, hlt⟩ := bx5 hb1
      have HLI := hid hli
      have HH := hid h
      clear h hb1 hli c0 c1 c2 c3 c4
      go_wp2
      go_ret2
      refine ⟨_, by rw [HE.out, if_neg HH.out]; rfl, ?_, hbw⟩
      rw [Pp.ifz_yes (by rw [HE.out, if_neg HH.out]), HR.out]; exact HLI.out
  · have hk : k = 2 := hk
    subst hk
    clear hrest h hpl hc hL hs hv
    have HE : Hid (Pp.chdE L ⟨2, p, q, t, b⟩ n = if 60 < (Pp.out (made 2 p t n) L).length + 1 then 2 else 0) := (rfl : Pp.chdE L ⟨2, p, q, t, b⟩ n = if 60 < (Pp.out (made 2 p t n) L).length + 1 then 2 else 0)
    have HR : Hid (Pp.chdR L ⟨2, p, q, t, b⟩ n = Pp.ins (made 2 p t n) (Pp.out (made 2 p t n) L)) := (rfl : Pp.chdR L ⟨2, p, q, t, b⟩ n = Pp.ins (made 2 p t n) (Pp.out (made 2 p t n) L))
    go_enter Tryz.func75, Tryz.ntmps75
    go_wp2_with fail
    refine (put_any L v (made 2 p t n) _ (HV.out.below ((Below.refl _ _).alloc (Nat.le_refl _) _)) HL.out.len HS.out (by simp only [made]; omega) HL.out.rise).mono ?_
    rintro e w1 (⟨h, rfl, hb1⟩ | ⟨h, u, rfl, hli, hb1⟩)
    · obtain ⟨c0, c1, c2, c3, c4, hbw, hlt⟩ := bx5 hb1
      have HH := hid h
      clear h hb1 c0 c1 c2 c3 c4
      go_wp2
      go_ret2
      refine ⟨_, by rw [HE.out, if_pos HH.out]; rfl, ?_, hbw⟩
      rw [Pp.ifz_no (by rw [HE.out, if_pos HH.out]; decide)]; exact lies_nil _
    · obtain ⟨c0, c1, c2, c3, c4, hbw, hlt⟩ := bx5 hb1
      have HLI := hid hli
      have HH := hid h
      clear h hb1 hli c0 c1 c2 c3 c4
      go_wp2
      go_ret2
      refine ⟨_, by rw [HE.out, if_neg HH.out]; rfl, ?_, hbw⟩
      rw [Pp.ifz_yes (by rw [HE.out, if_neg HH.out]), HR.out]; exact HLI.out
  · have hk : k = 3 := hk
    subst hk
    have HE : Hid (Pp.chdE L ⟨3, p, q, t, b⟩ n = if (Pp.goL L ⟨3, p, q, t, b⟩).any (fun e => Pp.big (Pp.mvP ⟨3, p, q, t, b⟩ e)) = true then 2 else 0) := (rfl : Pp.chdE L ⟨3, p, q, t, b⟩ n = if (Pp.goL L ⟨3, p, q, t, b⟩).any (fun e => Pp.big (Pp.mvP ⟨3, p, q, t, b⟩ e)) = true then 2 else 0)
    have HR : Hid (Pp.chdR L ⟨3, p, q, t, b⟩ n = Pp.insAll (Pp.mvL L ⟨3, p, q, t, b⟩ n) (Pp.keptL L ⟨3, p, q, t, b⟩)) := (rfl : Pp.chdR L ⟨3, p, q, t, b⟩ n = Pp.insAll (Pp.mvL L ⟨3, p, q, t, b⟩ n) (Pp.keptL L ⟨3, p, q, t, b⟩))
    have HC := hid hc
    have HX := hid hx
    have H2 := hid h2
    clear hrest hpl hc hL hs hv hx h1 h2
    go_enter Tryz.func75, Tryz.ntmps75
    go_wp2_with fail
    refine (move_any L v p q t b n _ (HV.out.below ((Below.refl _ _).alloc (Nat.le_refl _) _)) HS.out hp hq HL.out HC.out H2.out x HX.out).mono ?_
    rintro e w1 (⟨h, rfl, hb1⟩ | ⟨h, u, rfl, hli, hb1⟩)
    · obtain ⟨c0, c1, c2, c3, c4, hbw, hlt⟩ := bx5 hb1
      have HH := hid h
      clear h hb1 c0 c1 c2 c3 c4
      go_wp2
      go_ret2
      refine ⟨_, by rw [HE.out, if_pos HH.out]; rfl, ?_, hbw⟩
      rw [Pp.ifz_no (by rw [HE.out, if_pos HH.out]; decide)]; exact lies_nil _
    · obtain ⟨c0, c1, c2, c3, c4, hbw, hlt⟩ := bx5 hb1
      have HLI := hid hli
      have HH := hid h
      clear h hb1 hli c0 c1 c2 c3 c4
      go_wp2
      go_ret2
      refine ⟨_, by rw [HE.out, if_neg (by rw [HH.out]; decide)]; rfl, ?_, hbw⟩
      rw [Pp.ifz_yes (by rw [HE.out, if_neg (by rw [HH.out]; decide)]), HR.out]; exact HLI.out
  · have hk : k = 4 := hk
    subst hk
    have hcp := Pp.chg_path hc
    have HK : Hid (L.filter (fun e => !Pp.inB p.data.toList e) = Pp.keptL L ⟨4, p, q, t, b⟩) := (Pp.filter_eq fun e he => by rw [Pp.inB_wi (Pp.entE_path (hL.ents e he)) hcp] : L.filter (fun e => !Pp.inB p.data.toList e) = Pp.keptL L ⟨4, p, q, t, b⟩)
    have HKL : Hid ((Pp.keptL L ⟨4, p, q, t, b⟩).length ≤ L.length) := (List.length_filter_le _ _ : (Pp.keptL L ⟨4, p, q, t, b⟩).length ≤ L.length)
    clear hrest hpl hc hL hs hv hx hcp
    go_enter Tryz.func75, Tryz.ntmps75
    go_wp2_with fail
    refine (twithin_any p _ (by omega)).mono ?_
    rintro e w1 ⟨rfl, ht1, hb1⟩
    obtain ⟨c0, c1, c2, c3, c4, hbw, hlt⟩ := bx5 hb1
    have HT1 : Hid (Tells w1 93 #[.pointer (some ⟨w.heap.size + 1, 0, none⟩)] (Pp.inB p.data.toList)) := (by simpa using ht1 : Tells w1 93 #[.pointer (some ⟨w.heap.size + 1, 0, none⟩)] (Pp.inB p.data.toList))
    clear ht1
    go_wp2_with fail
    refine (not_any _ _ (Pp.inB p.data.toList) _ HT1.out).mono ?_
    rintro e w2 ⟨rfl, ht2, hb2⟩
    have HT2 := hid ht2
    have hb02 := hb1.trans (hb2.mono hb1.size)
    clear ht2 c0 c1 c2 c3 c4 hbw hlt hb1 hb2
    obtain ⟨c0, c1, c2, c3, c4, hbw, hlt⟩ := bx5 hb02
    go_wp2_with fail
    refine (every_any L v _ _ (fun e => !Pp.inB p.data.toList e) _ (HV.out.below hbw) HT2.out (Nat.le_trans HL.out.len (by decide)) HS.out).mono ?_
    rintro e w3 ⟨u1, rfl, ho1, hn1, hb3⟩
    rw [HK.out] at ho1
    have HLI := hid (lies_own ho1 (by have := HKL.out; have := HL.out.len; omega))
    have hb03 := hbw.trans (hb3.mono (Nat.le_of_lt hlt))
    clear c0 c1 c2 c3 c4 hbw hlt hb02 hb3 ho1 hn1
    go_wp2
    go_ret2
    exact ⟨_, rfl, HLI.out, hb03⟩

namespace Pp
def appR (L : List En) (c : Ch) (n : Int) : List En := ifz (appE L c n) (chdR L c n)
theorem app_ver {L : List En} {c : Ch} {n : Int} (h : ¬ verE n = 0) : appE L c n = verE n := by rw [appE, if_pos h]
theorem app_chg {L : List En} {c : Ch} {n : Int} (h : verE n = 0) (h1 : ¬ chgE c = 0) : appE L c n = chgE c := by rw [appE, if_neg (fun x => x h), if_pos h1]
theorem app_plc {L : List En} {c : Ch} {n : Int} (h : verE n = 0) (h1 : chgE c = 0) (h2 : ¬ plcE L c = 0) : appE L c n = plcE L c := by rw [appE, if_neg (fun x => x h), if_neg (fun x => x h1), if_pos h2]
theorem app_stl {L : List En} {c : Ch} {n : Int} (h : verE n = 0) (h1 : chgE c = 0) (h2 : plcE L c = 0) (h3 : stl L c = true) : appE L c n = 8 := by rw [appE, if_neg (fun x => x h), if_neg (fun x => x h1), if_neg (fun x => x h2), if_pos h3]
theorem app_chd {L : List En} {c : Ch} {n : Int} (h : verE n = 0) (h1 : chgE c = 0) (h2 : plcE L c = 0) (h3 : stl L c = false) : appE L c n = chdE L c n := by rw [appE, if_neg (fun x => x h), if_neg (fun x => x h1), if_neg (fun x => x h2), if_neg (by rw [h3]; decide)]
theorem appR_no {L : List En} {c : Ch} {n : Int} {e : Int} (h : appE L c n = e) (he : ¬ e = 0) : appR L c n = [] := by rw [appR, h, ifz_no he]
end Pp

set_option maxHeartbeats 1000000 in
theorem apply_any (L : List En) (v : Value) (k : Int) (p q t : ByteArray) (b n : Int) (w : World) (hv : Lies w v L) (hs : Sized L) (hp : p.size ≤ 150000000000000) (hq : q.size ≤ 150000000000000) (ht : t.size ≤ 150000000000000) (hL : Pp.Good L) :
    Calls Tryz.prog 59 #[v, .agg #[.int .i64 k, .string p, .string q, .string t, .int .i64 b], .int .i64 n] w fun e w' => ∃ u, e = .returned (.tuple #[u, .int .i64 (Pp.appE L ⟨k, p, q, t, b⟩ n)]) ∧ Lies w' u (Pp.appR L ⟨k, p, q, t, b⟩ n) ∧ Below w.heap.size w w' := by
  have HV : Hid (Lies w v L) := hv
  have HS : Hid (Sized L) := hs
  have HL : Hid (Pp.Good L) := hL
  clear hv hs hL
  by_cases hver : Pp.verE n = 0
  · have HVE := hid hver
    by_cases hchg : Pp.chgE ⟨k, p, q, t, b⟩ = 0
    · have HCH := hid hchg
      by_cases hplc : Pp.plcE L ⟨k, p, q, t, b⟩ = 0
      · have HPL := hid hplc
        cases hst : Pp.stl L ⟨k, p, q, t, b⟩ with
        | true =>
          have hE := Pp.app_stl hver hchg hplc hst
          have HR := hid (Pp.appR_no hE (by decide))
          have HE := hid hE
          have HST := hid hst
          clear hE hst hplc hchg hver
          go_enter Tryz.func59, Tryz.ntmps59
          go_wp2_with fail
          refine (checkVersion_any n _).mono ?_
          rintro e w1 ⟨rfl, rfl⟩
          rw [HVE.out]
          go_wp2_with fail
          refine (checkChange_any k p q t b _ (by omega) (by omega) (by omega)).mono ?_
          rintro e w2 ⟨rfl, hb2⟩
          rw [HCH.out]
          obtain ⟨c0, c1, c2, c3, c4, hbw, hlt⟩ := bx5 hb2
          go_wp2_with fail
          refine (checkPlace_any L v k p q t b _ (HV.out.below hbw) (fun e he => (HS.out e he).1) (by omega) (by omega) HCH.out).mono ?_
          rintro e w3 ⟨rfl, hb3⟩
          rw [HPL.out]
          have hb03 := hb2.trans (hb3.mono hb2.size)
          clear c0 c1 c2 c3 c4 hbw hlt hb2 hb3
          obtain ⟨c0, c1, c2, c3, c4, hbw, hlt⟩ := bx5 hb03
          go_wp2_with fail
          refine (isStale_any L v k p q t b _ (HV.out.below hbw) HS.out (by omega) (fun e he => Pp.entE_path (HL.out.ents e he)) (Pp.chg_path HCH.out)).mono ?_
          rintro e w4 ⟨rfl, hb4⟩
          rw [HST.out]
          have hb04 := hb03.trans (hb4.mono hb03.size)
          clear c0 c1 c2 c3 c4 hbw hlt hb03 hb4
          obtain ⟨c0, c1, c2, c3, c4, hbw, hlt⟩ := bx5 hb04
          clear hb04
          go_wp2
          go_ret2
          exact ⟨_, by rw [HE.out]; rfl, by rw [HR.out]; exact lies_nil _, hbw⟩
        | false =>
          have hE := Pp.app_chd hver hchg hplc hst
          have HE := hid hE
          have HR : Hid (Pp.appR L ⟨k, p, q, t, b⟩ n = Pp.ifz (Pp.chdE L ⟨k, p, q, t, b⟩ n) (Pp.chdR L ⟨k, p, q, t, b⟩ n)) := (by rw [Pp.appR, hE] : Pp.appR L ⟨k, p, q, t, b⟩ n = Pp.ifz (Pp.chdE L ⟨k, p, q, t, b⟩ n) (Pp.chdR L ⟨k, p, q, t, b⟩ n))
          have HST := hid hst
          clear hE hst hplc hchg hver
          go_enter Tryz.func59, Tryz.ntmps59
          go_wp2_with fail
          refine (checkVersion_any n _).mono ?_
          rintro e w1 ⟨rfl, rfl⟩
          rw [HVE.out]
          go_wp2_with fail
          refine (checkChange_any k p q t b _ (by omega) (by omega) (by omega)).mono ?_
          rintro e w2 ⟨rfl, hb2⟩
          rw [HCH.out]
          obtain ⟨c0, c1, c2, c3, c4, hbw, hlt⟩ := bx5 hb2
          go_wp2_with fail
          refine (checkPlace_any L v k p q t b _ (HV.out.below hbw) (fun e he => (HS.out e he).1) (by omega) (by omega) HCH.out).mono ?_
          rintro e w3 ⟨rfl, hb3⟩
          rw [HPL.out]
          have hb03 := hb2.trans (hb3.mono hb2.size)
          clear c0 c1 c2 c3 c4 hbw hlt hb2 hb3
          obtain ⟨c0, c1, c2, c3, c4, hbw, hlt⟩ := bx5 hb03
          go_wp2_with fail
          refine (isStale_any L v k p q t b _ (HV.out.below hbw) HS.out (by omega) (fun e he => Pp.entE_path (HL.out.ents e he)) (Pp.chg_path HCH.out)).mono ?_
          rintro e w4 ⟨rfl, hb4⟩
          rw [HST.out]
          have hb04 := hb03.trans (hb4.mono hb03.size)
          clear c0 c1 c2 c3 c4 hbw hlt hb03 hb4
          obtain ⟨c0, c1, c2, c3, c4, hbw, hlt⟩ := bx5 hb04
          go_wp2_with fail
          refine (changed_any L v k p q t b n _ (HV.out.below hbw) HS.out hp hq HL.out HCH.out HPL.out).mono ?_
          rintro e w5 ⟨u, rfl, hli, hb5⟩
          have HLI := hid hli
          have hb05 := hbw.trans (hb5.mono (Nat.le_of_lt hlt))
          clear c0 c1 c2 c3 c4 hbw hlt hb04 hb5 hli
          go_wp2
          go_ret2
          exact ⟨_, by rw [HE.out]; rfl, by rw [HR.out]; exact HLI.out, hb05⟩
      · have hE := Pp.app_plc hver hchg hplc
        have HR := hid (Pp.appR_no hE hplc)
        have HE := hid hE
        have hz : (Pp.plcE L ⟨k, p, q, t, b⟩ == 0) = false := by simpa using hplc
        clear hE hchg hver
        go_enter Tryz.func59, Tryz.ntmps59
        go_wp2_with fail
        refine (checkVersion_any n _).mono ?_
        rintro e w1 ⟨rfl, rfl⟩
        rw [HVE.out]
        go_wp2_with fail
        refine (checkChange_any k p q t b _ (by omega) (by omega) (by omega)).mono ?_
        rintro e w2 ⟨rfl, hb2⟩
        rw [HCH.out]
        obtain ⟨c0, c1, c2, c3, c4, hbw, hlt⟩ := bx5 hb2
        go_wp2_with fail
        refine (checkPlace_any L v k p q t b _ (HV.out.below hbw) (fun e he => (HS.out e he).1) (by omega) (by omega) HCH.out).mono ?_
        rintro e w3 ⟨rfl, hb3⟩
        have hb03 := hb2.trans (hb3.mono hb2.size)
        clear c0 c1 c2 c3 c4 hbw hlt hb2 hb3
        obtain ⟨c0, c1, c2, c3, c4, hbw, hlt⟩ := bx5 hb03
        clear hb03
        go_wp2
        go_ret2
        exact ⟨_, by rw [HE.out]; rfl, by rw [HR.out]; exact lies_nil _, hbw⟩
    · have hE := Pp.app_chg (L := L) hver hchg
      have HR := hid (Pp.appR_no hE hchg)
      have HE := hid hE
      have hz : (Pp.chgE ⟨k, p, q, t, b⟩ == 0) = false := by simpa using hchg
      clear hE hver
      go_enter Tryz.func59, Tryz.ntmps59
      go_wp2_with fail
      refine (checkVersion_any n _).mono ?_
      rintro e w1 ⟨rfl, rfl⟩
      rw [HVE.out]
      go_wp2_with fail
      refine (checkChange_any k p q t b _ (by omega) (by omega) (by omega)).mono ?_
      rintro e w2 ⟨rfl, hb2⟩
      obtain ⟨c0, c1, c2, c3, c4, hbw, hlt⟩ := bx5 hb2
      clear hb2
      go_wp2
      go_ret2
      exact ⟨_, by rw [HE.out]; rfl, by rw [HR.out]; exact lies_nil _, hbw⟩
  · have hE := Pp.app_ver (L := L) (c := ⟨k, p, q, t, b⟩) hver
    have HR := hid (Pp.appR_no hE hver)
    have HE := hid hE
    have hz : (Pp.verE n == 0) = false := by simpa using hver
    clear hE
    go_enter Tryz.func59, Tryz.ntmps59
    go_wp2_with fail
    refine (checkVersion_any n _).mono ?_
    rintro e w1 ⟨rfl, rfl⟩
    go_wp2
    go_ret2
    exact ⟨_, by rw [HE.out]; rfl, by rw [HR.out]; exact lies_nil _, (Below.refl _ _).alloc (Nat.le_refl _) _⟩

namespace Pp
/-- Apply: what is wrong with the tree is told first. -/
def tapE (L : List En) (c : Ch) (n : Int) : Int := if treeE L = 0 then appE L c n else treeE L
def tapR (L : List En) (c : Ch) (n : Int) : List En := ifz (tapE L c n) (chdR L c n)
theorem tapE_yes {L : List En} {c : Ch} {n : Int} (h : treeE L = 0) : tapE L c n = appE L c n := if_pos h
theorem tapE_no {L : List En} {c : Ch} {n : Int} (h : ¬ treeE L = 0) : tapE L c n = treeE L := if_neg h
theorem tapR_yes {L : List En} {c : Ch} {n : Int} (h : treeE L = 0) : tapR L c n = appR L c n := by rw [tapR, appR, tapE_yes h]
theorem tapR_no {L : List En} {c : Ch} {n : Int} (h : ¬ treeE L = 0) : tapR L c n = [] := by rw [tapR, tapE_no h, ifz_no h]
end Pp
end Go.Proofs.YtagdilnbbepccaaGreat
