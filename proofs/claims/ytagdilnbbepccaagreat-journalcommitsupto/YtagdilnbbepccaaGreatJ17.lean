/- The law JournalResets. -/
import Derived.Test.YtagdilnbbepccaaGreatJ14
import Derived.Test.YtagdilnbbepccaaGreatJ10
import Derived.Test.YtagdilnbbepccaaGreatMO
import Derived.Test.YtagdilnbbepccaaGreatMN
import Derived.Test.YtagdilnbbepccaaGreatT13
import Derived.Test.YtagdilnbbepccaaGreatJRst
import Derived.Test.YtagdilnbbepccaaGreatJ6
set_option linter.unusedSimpArgs false
set_option linter.unusedVariables false
namespace Go.Proofs.YtagdilnbbepccaaGreat
open Go.RowKit

theorem LiesP.nb {W W' : World} {v : Value} {P : Pg} {g : Nat} (h : LiesP W v P) (hw : W.grownBy W' (some g)) (hn : NoStr W g) : LiesP W' v P := by
  obtain ⟨vt, vc, rfl, h1, h2⟩ := h
  exact ⟨vt, vc, rfl, h1.nb hw hn, h2.nb hw hn⟩
/-- A page's box that is written cell by cell. -/
theorem page_set {W : World} {g : Nat} {v : Value} {P : Pg} {r m r0 m0 : Bool} {x1 x2 z1 z2 : Option Addr} {n1 n2 y1 y2 p1 p2 q1 q2 : Nat} {c k0 : Int} (h : Cs W g [.bool r0, .slice z1 p1 q1, .slice z2 p2 q2, .int .i64 k0, .bool m0]) (hp : LiesP W v P) :
    Cs (((((W.setCell ⟨g, 0, none⟩ (.bool r)).setCell ⟨g, 1, none⟩ (.slice x1 n1 y1)).setCell ⟨g, 2, none⟩ (.slice x2 n2 y2)).setCell ⟨g, 3, none⟩ (.int .i64 c)).setCell ⟨g, 4, none⟩ (.bool m)) g [.bool r, .slice x1 n1 y1, .slice x2 n2 y2, .int .i64 c, .bool m] ∧
    LiesP (((((W.setCell ⟨g, 0, none⟩ (.bool r)).setCell ⟨g, 1, none⟩ (.slice x1 n1 y1)).setCell ⟨g, 2, none⟩ (.slice x2 n2 y2)).setCell ⟨g, 3, none⟩ (.int .i64 c)).setCell ⟨g, 4, none⟩ (.bool m)) v P := by
  have h1 := h.set 0 (.bool r)
  have h2 := h1.set 1 (.slice x1 n1 y1)
  have h3 := h2.set 2 (.slice x2 n2 y2)
  have h4 := h3.set 3 (.int .i64 c)
  have h5 := h4.set 4 (.bool m)
  exact ⟨h5, ((((hp.nb (nb_set _ _ _ _) (h.noStr (by intro s hs; simp at hs))).nb (nb_set _ _ _ _) (h1.noStr (by intro s hs; simp at hs))).nb (nb_set _ _ _ _) (h2.noStr (by intro s hs; simp at hs))).nb (nb_set _ _ _ _) (h3.noStr (by intro s hs; simp at hs))).nb (nb_set _ _ _ _) (h4.noStr (by intro s hs; simp at hs))⟩

set_option maxRecDepth 100000 in
set_option maxHeartbeats 2000000 in
theorem journalResets_walk (J : Jo) (v : Value) (c : Int) (T : List En) (vt : Value) (w : World) (hv : LiesJ w v J) (hp : ∀ e ∈ J.base, e.path.size ≤ 1000000000 ∧ e.text.size ≤ 1000000000) (hcs : SizedO 1000000000 J.cos) (hc1 : -9223372036854775808 ≤ c) (hc2 : c ≤ 9223372036854775807) (ht : Lies w vt T) (hts : ∀ e ∈ T, e.path.size ≤ 1000000000 ∧ e.text.size ≤ 1000000000) :
    Calls Tryz.prog 8 #[v, .int .i64 c, vt] w fun e w' => e = .returned (.bool true) ∧ Below w.heap.size w w' := by
  have HV := hid hv
  have HT := hid ht
  have HS : Hid (Sized J.base) := (fun e he => ⟨by have := (hp e he).1; omega, by have := (hp e he).2; omega⟩ : Sized J.base)
  have HTS : Hid (Sized T) := (fun e he => ⟨by have := (hts e he).1; omega, by have := (hts e he).2; omega⟩ : Sized T)
  have HTP : Hid (∀ e ∈ T, e.path.size ≤ 1000000000) := (fun e he => (hts e he).1 : ∀ e ∈ T, e.path.size ≤ 1000000000)
  have HCS2 := hid (hcs.mono (by decide : 1000000000 ≤ 150000000000000))
  obtain ⟨vb, vc, rfl, hvb, hvc⟩ := hv
  obtain ⟨ba, bcap, rfl, _⟩ := hvb
  obtain ⟨ca, ccap, rfl, _⟩ := hvc
  obtain ⟨ta, tcap, rfl, _⟩ := ht
  clear hp hcs hts
  obtain ⟨wz, hwz⟩ : ∃ wz, wz = w.alloc (.cells #[.slice ba J.base.length bcap, .int .i64 J.first, .slice ca J.cos.length ccap] 25) := ⟨_, rfl⟩
  have hbz : Below w.heap.size w wz := by rw [hwz]; exact (Below.refl _ _).alloc (Nat.le_refl _) _
  have HBX : Hid (Cs wz w.heap.size [.slice ba J.base.length bcap, .int .i64 J.first, .slice ca J.cos.length ccap]) := (by rw [hwz]; exact Cs.new _ [.slice ba J.base.length bcap, .int .i64 J.first, .slice ca J.cos.length ccap] _ : Cs wz w.heap.size [.slice ba J.base.length bcap, .int .i64 J.first, .slice ca J.cos.length ccap])
  by_cases h0 : Jn.chkE J = 0
  · by_cases hf : J.first < 2
    · have H0 := hid h0
      have hf2 : J.first ≤ 1000000 := (Jn.ver_iff.1 (Jn.chk_parts h0).2.1).2
      clear h0
      go_enter Tryz.func8, Tryz.ntmps8
      go_wp2_with fail
      rw [← hwz]
      clear hwz
      refine (journalBegun_yes _).mono ?_
      rintro e w1 ⟨rfl, hb1⟩
      have HB1 := hid (HBX.out.below hb1)
      have c0 := HB1.out.cell 0 rfl
      have c1 := HB1.out.cell 1 rfl
      have c2 := HB1.out.cell 2 rfl
      have hb01 := below_tr hbz hb1
      go_wp2_with fail
      refine (jtree_any J _ _ (HV.out.below hb01) HS.out HCS2.out).mono ?_
      rintro e w2 ⟨r, rfl, hli, _, hb2⟩
      rw [H0.out]
      have HB2 := hid (HB1.out.below hb2)
      have hb02 := below_tr hb01 hb2
      clear c0 c1 c2 hli
      have c1 := HB2.out.cell 1 rfl
      go_wp2_with fail
      go_ret
      exact ⟨rfl, hb02⟩
    · have H0 := hid h0
      have hf2 : J.first ≤ 1000000 := (Jn.ver_iff.1 (Jn.chk_parts h0).2.1).2
      clear h0
      go_enter Tryz.func8, Tryz.ntmps8
      go_wp2_with fail
      rw [← hwz]
      clear hwz
      refine (journalBegun_yes _).mono ?_
      rintro e w1 ⟨rfl, hb1⟩
      have HB1 := hid (HBX.out.below hb1)
      have c0 := HB1.out.cell 0 rfl
      have c1 := HB1.out.cell 1 rfl
      have c2 := HB1.out.cell 2 rfl
      have hb01 := below_tr hbz hb1
      go_wp2_with fail
      refine (jtree_any J _ _ (HV.out.below hb01) HS.out HCS2.out).mono ?_
      rintro e w2 ⟨r, rfl, hli, _, hb2⟩
      rw [H0.out, Pp.ifz_yes rfl] at hli
      rw [H0.out]
      have HL2 := hid hli
      have HB2 := hid (HB1.out.below hb2)
      have hb02 := below_tr hb01 hb2
      clear c0 c1 c2
      obtain ⟨ra, rcap, rfl, _⟩ := hli
      have c0 := HB2.out.cell 0 rfl
      have c1 := HB2.out.cell 1 rfl
      have c2 := HB2.out.cell 2 rfl
      go_upto_region 6 with fail
      have HF := hid hf
      have hlt2 : w.heap.size < w2.heap.size := HB2.out.lt
      have hne2 : ¬ w.heap.size = w2.heap.size := by omega
      have hle2 : w.heap.size ≤ w2.heap.size := hb02.size
      have hw1 : IntKind.i64.wrap (J.first - 1) = J.first - 1 := by rw [IntKind.wrap_i64]; omega
      have hn1 : 0 < J.first - 1 := by omega
      have hn2 : J.first - 1 ≤ 9223372036854775807 := by omega
      go_cut [2, 3, 7, 8, 9] (fun a b d e p wx => a = .slice ta T.length tcap ∧ b = .pointer (some ⟨w.heap.size, 0, none⟩) ∧ d = .slice ra (Jn.tree J).length rcap ∧ e = .int .i64 0 ∧ ∃ g x1 y1 x2 y2, p = .pointer (some ⟨g, 0, none⟩) ∧ Hid (Cs wx g [.bool true, .slice x1 (Jn.tree J).length y1, .slice x2 0 y2, .int .i64 (Jn.last J), .bool false]) ∧ Hid (LiesP wx (.agg #[.bool true, .slice x1 (Jn.tree J).length y1, .slice x2 0 y2, .int .i64 (Jn.last J), .bool false]) (Jn.rstP J)) ∧ Below w.heap.size w wx ∧ Below w2.heap.size w2 wx)
      case first =>
        go_region_law (first
          | (go_simp; go_at_call 24; refine (choose_any c (J.first - 1) _ hc1 hc2 hn1 hn2).mono ?_; rintro e wq ⟨rfl, hwq⟩; rw [hwq]; clear hwq wq)
          | (go_simp; go_at_call 18; refine (jread_any J _ _ 3 _ (HV.out.below hb02.drew) HS.out HCS2.out).mono ?_; rintro e wa ⟨q, rfl, hli, hba⟩; rw [(Jn.rd_early H0.out HF.out).1]; rw [(Jn.rd_early H0.out HF.out).2] at hli; have HP1 := hid hli.lies; obtain ⟨vt', vc', rfl, hx1, _, hx2⟩ := hli; obtain ⟨x1, y1, rfl, _⟩ := hx1; obtain ⟨x2, y2, rfl⟩ := liesO_shape hx2.lies; have hwa : Below w2.heap.size w2 wa := below_tr ((Below.refl _ _).drew) hba)
          | (go_simp; go_at_call 18; refine (jread_any J _ _ 3 _ (HV.out.below (hb02.alloc hle2 _).drew) HS.out HCS2.out).mono ?_; rintro e wa ⟨q, rfl, hli, hba⟩; rw [(Jn.rd_early H0.out HF.out).1]; rw [(Jn.rd_early H0.out HF.out).2] at hli; have HP1 := hid hli.lies; obtain ⟨vt', vc', rfl, hx1, _, hx2⟩ := hli; obtain ⟨x1, y1, rfl, _⟩ := hx1; obtain ⟨x2, y2, rfl⟩ := liesO_shape hx2.lies; have hwa : Below w2.heap.size w2 wa := below_tr (((Below.refl _ _).alloc (Nat.le_refl _) _).drew) hba; have HZ := hid (((Cs.new w2 [.bool false, .slice none 0 0, .slice none 0 0, .int .i64 0, .bool false] 40).below ((Below.refl _ _).drew)).below hba); have d0 := HZ.out.cell 0 rfl; have d1 := HZ.out.cell 1 rfl; have d2 := HZ.out.cell 2 rfl; have d3 := HZ.out.cell 3 rfl; have d4 := HZ.out.cell 4 rfl; have f0 := HZ.out.fr 0; have f1 := HZ.out.fr 1; have f2 := HZ.out.fr 2; have f3 := HZ.out.fr 3; have f4 := HZ.out.fr 4))
        all_goals
          go_wp2_with fail
          go_meet
          case rel => first
            | exact ⟨rfl, rfl, rfl, rfl, _, _, _, _, _, rfl, (page_set HZ.out HP1.out).1, (page_set HZ.out HP1.out).2, (((((hb02.trans (hwa.mono hle2)).setCell (p := ⟨w2.heap.size, 0, none⟩) hle2 _).setCell (p := ⟨w2.heap.size, 1, none⟩) hle2 _).setCell (p := ⟨w2.heap.size, 2, none⟩) hle2 _).setCell (p := ⟨w2.heap.size, 3, none⟩) hle2 _).setCell (p := ⟨w2.heap.size, 4, none⟩) hle2 _, ((((hwa.setCell (p := ⟨w2.heap.size, 0, none⟩) (Nat.le_refl _) _).setCell (p := ⟨w2.heap.size, 1, none⟩) (Nat.le_refl _) _).setCell (p := ⟨w2.heap.size, 2, none⟩) (Nat.le_refl _) _).setCell (p := ⟨w2.heap.size, 3, none⟩) (Nat.le_refl _) _).setCell (p := ⟨w2.heap.size, 4, none⟩) (Nat.le_refl _) _⟩
            | exact ⟨rfl, rfl, rfl, rfl, _, _, _, _, _, rfl, Cs.new wa [_, _, _, _, _] _, HP1.out.below ((Below.refl _ _).alloc (Nat.le_refl _) _), (hb02.trans (hwa.mono hle2)).alloc (Nat.le_trans hle2 hwa.size) _, hwa.alloc hwa.size _⟩
      case rest =>
        obtain ⟨rfl, rfl, rfl, rfl, g, x1, y1, x2, y2, rfl, HC, HLP, hb03, hb23⟩ := hcut
        have m0 := HC.out.cell 0 rfl
        have m1 := HC.out.cell 1 rfl
        have m2 := HC.out.cell 2 rfl
        have m3 := HC.out.cell 3 rfl
        have m4 := HC.out.cell 4 rfl
        have HB3 := hid (HB2.out.below hb23)
        have HL3 := hid (HL2.out.below hb23)
        have HSR : Hid (Sized (Jn.rstP J).tree) := (Pp.good_sized (Jn.tree_good H0.out) : Sized (Jn.rstP J).tree)
        have HSO : Hid (SizedO 150000000000000 (Jn.rstP J).cos) := (fun c hc => absurd hc (by simp [Jn.rstP]) : SizedO 150000000000000 (Jn.rstP J).cos)
        clear c0 c1 c2
        go_wp2_with fail
        refine (follow_any T _ 0 (Jn.rstP J) _ _ (HT.out.below hb03) HTS.out HLP.out HSR.out HSO.out).mono ?_
        rintro e w4 ⟨r, rfl, hli, hb4⟩
        have hb04 := below_tr hb03 hb4
        have HB4 := hid (HB3.out.below hb4)
        have HL4 := hid (HL3.out.below hb4)
        have c1 := HB4.out.cell 1 rfl
        have c2 := HB4.out.cell 2 rfl
        rw [Jn.rst_fol H0.out]
        clear m0 m1 m2 m3 m4
        by_cases ht : Pp.treeE T = 0
        · have HE := Jn.rst_folR H0.out ht
          rw [HE.1] at hli
          rw [HE.2, ht]
          clear HE
          have HLI := hid hli
          clear hli
          go_wp2_with fail
          refine (same_yes (Jn.tree J) _ _ _ HLI.out HL4.out).mono ?_
          rintro e w5 ⟨rfl, hb5⟩
          have hb05 := below_tr hb04 hb5
          have HB5 := hid (HB4.out.below hb5)
          clear c1 c2
          have c1 := HB5.out.cell 1 rfl
          have c2 := HB5.out.cell 2 rfl
          have hlast : Jn.last J = J.first + J.cos.length - 1 := by rw [Jn.last]; omega
          rw [hlast]
          clear hlast
          have hcl : J.cos.length ≤ 30 := by have := (Jn.chk_parts H0.out).2.2.1; omega
          have hwr1 : IntKind.i64.wrap (J.first + (J.cos.length : Int)) = J.first + (J.cos.length : Int) := by rw [IntKind.wrap_i64]; omega
          have hwr2 : IntKind.i64.wrap (J.first + (J.cos.length : Int) - 1) = J.first + (J.cos.length : Int) - 1 := by rw [IntKind.wrap_i64]; omega
          go_wp2_with fail
          go_ret
          exact ⟨rfl, hb05⟩
        · have htz : (Pp.treeE T == 0) = false := by simpa using ht
          have htn : (Pp.treeE T != 0) = true := by simpa using ht
          go_wp2_with fail
          refine (rCheckTree_any T _ _ (HT.out.below hb04) HTP.out).mono ?_
          rintro e w5 ⟨rfl, hb5⟩
          have hb05 := below_tr hb04 hb5
          go_wp2_with fail
          go_ret
          exact ⟨rfl, hb05⟩
  · have hz : (Jn.chkE J == 0) = false := by simpa using h0
    go_enter Tryz.func8, Tryz.ntmps8
    go_wp2_with fail
    rw [← hwz]
    clear hwz
    refine (journalBegun_yes _).mono ?_
    rintro e w1 ⟨rfl, hb1⟩
    have HB1 := hid (HBX.out.below hb1)
    have c0 := HB1.out.cell 0 rfl
    have c1 := HB1.out.cell 1 rfl
    have c2 := HB1.out.cell 2 rfl
    have hb01 := below_tr hbz hb1
    go_wp2_with fail
    refine (jtree_any J _ _ (HV.out.below hb01) HS.out HCS2.out).mono ?_
    rintro e w2 ⟨r, rfl, hli, _, hb2⟩
    have HB2 := hid (HB1.out.below hb2)
    have hb02 := below_tr hb01 hb2
    clear c0 c1 c2 hli
    have c1 := HB2.out.cell 1 rfl
    go_wp2_with fail
    go_ret
    exact ⟨rfl, hb02⟩
end Go.Proofs.YtagdilnbbepccaaGreat
