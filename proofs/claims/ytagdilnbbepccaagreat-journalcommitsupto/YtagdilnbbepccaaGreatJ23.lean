/- The law JournalCommits. -/
import Derived.Test.YtagdilnbbepccaaGreatJ21
import Derived.Test.YtagdilnbbepccaaGreatMO
import Derived.Test.YtagdilnbbepccaaGreatMP
import Derived.Test.YtagdilnbbepccaaGreatJ9
set_option linter.unusedSimpArgs false
set_option linter.unusedVariables false
namespace Go.Proofs.YtagdilnbbepccaaGreat
open Go.RowKit

theorem LiesJ.nb {W W' : World} {v : Value} {J : Jo} {g : Nat} (h : LiesJ W v J) (hw : W.grownBy W' (some g)) (hn : NoStr W g) : LiesJ W' v J := by
  obtain ⟨vt, vc, rfl, h1, h2⟩ := h
  exact ⟨vt, vc, rfl, h1.nb hw hn, h2.nb hw hn⟩
/-- A journal's box that is written cell by cell. -/
theorem jour_set {W : World} {g : Nat} {v : Value} {J : Jo} {x1 x2 z1 z2 : Option Addr} {n1 n2 y1 y2 p1 p2 q1 q2 : Nat} {c k0 : Int} (h : Cs W g [.slice z1 p1 q1, .int .i64 k0, .slice z2 p2 q2]) (hp : LiesJ W v J) :
    Cs (((W.setCell ⟨g, 0, none⟩ (.slice x1 n1 y1)).setCell ⟨g, 1, none⟩ (.int .i64 c)).setCell ⟨g, 2, none⟩ (.slice x2 n2 y2)) g [.slice x1 n1 y1, .int .i64 c, .slice x2 n2 y2] ∧
    LiesJ (((W.setCell ⟨g, 0, none⟩ (.slice x1 n1 y1)).setCell ⟨g, 1, none⟩ (.int .i64 c)).setCell ⟨g, 2, none⟩ (.slice x2 n2 y2)) v J := by
  have h1 := h.set 0 (.slice x1 n1 y1)
  have h2 := h1.set 1 (.int .i64 c)
  have h3 := h2.set 2 (.slice x2 n2 y2)
  exact ⟨h3, ((hp.nb (nb_set _ _ _ _) (h.noStr (by intro s hs; simp at hs))).nb (nb_set _ _ _ _) (h1.noStr (by intro s hs; simp at hs))).nb (nb_set _ _ _ _) (h2.noStr (by intro s hs; simp at hs))⟩

set_option maxRecDepth 100000 in
set_option maxHeartbeats 2000000 in
theorem journalCommits_walk (J : Jo) (v : Value) (key : ByteArray) (l : List Pp.Ch) (xl : Value) (w : World) (hv : LiesJ w v J) (hl : LiesC w xl l) (hp : ∀ e ∈ J.base, e.path.size ≤ 1000000000 ∧ e.text.size ≤ 1000000000) (hcs : SizedO 1000000000 J.cos) (hls : SizedC 1000000000 l) (hke : key.size ≤ 1000000000) :
    Calls Tryz.prog 4 #[v, .string key, xl] w fun e w' => e = .returned (.bool true) ∧ Below w.heap.size w w' := by
  have HV := hid hv
  have HL := hid hl
  have HP : Hid (∀ e ∈ J.base, e.path.size ≤ 1000000000) := (fun e he => (hp e he).1 : ∀ e ∈ J.base, e.path.size ≤ 1000000000)
  have HS : Hid (Sized J.base) := (fun e he => ⟨by have := (hp e he).1; omega, by have := (hp e he).2; omega⟩ : Sized J.base)
  have HCS := hid hcs
  have HCS2 := hid (hcs.mono (by decide : 1000000000 ≤ 150000000000000))
  have HKE : Hid (key.size ≤ maxLen) := (by unfold maxLen; omega : key.size ≤ maxLen)
  have HLS2 : Hid (SizedC 150000000000000 l) := (fun c hc => ⟨Nat.le_trans (hls c hc).1 (by decide), Nat.le_trans (hls c hc).2.1 (by decide), Nat.le_trans (hls c hc).2.2 (by decide)⟩ : SizedC 150000000000000 l)
  obtain ⟨vb, vc, rfl, hvb, hvc⟩ := hv
  obtain ⟨ba, bcap, rfl, _⟩ := hvb
  obtain ⟨ca, ccap, rfl, _⟩ := hvc
  obtain ⟨la, lcap, rfl, _⟩ := hl
  clear hp
  obtain ⟨wz, hwz⟩ : ∃ wz, wz = w.alloc (.cells #[.slice ba J.base.length bcap, .int .i64 J.first, .slice ca J.cos.length ccap] 25) := ⟨_, rfl⟩
  have hbz : Below w.heap.size w wz := by rw [hwz]; exact (Below.refl _ _).alloc (Nat.le_refl _) _
  have HBX : Hid (Cs wz w.heap.size [.slice ba J.base.length bcap, .int .i64 J.first, .slice ca J.cos.length ccap]) := (by rw [hwz]; exact Cs.new _ [.slice ba J.base.length bcap, .int .i64 J.first, .slice ca J.cos.length ccap] _ : Cs wz w.heap.size [.slice ba J.base.length bcap, .int .i64 J.first, .slice ca J.cos.length ccap])
  have HRD := hid (fun (W : World) (h : LiesJ W (.agg #[.slice ba J.base.length bcap, .int .i64 J.first, .slice ca J.cos.length ccap]) J) (h2 : LiesC W (.slice la l.length lcap) l) => jcommit_any J _ key l _ W h h2 HS.out HCS2.out HLS2.out HKE.out)
  by_cases h0 : Jn.chkE J = 0
  · have H0 := hid h0
    have HRO := hid (fun (W : World) (h : LiesJ W (.agg #[.slice ba J.base.length bcap, .int .i64 J.first, .slice ca J.cos.length ccap]) J) (h2 : LiesC W (.slice la l.length lcap) l) => commitOf_any J _ key l _ W h h2 HP.out HCS.out hls HKE.out h0)
    generalize Jn.comR J key l = X at HRD HRO
    generalize Jn.comE J key l = E at HRD HRO
    generalize Jn.comN J key l = N at HRD HRO
    clear h0 hcs hls
    go_enter Tryz.func4, Tryz.ntmps4
    go_wp2_with fail
    rw [← hwz]
    clear hwz
    refine (HRD.out _ (HV.out.below hbz) (HL.out.below hbz)).mono ?_
    rintro e w1 ⟨r, rfl, hli, hb1⟩
    have HP1 := hid hli.lies
    obtain ⟨vt', vc', rfl, hx1, _, hx2⟩ := hli
    obtain ⟨x1, y1, rfl, _⟩ := hx1
    obtain ⟨x2, y2, rfl⟩ := liesO_shape hx2.lies
    have HB1 := hid (HBX.out.below hb1)
    have hb01 := below_tr hbz hb1
    obtain ⟨wp, hwp⟩ : ∃ wp, wp = w1.alloc (.cells #[.slice x1 X.base.length y1, .int .i64 X.first, .slice x2 X.cos.length y2] 25) := ⟨_, rfl⟩
    have hbp : Below w1.heap.size w1 wp := by rw [hwp]; exact (Below.refl _ _).alloc (Nat.le_refl _) _
    have HPX : Hid (Cs wp w1.heap.size [.slice x1 X.base.length y1, .int .i64 X.first, .slice x2 X.cos.length y2]) := (by rw [hwp]; exact Cs.new _ [.slice x1 X.base.length y1, .int .i64 X.first, .slice x2 X.cos.length y2] _ : Cs wp w1.heap.size [.slice x1 X.base.length y1, .int .i64 X.first, .slice x2 X.cos.length y2])
    have HP2 := hid (HP1.out.below hbp)
    have HB2 := hid (HB1.out.below hbp)
    have hb0p := below_tr hb01 hbp
    have c0 := HB1.out.cell 0 rfl
    have c1 := HB1.out.cell 1 rfl
    have c2 := HB1.out.cell 2 rfl
    have hlt1 := HB1.out.lt
    have hne1 : ¬ w.heap.size = w1.heap.size := by omega
    clear hx2
    go_wp2_with fail
    rw [← hwp]
    clear hwp c0 c1 c2
    refine (checkJournal_any J _ _ (HV.out.below hb0p) HP.out HCS.out).mono ?_
    rintro e w2 ⟨rfl, hb2⟩
    rw [H0.out]
    have HB3 := hid (HB2.out.below hb2)
    have HPX3 := hid (HPX.out.below hb2)
    have HP3 := hid (HP2.out.below hb2)
    have hb02 := below_tr hb0p hb2
    have c0 := HB3.out.cell 0 rfl
    have c1 := HB3.out.cell 1 rfl
    have c2 := HB3.out.cell 2 rfl
    obtain ⟨wq, hwq⟩ : ∃ wq, wq = w2.alloc (.cells #[.slice none 0 0, .int .i64 0, .slice none 0 0] 25) := ⟨_, rfl⟩
    have hbq : Below w2.heap.size w2 wq := by rw [hwq]; exact (Below.refl _ _).alloc (Nat.le_refl _) _
    have HWX : Hid (Cs wq w2.heap.size [.slice none 0 0, .int .i64 0, .slice none 0 0]) := (by rw [hwq]; exact Cs.new _ [.slice none 0 0, .int .i64 0, .slice none 0 0] _ : Cs wq w2.heap.size [.slice none 0 0, .int .i64 0, .slice none 0 0])
    have HPX4 := hid (HPX3.out.below hbq)
    have HP4 := hid (HP3.out.below hbq)
    have hb0q := below_tr hb02 hbq
    have hlt3 := HB3.out.lt
    have hne3 : ¬ w.heap.size = w2.heap.size := by omega
    have hltp := HPX3.out.lt
    have hle2 := hb02.size
    go_wp2_with fail
    rw [← hwq]
    clear hwq c0 c1 c2
    refine (HRO.out _ (HV.out.below hb0q) (HL.out.below hb0q)).mono ?_
    rintro e w3 ⟨u, rfl, hu, hb3⟩
    have HU := hid hu
    obtain ⟨vt', vc', rfl, hx1, hx2⟩ := hu
    obtain ⟨a3, b3, rfl, _⟩ := hx1
    obtain ⟨a4, b4, rfl⟩ := liesO_shape hx2
    have HWX5 := hid (HWX.out.below hb3)
    have HPX5 := hid (HPX4.out.below hb3)
    have HP5 := hid (HP4.out.below hb3)
    have hb03 := below_tr hb0q hb3
    have y0 := HWX5.out.cell 0 rfl
    have y1' := HWX5.out.cell 1 rfl
    have y2' := HWX5.out.cell 2 rfl
    have g0 := HWX5.out.fr 0
    have g1 := HWX5.out.fr 1
    have g2 := HWX5.out.fr 2
    obtain ⟨ws, hws⟩ : ∃ ws, ws = ((w3.setCell ⟨w2.heap.size, 0, none⟩ (.slice a3 X.base.length b3)).setCell ⟨w2.heap.size, 1, none⟩ (.int .i64 X.first)).setCell ⟨w2.heap.size, 2, none⟩ (.slice a4 X.cos.length b4) := ⟨_, rfl⟩
    have HWX6 : Hid (Cs ws w2.heap.size [.slice a3 X.base.length b3, .int .i64 X.first, .slice a4 X.cos.length b4]) := (by rw [hws]; exact (jour_set HWX5.out HU.out).1 : Cs ws w2.heap.size [.slice a3 X.base.length b3, .int .i64 X.first, .slice a4 X.cos.length b4])
    have HU6 : Hid (LiesJ ws (.agg #[.slice a3 X.base.length b3, .int .i64 X.first, .slice a4 X.cos.length b4]) X) := (by rw [hws]; exact (jour_set HWX5.out HU.out).2 : LiesJ ws (.agg #[.slice a3 X.base.length b3, .int .i64 X.first, .slice a4 X.cos.length b4]) X)
    have HP6 : Hid (LiesJ ws (.agg #[.slice x1 X.base.length y1, .int .i64 X.first, .slice x2 X.cos.length y2]) X) := (by rw [hws]; exact (jour_set HWX5.out HP5.out).2 : LiesJ ws (.agg #[.slice x1 X.base.length y1, .int .i64 X.first, .slice x2 X.cos.length y2]) X)
    have HPX6 : Hid (Cs ws w1.heap.size [.slice x1 X.base.length y1, .int .i64 X.first, .slice x2 X.cos.length y2]) := (by
      have hne : w1.heap.size ≠ w2.heap.size := by omega
      rw [hws]; exact ((HPX5.out.nb (nb_set _ _ _ _) hne).nb (nb_set _ _ _ _) hne).nb (nb_set _ _ _ _) hne : Cs ws w1.heap.size [.slice x1 X.base.length y1, .int .i64 X.first, .slice x2 X.cos.length y2])
    have hb0s : Below w.heap.size w ws := by
      rw [hws]
      exact ((hb03.setCell (p := ⟨w2.heap.size, 0, none⟩) hle2 _).setCell (p := ⟨w2.heap.size, 1, none⟩) hle2 _).setCell (p := ⟨w2.heap.size, 2, none⟩) hle2 _
    clear hx2
    go_wp2_with fail
    rw [← hws]
    clear hws y0 y1' y2' g0 g1 g2
    refine (journalBegun_yes _).mono ?_
    rintro e w4 ⟨rfl, hb4⟩
    have HWX7 := hid (HWX6.out.below hb4)
    have HPX7 := hid (HPX6.out.below hb4)
    have HU7 := hid (HU6.out.below hb4)
    have HP7 := hid (HP6.out.below hb4)
    have hb04 := below_tr hb0s hb4
    have p0 := HPX7.out.cell 0 rfl
    have p1 := HPX7.out.cell 1 rfl
    have p2 := HPX7.out.cell 2 rfl
    have q0 := HWX7.out.cell 0 rfl
    have q1 := HWX7.out.cell 1 rfl
    have q2 := HWX7.out.cell 2 rfl
    go_wp2_with fail
    refine (sameJ_yes X _ _ _ HP7.out HU7.out).mono ?_
    rintro e w5 ⟨rfl, hb5⟩
    have hb05 := below_tr hb04 hb5
    go_wp2_with fail
    go_ret
    exact ⟨rfl, hb05⟩
  · have hz : (Jn.chkE J == 0) = false := by simpa using h0
    obtain ⟨hE, hN, hR⟩ := Jn.com_chk (key := key) (l := l) h0
    rw [hE, hN, hR] at HRD
    clear hE hN hR hcs hls
    go_enter Tryz.func4, Tryz.ntmps4
    go_wp2_with fail
    rw [← hwz]
    clear hwz
    refine (HRD.out _ (HV.out.below hbz) (HL.out.below hbz)).mono ?_
    rintro e w1 ⟨r, rfl, hli, hb1⟩
    have HP1 := hid hli.lies
    obtain ⟨vt', vc', rfl, hx1, _, hx2⟩ := hli
    obtain ⟨x1, y1, rfl, _⟩ := hx1
    obtain ⟨x2, y2, rfl⟩ := liesO_shape hx2.lies
    have HB1 := hid (HBX.out.below hb1)
    have hb01 := below_tr hbz hb1
    obtain ⟨wp, hwp⟩ : ∃ wp, wp = w1.alloc (.cells #[.slice x1 0 y1, .int .i64 0, .slice x2 0 y2] 25) := ⟨_, rfl⟩
    have hbp : Below w1.heap.size w1 wp := by rw [hwp]; exact (Below.refl _ _).alloc (Nat.le_refl _) _
    have HPX : Hid (Cs wp w1.heap.size [.slice x1 0 y1, .int .i64 0, .slice x2 0 y2]) := (by rw [hwp]; exact Cs.new _ [.slice x1 0 y1, .int .i64 0, .slice x2 0 y2] _ : Cs wp w1.heap.size [.slice x1 0 y1, .int .i64 0, .slice x2 0 y2])
    have HP2 := hid (HP1.out.below hbp)
    have HB2 := hid (HB1.out.below hbp)
    have hb0p := below_tr hb01 hbp
    have c0 := HB1.out.cell 0 rfl
    have c1 := HB1.out.cell 1 rfl
    have c2 := HB1.out.cell 2 rfl
    have hlt1 := HB1.out.lt
    have hne1 : ¬ w.heap.size = w1.heap.size := by omega
    clear hx2
    simp only [Jn.zeroJ, List.length_nil]
    go_wp2_with fail
    rw [← hwp]
    clear hwp c0 c1 c2
    refine (checkJournal_any J _ _ (HV.out.below hb0p) HP.out HCS.out).mono ?_
    rintro e w2 ⟨rfl, hb2⟩
    have HPX3 := hid (HPX.out.below hb2)
    have HP3 := hid (HP2.out.below hb2)
    have hb02 := below_tr hb0p hb2
    obtain ⟨wq, hwq⟩ : ∃ wq, wq = w2.alloc (.cells #[.slice none 0 0, .int .i64 0, .slice none 0 0] 25) := ⟨_, rfl⟩
    have hbq : Below w2.heap.size w2 wq := by rw [hwq]; exact (Below.refl _ _).alloc (Nat.le_refl _) _
    have HWX : Hid (Cs wq w2.heap.size [.slice none 0 0, .int .i64 0, .slice none 0 0]) := (by rw [hwq]; exact Cs.new _ [.slice none 0 0, .int .i64 0, .slice none 0 0] _ : Cs wq w2.heap.size [.slice none 0 0, .int .i64 0, .slice none 0 0])
    have HPX4 := hid (HPX3.out.below hbq)
    have HP4 := hid (HP3.out.below hbq)
    have hb0q := below_tr hb02 hbq
    go_wp2_with fail
    rw [← hwq]
    clear hwq
    refine (journalBegun_yes _).mono ?_
    rintro e w4 ⟨rfl, hb4⟩
    have HWX7 := hid (HWX.out.below hb4)
    have HPX7 := hid (HPX4.out.below hb4)
    have HP7 := hid (HP4.out.below hb4)
    have hb04 := below_tr hb0q hb4
    have p0 := HPX7.out.cell 0 rfl
    have p1 := HPX7.out.cell 1 rfl
    have p2 := HPX7.out.cell 2 rfl
    have q0 := HWX7.out.cell 0 rfl
    have q1 := HWX7.out.cell 1 rfl
    have q2 := HWX7.out.cell 2 rfl
    go_wp2_with fail
    refine (sameJ_yes Jn.zeroJ _ _ _ HP7.out (liesJ_zero _)).mono ?_
    rintro e w5 ⟨rfl, hb5⟩
    have hb05 := below_tr hb04 hb5
    go_wp2_with fail
    go_ret
    exact ⟨rfl, hb05⟩
end Go.Proofs.YtagdilnbbepccaaGreat
