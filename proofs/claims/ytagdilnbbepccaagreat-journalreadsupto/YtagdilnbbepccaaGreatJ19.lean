/- The law JournalReads. -/
import Derived.Test.YtagdilnbbepccaaGreatJ18
import Derived.Test.YtagdilnbbepccaaGreatJ10
import Derived.Test.YtagdilnbbepccaaGreatMO
import Derived.Test.YtagdilnbbepccaaGreatJ17
set_option linter.unusedSimpArgs false
set_option linter.unusedVariables false
namespace Go.Proofs.YtagdilnbbepccaaGreat
open Go.RowKit

set_option maxRecDepth 100000 in
set_option maxHeartbeats 2000000 in
theorem journalReads_walk (J : Jo) (v : Value) (c m : Int) (w : World) (hv : LiesJ w v J) (hp : ∀ e ∈ J.base, e.path.size ≤ 1000000000 ∧ e.text.size ≤ 1000000000) (hcs : SizedO 1000000000 J.cos) :
    Calls Tryz.prog 5 #[v, .int .i64 c, .int .i64 m] w fun e w' => e = .returned (.bool true) ∧ Below w.heap.size w w' := by
  have HV := hid hv
  have HP : Hid (∀ e ∈ J.base, e.path.size ≤ 1000000000) := (fun e he => (hp e he).1 : ∀ e ∈ J.base, e.path.size ≤ 1000000000)
  have HS : Hid (Sized J.base) := (fun e he => ⟨by have := (hp e he).1; omega, by have := (hp e he).2; omega⟩ : Sized J.base)
  have HCS := hid hcs
  have HCS2 := hid (hcs.mono (by decide : 1000000000 ≤ 150000000000000))
  obtain ⟨vb, vc, rfl, hvb, hvc⟩ := hv
  obtain ⟨ba, bcap, rfl, _⟩ := hvb
  obtain ⟨ca, ccap, rfl, _⟩ := hvc
  clear hp hcs
  obtain ⟨wz, hwz⟩ : ∃ wz, wz = w.alloc (.cells #[.slice ba J.base.length bcap, .int .i64 J.first, .slice ca J.cos.length ccap] 25) := ⟨_, rfl⟩
  have hbz : Below w.heap.size w wz := by rw [hwz]; exact (Below.refl _ _).alloc (Nat.le_refl _) _
  have HBX : Hid (Cs wz w.heap.size [.slice ba J.base.length bcap, .int .i64 J.first, .slice ca J.cos.length ccap]) := (by rw [hwz]; exact Cs.new _ [.slice ba J.base.length bcap, .int .i64 J.first, .slice ca J.cos.length ccap] _ : Cs wz w.heap.size [.slice ba J.base.length bcap, .int .i64 J.first, .slice ca J.cos.length ccap])
  have HRD := hid (fun (W : World) (h : LiesJ W (.agg #[.slice ba J.base.length bcap, .int .i64 J.first, .slice ca J.cos.length ccap]) J) => jread_any J _ c m W h HS.out HCS2.out)
  by_cases h0 : Jn.chkE J = 0
  · have H0 := hid h0
    have HRO := hid (fun (W : World) (h : LiesJ W (.agg #[.slice ba J.base.length bcap, .int .i64 J.first, .slice ca J.cos.length ccap]) J) => readOf_any J _ c m W h HP.out HCS.out h0)
    generalize Jn.rdR J c m = P at HRD HRO
    generalize Jn.rdE J c m = E at HRD HRO
    clear h0
    go_enter Tryz.func5, Tryz.ntmps5
    go_wp2_with fail
    rw [← hwz]
    clear hwz
    refine (HRD.out _ (HV.out.below hbz)).mono ?_
    rintro e w1 ⟨r, rfl, hli, hb1⟩
    have HP1 := hid hli.lies
    obtain ⟨vt', vc', rfl, hx1, _, hx2⟩ := hli
    obtain ⟨x1, y1, rfl, _⟩ := hx1
    obtain ⟨x2, y2, rfl⟩ := liesO_shape hx2.lies
    have HB1 := hid (HBX.out.below hb1)
    have hb01 := below_tr hbz hb1
    obtain ⟨wp, hwp⟩ : ∃ wp, wp = w1.alloc (.cells #[.bool P.reset, .slice x1 P.tree.length y1, .slice x2 P.cos.length y2, .int .i64 P.cur, .bool P.more] 40) := ⟨_, rfl⟩
    have hbp : Below w1.heap.size w1 wp := by rw [hwp]; exact (Below.refl _ _).alloc (Nat.le_refl _) _
    have HPX : Hid (Cs wp w1.heap.size [.bool P.reset, .slice x1 P.tree.length y1, .slice x2 P.cos.length y2, .int .i64 P.cur, .bool P.more]) := (by rw [hwp]; exact Cs.new _ [.bool P.reset, .slice x1 P.tree.length y1, .slice x2 P.cos.length y2, .int .i64 P.cur, .bool P.more] _ : Cs wp w1.heap.size [.bool P.reset, .slice x1 P.tree.length y1, .slice x2 P.cos.length y2, .int .i64 P.cur, .bool P.more])
    have HP2 := hid (HP1.out.below hbp)
    have HB2 := hid (HB1.out.below hbp)
    have hb0p := below_tr hb01 hbp
    have c0 := HB1.out.cell 0 rfl
    have c1 := HB1.out.cell 1 rfl
    have c2 := HB1.out.cell 2 rfl
    have hlt1 := HB1.out.lt
    have hne1 : ¬ w.heap.size = w1.heap.size := by omega
    clear hx2
    go_wp2_with fail
    rw [← hwp]
    clear hwp c0 c1 c2
    refine (checkJournal_any J _ _ (HV.out.below hb0p) HP.out HCS.out).mono ?_
    rintro e w2 ⟨rfl, hb2⟩
    rw [H0.out]
    have HB3 := hid (HB2.out.below hb2)
    have HPX3 := hid (HPX.out.below hb2)
    have HP3 := hid (HP2.out.below hb2)
    have hb02 := below_tr hb0p hb2
    have c0 := HB3.out.cell 0 rfl
    have c1 := HB3.out.cell 1 rfl
    have c2 := HB3.out.cell 2 rfl
    obtain ⟨wq, hwq⟩ : ∃ wq, wq = w2.alloc (.cells #[.bool false, .slice none 0 0, .slice none 0 0, .int .i64 0, .bool false] 40) := ⟨_, rfl⟩
    have hbq : Below w2.heap.size w2 wq := by rw [hwq]; exact (Below.refl _ _).alloc (Nat.le_refl _) _
    have HWX : Hid (Cs wq w2.heap.size [.bool false, .slice none 0 0, .slice none 0 0, .int .i64 0, .bool false]) := (by rw [hwq]; exact Cs.new _ [.bool false, .slice none 0 0, .slice none 0 0, .int .i64 0, .bool false] _ : Cs wq w2.heap.size [.bool false, .slice none 0 0, .slice none 0 0, .int .i64 0, .bool false])
    have HPX4 := hid (HPX3.out.below hbq)
    have HP4 := hid (HP3.out.below hbq)
    have hb0q := below_tr hb02 hbq
    have hlt3 := HB3.out.lt
    have hne3 : ¬ w.heap.size = w2.heap.size := by omega
    have hltp := HPX3.out.lt
    have hle2 := hb02.size
    go_wp2_with fail
    rw [← hwq]
    clear hwq c0 c1 c2
    refine (HRO.out _ (HV.out.below hb0q)).mono ?_
    rintro e w3 ⟨u, rfl, hu, hb3⟩
    have HU := hid hu
    obtain ⟨vt', vc', rfl, hx1, hx2⟩ := hu
    obtain ⟨a3, b3, rfl, _⟩ := hx1
    obtain ⟨a4, b4, rfl⟩ := liesO_shape hx2
    have HWX5 := hid (HWX.out.below hb3)
    have HPX5 := hid (HPX4.out.below hb3)
    have HP5 := hid (HP4.out.below hb3)
    have hb03 := below_tr hb0q hb3
    have y0 := HWX5.out.cell 0 rfl
    have y1' := HWX5.out.cell 1 rfl
    have y2' := HWX5.out.cell 2 rfl
    have y3 := HWX5.out.cell 3 rfl
    have y4 := HWX5.out.cell 4 rfl
    have g0 := HWX5.out.fr 0
    have g1 := HWX5.out.fr 1
    have g2 := HWX5.out.fr 2
    have g3 := HWX5.out.fr 3
    have g4 := HWX5.out.fr 4
    obtain ⟨ws, hws⟩ : ∃ ws, ws = ((((w3.setCell ⟨w2.heap.size, 0, none⟩ (.bool P.reset)).setCell ⟨w2.heap.size, 1, none⟩ (.slice a3 P.tree.length b3)).setCell ⟨w2.heap.size, 2, none⟩ (.slice a4 P.cos.length b4)).setCell ⟨w2.heap.size, 3, none⟩ (.int .i64 P.cur)).setCell ⟨w2.heap.size, 4, none⟩ (.bool P.more) := ⟨_, rfl⟩
    have HWX6 : Hid (Cs ws w2.heap.size [.bool P.reset, .slice a3 P.tree.length b3, .slice a4 P.cos.length b4, .int .i64 P.cur, .bool P.more]) := (by rw [hws]; exact (page_set HWX5.out HU.out).1 : Cs ws w2.heap.size [.bool P.reset, .slice a3 P.tree.length b3, .slice a4 P.cos.length b4, .int .i64 P.cur, .bool P.more])
    have HU6 : Hid (LiesP ws (.agg #[.bool P.reset, .slice a3 P.tree.length b3, .slice a4 P.cos.length b4, .int .i64 P.cur, .bool P.more]) P) := (by rw [hws]; exact (page_set HWX5.out HU.out).2 : LiesP ws (.agg #[.bool P.reset, .slice a3 P.tree.length b3, .slice a4 P.cos.length b4, .int .i64 P.cur, .bool P.more]) P)
    have HP6 : Hid (LiesP ws (.agg #[.bool P.reset, .slice x1 P.tree.length y1, .slice x2 P.cos.length y2, .int .i64 P.cur, .bool P.more]) P) := (by rw [hws]; exact (page_set HWX5.out HP5.out).2 : LiesP ws (.agg #[.bool P.reset, .slice x1 P.tree.length y1, .slice x2 P.cos.length y2, .int .i64 P.cur, .bool P.more]) P)
    have HPX6 : Hid (Cs ws w1.heap.size [.bool P.reset, .slice x1 P.tree.length y1, .slice x2 P.cos.length y2, .int .i64 P.cur, .bool P.more]) := (by
      have hne : w1.heap.size ≠ w2.heap.size := by omega
      rw [hws]; exact ((((HPX5.out.nb (nb_set _ _ _ _) hne).nb (nb_set _ _ _ _) hne).nb (nb_set _ _ _ _) hne).nb (nb_set _ _ _ _) hne).nb (nb_set _ _ _ _) hne : Cs ws w1.heap.size [.bool P.reset, .slice x1 P.tree.length y1, .slice x2 P.cos.length y2, .int .i64 P.cur, .bool P.more])
    have hb0s : Below w.heap.size w ws := by
      rw [hws]
      exact ((((hb03.setCell (p := ⟨w2.heap.size, 0, none⟩) hle2 _).setCell (p := ⟨w2.heap.size, 1, none⟩) hle2 _).setCell (p := ⟨w2.heap.size, 2, none⟩) hle2 _).setCell (p := ⟨w2.heap.size, 3, none⟩) hle2 _).setCell (p := ⟨w2.heap.size, 4, none⟩) hle2 _
    clear hx2
    go_wp2_with fail
    rw [← hws]
    clear hws y0 y1' y2' y3 y4 g0 g1 g2 g3 g4
    refine (journalBegun_yes _).mono ?_
    rintro e w4 ⟨rfl, hb4⟩
    have HWX7 := hid (HWX6.out.below hb4)
    have HPX7 := hid (HPX6.out.below hb4)
    have HU7 := hid (HU6.out.below hb4)
    have HP7 := hid (HP6.out.below hb4)
    have hb04 := below_tr hb0s hb4
    have p0 := HPX7.out.cell 0 rfl
    have p1 := HPX7.out.cell 1 rfl
    have p2 := HPX7.out.cell 2 rfl
    have p3 := HPX7.out.cell 3 rfl
    have p4 := HPX7.out.cell 4 rfl
    have q0 := HWX7.out.cell 0 rfl
    have q1 := HWX7.out.cell 1 rfl
    have q2 := HWX7.out.cell 2 rfl
    have q3 := HWX7.out.cell 3 rfl
    have q4 := HWX7.out.cell 4 rfl
    go_wp2_with fail
    refine (samePg_yes P _ _ _ HP7.out HU7.out).mono ?_
    rintro e w5 ⟨rfl, hb5⟩
    have hb05 := below_tr hb04 hb5
    go_wp2_with fail
    go_ret
    exact ⟨rfl, hb05⟩
  · have hz : (Jn.chkE J == 0) = false := by simpa using h0
    have hE := Jn.rd_chk (c := c) (m := m) h0
    rw [hE, Jn.rd_bad hE h0] at HRD
    clear hE
    go_enter Tryz.func5, Tryz.ntmps5
    go_wp2_with fail
    rw [← hwz]
    clear hwz
    refine (HRD.out _ (HV.out.below hbz)).mono ?_
    rintro e w1 ⟨r, rfl, hli, hb1⟩
    have HP1 := hid hli.lies
    obtain ⟨vt', vc', rfl, hx1, _, hx2⟩ := hli
    obtain ⟨x1, y1, rfl, _⟩ := hx1
    obtain ⟨x2, y2, rfl⟩ := liesO_shape hx2.lies
    have HB1 := hid (HBX.out.below hb1)
    have hb01 := below_tr hbz hb1
    have HZ0 : Hid (Jn.zeroP.tree.length = 0) := (rfl : Jn.zeroP.tree.length = 0)
    have HZ1 : Hid (Jn.zeroP.cos.length = 0) := (rfl : Jn.zeroP.cos.length = 0)
    obtain ⟨wp, hwp⟩ : ∃ wp, wp = w1.alloc (.cells #[.bool false, .slice x1 0 y1, .slice x2 0 y2, .int .i64 0, .bool false] 40) := ⟨_, rfl⟩
    have hbp : Below w1.heap.size w1 wp := by rw [hwp]; exact (Below.refl _ _).alloc (Nat.le_refl _) _
    have HPX : Hid (Cs wp w1.heap.size [.bool false, .slice x1 0 y1, .slice x2 0 y2, .int .i64 0, .bool false]) := (by rw [hwp]; exact Cs.new _ [.bool false, .slice x1 0 y1, .slice x2 0 y2, .int .i64 0, .bool false] _ : Cs wp w1.heap.size [.bool false, .slice x1 0 y1, .slice x2 0 y2, .int .i64 0, .bool false])
    have HP2 := hid (HP1.out.below hbp)
    have HB2 := hid (HB1.out.below hbp)
    have hb0p := below_tr hb01 hbp
    have c0 := HB1.out.cell 0 rfl
    have c1 := HB1.out.cell 1 rfl
    have c2 := HB1.out.cell 2 rfl
    have hlt1 := HB1.out.lt
    have hne1 : ¬ w.heap.size = w1.heap.size := by omega
    clear hx2
    simp only [Jn.zeroP, List.length_nil]
    go_wp2_with fail
    rw [← hwp]
    clear hwp c0 c1 c2
    refine (checkJournal_any J _ _ (HV.out.below hb0p) HP.out HCS.out).mono ?_
    rintro e w2 ⟨rfl, hb2⟩
    have HPX3 := hid (HPX.out.below hb2)
    have HP3 := hid (HP2.out.below hb2)
    have hb02 := below_tr hb0p hb2
    obtain ⟨wq, hwq⟩ : ∃ wq, wq = w2.alloc (.cells #[.bool false, .slice none 0 0, .slice none 0 0, .int .i64 0, .bool false] 40) := ⟨_, rfl⟩
    have hbq : Below w2.heap.size w2 wq := by rw [hwq]; exact (Below.refl _ _).alloc (Nat.le_refl _) _
    have HWX : Hid (Cs wq w2.heap.size [.bool false, .slice none 0 0, .slice none 0 0, .int .i64 0, .bool false]) := (by rw [hwq]; exact Cs.new _ [.bool false, .slice none 0 0, .slice none 0 0, .int .i64 0, .bool false] _ : Cs wq w2.heap.size [.bool false, .slice none 0 0, .slice none 0 0, .int .i64 0, .bool false])
    have HPX4 := hid (HPX3.out.below hbq)
    have HP4 := hid (HP3.out.below hbq)
    have hb0q := below_tr hb02 hbq
    go_wp2_with fail
    rw [← hwq]
    clear hwq
    refine (journalBegun_yes _).mono ?_
    rintro e w4 ⟨rfl, hb4⟩
    have HWX7 := hid (HWX.out.below hb4)
    have HPX7 := hid (HPX4.out.below hb4)
    have HP7 := hid (HP4.out.below hb4)
    have hb04 := below_tr hb0q hb4
    have p0 := HPX7.out.cell 0 rfl
    have p1 := HPX7.out.cell 1 rfl
    have p2 := HPX7.out.cell 2 rfl
    have p3 := HPX7.out.cell 3 rfl
    have p4 := HPX7.out.cell 4 rfl
    have q0 := HWX7.out.cell 0 rfl
    have q1 := HWX7.out.cell 1 rfl
    have q2 := HWX7.out.cell 2 rfl
    have q3 := HWX7.out.cell 3 rfl
    have q4 := HWX7.out.cell 4 rfl
    go_wp2_with fail
    refine (samePg_yes Jn.zeroP _ _ _ HP7.out (liesP_zero _)).mono ?_
    rintro e w5 ⟨rfl, hb5⟩
    have hb05 := below_tr hb04 hb5
    go_wp2_with fail
    go_ret
    exact ⟨rfl, hb05⟩
end Go.Proofs.YtagdilnbbepccaaGreat
