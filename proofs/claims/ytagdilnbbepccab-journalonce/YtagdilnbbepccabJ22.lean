/- The law JournalOnce. -/
import Derived.Test.YtagdilnbbepccabJOnc
import Derived.Test.YtagdilnbbepccabJ9
import Derived.Test.YtagdilnbbepccabJB
import Derived.Test.YtagdilnbbepccabMP
set_option linter.unusedSimpArgs false
set_option linter.unusedVariables false
namespace Go.Proofs.Ytagdilnbbepccab
open Go.RowKit

theorem SizedC.mono {B B' : Nat} {l : List Pp.Ch} (h : SizedC B l) (hb : B ≤ B') : SizedC B' l := fun c hc => ⟨Nat.le_trans (h c hc).1 hb, Nat.le_trans (h c hc).2.1 hb, Nat.le_trans (h c hc).2.2 hb⟩
namespace Jn
theorem com_sized {J : Jo} {key : ByteArray} {a : List Pp.Ch} {B : Nat} (h : comE J key a = 0) (hc : SizedO B J.cos) (hk : key.size ≤ B) (ha : SizedC B a) : SizedO B (comR J key a).cos := by
  rw [comR, if_neg (fun x => x h)]
  split
  · exact hc
  · obtain ⟨⟨r, hr, hm⟩, _⟩ := add_mem (J := J) (key := key) (l := a)
    rw [hr]
    intro c hcm
    rcases List.mem_append.1 hcm with hcm | hcm
    · exact hc c (hm c hcm)
    · rw [List.mem_singleton] at hcm
      rw [hcm]; exact ⟨hk, ha⟩
end Jn

set_option maxRecDepth 100000 in
set_option maxHeartbeats 2000000 in
theorem journalOnce_walk (J : Jo) (v : Value) (key : ByteArray) (a b : List Pp.Ch) (xa xb : Value) (w : World) (hv : LiesJ w v J) (ha : LiesC w xa a) (hb : LiesC w xb b) (hs : Sized J.base) (hcs : SizedO 150000000000000 J.cos) (hsa : SizedC 150000000000000 a) (hsb : SizedC 150000000000000 b) (hke : key.size ≤ 140737488351232) :
    Calls Try.prog 3 #[v, .string key, xa, xb] w fun e w' => e = .returned (.bool true) ∧ Below w.heap.size w w' := by
  have HV := hid hv
  have HA := hid ha
  have HB := hid hb
  have HS := hid hs
  have HCS := hid hcs
  have HSA := hid hsa
  have HSB := hid hsb
  have HKE : Hid (key.size ≤ maxLen) := (by unfold maxLen; omega : key.size ≤ maxLen)
  obtain ⟨vb, vc, rfl, hvb, hvc⟩ := hv
  obtain ⟨ba, bcap, rfl, _⟩ := hvb
  obtain ⟨ca, ccap, rfl, _⟩ := hvc
  obtain ⟨aa, acap, rfl, _⟩ := ha
  obtain ⟨ab, abcap, rfl, _⟩ := hb
  obtain ⟨wz, hwz⟩ : ∃ wz, wz = w.alloc (.cells #[.slice ba J.base.length bcap, .int .i64 J.first, .slice ca J.cos.length ccap] 25) := ⟨_, rfl⟩
  have hbz : Below w.heap.size w wz := by rw [hwz]; exact (Below.refl _ _).alloc (Nat.le_refl _) _
  have HBX : Hid (Cs wz w.heap.size [.slice ba J.base.length bcap, .int .i64 J.first, .slice ca J.cos.length ccap]) := (by rw [hwz]; exact Cs.new _ [.slice ba J.base.length bcap, .int .i64 J.first, .slice ca J.cos.length ccap] _ : Cs wz w.heap.size [.slice ba J.base.length bcap, .int .i64 J.first, .slice ca J.cos.length ccap])
  have HC1 := hid (fun (W : World) (h : LiesJ W (.agg #[.slice ba J.base.length bcap, .int .i64 J.first, .slice ca J.cos.length ccap]) J) (h2 : LiesC W (.slice aa a.length acap) a) => jcommit_any J _ key a _ W h h2 HS.out HCS.out HSA.out HKE.out)
  by_cases h0 : Jn.comE J key a = 0
  · obtain ⟨g1, g2, g3, g4⟩ := Jn.com_again h0 b
    have hso := Jn.com_sized h0 hcs (by omega : key.size ≤ 150000000000000) hsa
    have hsx : Sized (Jn.comR J key a).base := Pp.good_sized ((Pp.good_iff _).1 (Jn.chk_parts g1).1)
    have HCK := hid (fun (W : World) (V : Value) (h : LiesJ W V (Jn.comR J key a)) => jcheck_any (Jn.comR J key a) V W h hsx hso)
    have HC2 := hid (fun (W : World) (V : Value) (h : LiesJ W V (Jn.comR J key a)) (h2 : LiesC W (.slice ab b.length abcap) b) => jcommit_any (Jn.comR J key a) V key b _ W h h2 hsx hso HSB.out HKE.out)
    rw [g2, g3, g4] at HC2
    rw [g1] at HCK
    rw [h0] at HC1
    clear g1 g2 g3 g4 hso hsx h0 hs hcs hsa hsb
    generalize Jn.comR J key a = X at HC1 HC2 HCK
    generalize Jn.comN J key a = N at HC1 HC2
    go_enter Try.func3, Try.ntmps3
    go_wp2_with fail
    rw [← hwz]
    clear hwz
    refine (journalBegun_yes _).mono ?_
    rintro e w1 ⟨rfl, hb1⟩
    have HB1 := hid (HBX.out.below hb1)
    have c0 := HB1.out.cell 0 rfl
    have c1 := HB1.out.cell 1 rfl
    have c2 := HB1.out.cell 2 rfl
    have hb01 := below_tr hbz hb1
    go_wp2_with fail
    refine (HC1.out _ (HV.out.below hb01) (HA.out.below hb01)).mono ?_
    rintro e w2 ⟨r, rfl, hli, hb2⟩
    have HX2 := hid hli.lies
    obtain ⟨vt', vc', rfl, hx1, _, hx2⟩ := hli
    obtain ⟨x1, y1, rfl, _⟩ := hx1
    obtain ⟨x2, y2, rfl⟩ := liesO_shape hx2.lies
    have hb02 := below_tr hb01 hb2
    obtain ⟨wp, hwp⟩ : ∃ wp, wp = w2.alloc (.cells #[.slice x1 X.base.length y1, .int .i64 X.first, .slice x2 X.cos.length y2] 25) := ⟨_, rfl⟩
    have hbp : Below w2.heap.size w2 wp := by rw [hwp]; exact (Below.refl _ _).alloc (Nat.le_refl _) _
    have HPX : Hid (Cs wp w2.heap.size [.slice x1 X.base.length y1, .int .i64 X.first, .slice x2 X.cos.length y2]) := (by rw [hwp]; exact Cs.new _ [.slice x1 X.base.length y1, .int .i64 X.first, .slice x2 X.cos.length y2] _ : Cs wp w2.heap.size [.slice x1 X.base.length y1, .int .i64 X.first, .slice x2 X.cos.length y2])
    have HX3 := hid (HX2.out.below hbp)
    have hb0p := below_tr hb02 hbp
    clear hx2 c0 c1 c2
    go_wp2_with fail
    rw [← hwp]
    clear hwp
    refine (HC2.out _ _ HX3.out (HB.out.below hb0p)).mono ?_
    rintro e w3 ⟨r, rfl, hli, hb3⟩
    have HY3 := hid hli.lies
    obtain ⟨vt', vc', rfl, hx1, _, hx2⟩ := hli
    obtain ⟨x3, y3, rfl, _⟩ := hx1
    obtain ⟨x4, y4, rfl⟩ := liesO_shape hx2.lies
    have hb03 := below_tr hb0p hb3
    have HPX3 := hid (HPX.out.below hb3)
    have HX4 := hid (HX3.out.below hb3)
    obtain ⟨wq, hwq⟩ : ∃ wq, wq = w3.alloc (.cells #[.slice x3 X.base.length y3, .int .i64 X.first, .slice x4 X.cos.length y4] 25) := ⟨_, rfl⟩
    have hbq : Below w3.heap.size w3 wq := by rw [hwq]; exact (Below.refl _ _).alloc (Nat.le_refl _) _
    have HX5 := hid (HX4.out.below hbq)
    have HY5 := hid (HY3.out.below hbq)
    have HPX5 := hid (HPX3.out.below hbq)
    have hb0q := below_tr hb03 hbq
    have hltp := HPX3.out.lt
    have hnep : ¬ w2.heap.size = w3.heap.size := by omega
    have p0 := HPX3.out.cell 0 rfl
    have p1 := HPX3.out.cell 1 rfl
    have p2 := HPX3.out.cell 2 rfl
    clear hx2
    go_wp2_with fail
    rw [← hwq]
    clear hwq p0 p1 p2
    refine (sameJ_yes X _ _ _ HX5.out HY5.out).mono ?_
    rintro e w4 ⟨rfl, hb4⟩
    have HX6 := hid (HX5.out.below hb4)
    have HPX6 := hid (HPX5.out.below hb4)
    have hb04 := below_tr hb0q hb4
    have p0 := HPX6.out.cell 0 rfl
    have p1 := HPX6.out.cell 1 rfl
    have p2 := HPX6.out.cell 2 rfl
    go_wp2_with fail
    refine (HCK.out _ _ HX6.out).mono ?_
    rintro e w5 ⟨rfl, hb5⟩
    have hb05 := below_tr hb04 hb5
    go_wp2_with fail
    go_ret
    exact ⟨rfl, hb05⟩
  · have hz : (Jn.comE J key a == 0) = false := by simpa using h0
    obtain ⟨hN, hR⟩ := Jn.com_bad h0
    rw [hN, hR] at HC1
    clear hN hR hs hcs hsa hsb
    go_enter Try.func3, Try.ntmps3
    go_wp2_with fail
    rw [← hwz]
    clear hwz
    refine (journalBegun_yes _).mono ?_
    rintro e w1 ⟨rfl, hb1⟩
    have HB1 := hid (HBX.out.below hb1)
    have c0 := HB1.out.cell 0 rfl
    have c1 := HB1.out.cell 1 rfl
    have c2 := HB1.out.cell 2 rfl
    have hb01 := below_tr hbz hb1
    go_wp2_with fail
    refine (HC1.out _ (HV.out.below hb01) (HA.out.below hb01)).mono ?_
    rintro e w2 ⟨r, rfl, hli, hb2⟩
    obtain ⟨vt', vc', rfl, hx1, _, hx2⟩ := hli
    obtain ⟨x1, y1, rfl, _⟩ := hx1
    obtain ⟨x2, y2, rfl⟩ := liesO_shape hx2.lies
    have hb02 := below_tr hb01 hb2
    have hbp := hb02.alloc hb02.size (.cells #[.slice x1 Jn.zeroJ.base.length y1, .int .i64 Jn.zeroJ.first, .slice x2 Jn.zeroJ.cos.length y2] 25)
    clear hx2 c0 c1 c2
    go_wp2_with fail
    go_ret
    exact ⟨rfl, hbp⟩
end Go.Proofs.Ytagdilnbbepccab
