/- What the laws' journalBegun answers. What the reference's CheckJournal and TreeOf answer; the law JournalChecks. -/
import Derived.Test.YtagdilnbbepccaaGreatJ10
import Derived.Test.YtagdilnbbepccaaGreatJ4
import Derived.Test.YtagdilnbbepccaaGreatMN
set_option linter.unusedSimpArgs false
set_option linter.unusedVariables false
namespace Go.Proofs.YtagdilnbbepccaaGreat
open Go.RowKit

namespace Jn
def kB : ByteArray := ⟨#[107]⟩
def lB : List Pp.Ch := [⟨2, ⟨#[97]⟩, ⟨#[]⟩, ⟨#[120]⟩, 0⟩]
def J0 : Jo := ⟨[], 1, []⟩
def J1 : Jo := ⟨[], 1, [⟨1, kB, lB⟩]⟩
set_option maxRecDepth 100000 in
theorem chk0 : chkE J0 = 0 := by decide
set_option maxRecDepth 100000 in
theorem key0 : Pp.keyB kB.data.toList = true := by decide
set_option maxRecDepth 100000 in
theorem new0 : newE J0 lB = 0 := by decide
theorem com0 : comE J0 kB lB = 0 ∧ comN J0 kB lB = 1 ∧ comR J0 kB lB = J1 := by
  obtain ⟨h1, h2, h3⟩ := com_add (l := lB) chk0 key0 (rfl : hasB J0.cos kB.data.toList = false) new0
  exact ⟨h1, h2, h3⟩
set_option maxRecDepth 100000 in
theorem chk1 : chkE J1 = 0 := by decide
theorem rd1 : rdE J1 0 5 = 0 ∧ rdR J1 0 5 = ⟨false, [], [⟨1, kB, lB⟩], 1, false⟩ := by
  have h := rd_ok (c := 0) (m := 5) chk1 (by decide) (by decide)
  exact ⟨h, by rw [rd_page h (by decide)]; rfl⟩
end Jn

set_option maxRecDepth 100000 in
set_option maxHeartbeats 2000000 in
theorem journalBegun_yes (w : World) : Calls Tryz.prog 12 #[] w fun e w' => e = .returned (.bool true) ∧ Below w.heap.size w w' := by
  obtain ⟨wz, hwz⟩ : ∃ wz, wz = w.alloc (.cells #[.int .i64 2, .string ⟨#[97]⟩, .string ⟨#[]⟩, .string ⟨#[120]⟩, .int .i64 0] 65) := ⟨_, rfl⟩
  have hbz : Below w.heap.size w wz := by rw [hwz]; exact (Below.refl _ _).alloc (Nat.le_refl _) _
  have HL : Hid (LiesC wz (.slice (some ⟨w.heap.size, 0, none⟩) 1 1) Jn.lB) := (⟨some ⟨w.heap.size, 0, none⟩, 1, rfl, Nat.le_refl _, by decide, fun i hi => ⟨w.heap.size, 0, rfl, by rw [hwz]; simp, by
    have h0 : i = 0 := by simp [Jn.lB] at hi; exact hi
    subst h0
    have hC : Cs wz w.heap.size [.int .i64 2, .string ⟨#[97]⟩, .string ⟨#[]⟩, .string ⟨#[120]⟩, .int .i64 0] := by rw [hwz]; exact Cs.new w [.int .i64 2, .string ⟨#[97]⟩, .string ⟨#[]⟩, .string ⟨#[120]⟩, .int .i64 0] _
    exact ⟨hC.cell 0 rfl, hC.cell 1 rfl, hC.cell 2 rfl, hC.cell 3 rfl, hC.cell 4 rfl⟩⟩⟩ : LiesC wz (.slice (some ⟨w.heap.size, 0, none⟩) 1 1) Jn.lB)
  have HJ0 : Hid (LiesJ wz (.agg #[.slice none 0 0, .int .i64 1, .slice none 0 0]) Jn.J0) := (⟨_, _, rfl, lies_nil _, liesO_nil _⟩ : LiesJ wz (.agg #[.slice none 0 0, .int .i64 1, .slice none 0 0]) Jn.J0)
  have HSL : Hid (SizedC 150000000000000 Jn.lB) := (fun c hc => by simp only [Jn.lB, List.mem_singleton] at hc; subst hc; decide : SizedC 150000000000000 Jn.lB)
  have HS0 : Hid (Sized ([] : List En)) := (fun e he => by cases he)
  have HSO : Hid (SizedO 150000000000000 Jn.J1.cos) := (fun c hc => by simp only [Jn.J1, List.mem_singleton] at hc; subst hc; exact ⟨by decide, HSL.out⟩ : SizedO 150000000000000 Jn.J1.cos)
  go_enter Tryz.func12, Tryz.ntmps12
  go_wp2_with fail
  rw [← hwz]
  clear hwz
  refine (jcommit_any Jn.J0 _ Jn.kB Jn.lB _ _ HJ0.out HL.out HS0.out (fun c hc => by cases hc) HSL.out (by decide)).mono ?_
  rintro e w1 ⟨r, rfl, hJ1, hb1⟩
  rw [Jn.com0.1, Jn.com0.2.1]
  rw [Jn.com0.2.2] at hJ1
  have HJ1 := hid hJ1.lies
  obtain ⟨vb, vc, rfl, hvb, _, hvc⟩ := hJ1
  obtain ⟨ba, bcap, rfl, _⟩ := hvb
  obtain ⟨ca, ccap, rfl⟩ := liesO_shape hvc.lies
  clear hvc
  have hb01 := below_tr hbz hb1
  have hb2 : Below w1.heap.size w1 (w1.alloc (.cells #[.slice ba Jn.J1.base.length bcap, .int .i64 Jn.J1.first, .slice ca Jn.J1.cos.length ccap] 25)) := (Below.refl _ _).alloc (Nat.le_refl _) _
  have HJ2 := hid (HJ1.out.below hb2)
  have hb02 := below_tr hb01 hb2
  go_wp2_with fail
  refine (jread_any Jn.J1 _ 0 5 _ HJ2.out HS0.out HSO.out).mono ?_
  rintro e w3 ⟨r, rfl, hP, hb3⟩
  rw [Jn.rd1.1]
  rw [Jn.rd1.2] at hP
  obtain ⟨vt, vc, rfl, hvt, _, hvc⟩ := hP
  obtain ⟨ta, tcap, rfl, _⟩ := hvt
  obtain ⟨pa, pcap, rfl⟩ := liesO_shape hvc.lies
  clear hvc
  have hb03 := below_tr hb02 hb3
  simp only [List.length_cons, List.length_nil, Nat.zero_add]
  go_wp2_with fail
  go_ret
  exact ⟨rfl, hb03.alloc hb03.size _⟩
end Go.Proofs.YtagdilnbbepccaaGreat
set_option linter.unusedSimpArgs false
set_option linter.unusedVariables false
namespace Go.Proofs.YtagdilnbbepccaaGreat
open Go.RowKit

set_option maxRecDepth 100000 in
set_option maxHeartbeats 1000000 in
theorem checkJournal_any (J : Jo) (v : Value) (w : World) (hv : LiesJ w v J) (hp : ∀ e ∈ J.base, e.path.size ≤ 1000000000) (hcs : SizedO 1000000000 J.cos) :
    Calls Tryz.prog 10 #[v] w fun e w' => e = .returned (.int .i64 (Jn.chkE J)) ∧ Below w.heap.size w w' := by
  have HV := hid hv
  have HP := hid hp
  have HCS := hid hcs
  obtain ⟨vb, vc, rfl, hvb, hvc⟩ := hv
  obtain ⟨ba, bcap, rfl, _⟩ := hvb
  obtain ⟨ca, ccap, rfl, _⟩ := hvc
  clear hp hcs
  have hbw : Below w.heap.size w (w.alloc (.cells #[.slice ba J.base.length bcap, .int .i64 J.first, .slice ca J.cos.length ccap] 25)) := (Below.refl _ _).alloc (Nat.le_refl _) _
  go_enter Tryz.func10, Tryz.ntmps10
  go_wp2_with fail
  refine (openJournal_any J _ _ (HV.out.below hbw) HP.out HCS.out).mono ?_
  rintro e w1 ⟨p, rfl, _, hb1⟩
  have hb01 := below_tr hbw hb1
  go_wp2_with fail
  go_ret
  exact ⟨rfl, hb01⟩

set_option maxRecDepth 100000 in
set_option maxHeartbeats 1000000 in
theorem treeOf_any (J : Jo) (v : Value) (w : World) (hv : LiesJ w v J) (hp : ∀ e ∈ J.base, e.path.size ≤ 1000000000) (hcs : SizedO 1000000000 J.cos) (h0 : Jn.chkE J = 0) :
    Calls Tryz.prog 11 #[v] w fun e w' => ∃ r, e = .returned r ∧ Lies w' r (Jn.tree J) ∧ Below w.heap.size w w' := by
  have HV := hid hv
  have HP := hid hp
  have HCS := hid hcs
  have H0 := hid h0
  have HTT := hid (Jn.tree_trAt h0)
  obtain ⟨vb, vc, rfl, hvb, hvc⟩ := hv
  obtain ⟨ba, bcap, rfl, _⟩ := hvb
  obtain ⟨ca, ccap, rfl, _⟩ := hvc
  clear hp hcs h0
  have hbw : Below w.heap.size w (w.alloc (.cells #[.slice ba J.base.length bcap, .int .i64 J.first, .slice ca J.cos.length ccap] 25)) := (Below.refl _ _).alloc (Nat.le_refl _) _
  go_enter Tryz.func11, Tryz.ntmps11
  go_wp2_with fail
  refine (openJournal_any J _ _ (HV.out.below hbw) HP.out HCS.out).mono ?_
  rintro e w1 ⟨p, rfl, hT, hb1⟩
  obtain ⟨a, cap, rfl, hc1, hc2, hat⟩ := hT H0.out
  obtain ⟨b, o, u, rfl, hb, hcell, hli⟩ := hat J.cos.length (by omega)
  rw [← HTT.out] at hli
  have HLI := hid hli
  obtain ⟨ua, ucap, rfl, _⟩ := hli
  have hb01 := below_tr hbw hb1
  have e1 : IntKind.i64.wrap (((J.cos.length + 1 : Nat) : Int) - 1) = (J.cos.length : Int) := by rw [IntKind.wrap_i64]; omega
  have e2 : (J.cos.length : Int) < ((J.cos.length + 1 : Nat) : Int) := by omega
  clear hT hat
  go_wp2_with fail
  go_ret
  exact ⟨_, rfl, HLI.out, hb01⟩

set_option maxRecDepth 100000 in
set_option maxHeartbeats 2000000 in
theorem journalChecks_walk (J : Jo) (v : Value) (w : World) (hv : LiesJ w v J) (hp : ∀ e ∈ J.base, e.path.size ≤ 1000000000 ∧ e.text.size ≤ 1000000000) (hcs : SizedO 1000000000 J.cos) :
    Calls Tryz.prog 3 #[v] w fun e w' => e = .returned (.bool true) ∧ Below w.heap.size w w' := by
  have HV := hid hv
  have HP : Hid (∀ e ∈ J.base, e.path.size ≤ 1000000000) := (fun e he => (hp e he).1 : ∀ e ∈ J.base, e.path.size ≤ 1000000000)
  have HS : Hid (Sized J.base) := (fun e he => ⟨by have := (hp e he).1; omega, by have := (hp e he).2; omega⟩ : Sized J.base)
  have HCS := hid hcs
  have HCS2 := hid (hcs.mono (by decide : 1000000000 ≤ 150000000000000))
  obtain ⟨vb, vc, rfl, hvb, hvc⟩ := hv
  obtain ⟨ba, bcap, rfl, _⟩ := hvb
  obtain ⟨ca, ccap, rfl, _⟩ := hvc
  clear hp hcs
  obtain ⟨wz, hwz⟩ : ∃ wz, wz = w.alloc (.cells #[.slice ba J.base.length bcap, .int .i64 J.first, .slice ca J.cos.length ccap] 25) := ⟨_, rfl⟩
  have hbz : Below w.heap.size w wz := by rw [hwz]; exact (Below.refl _ _).alloc (Nat.le_refl _) _
  have HBX : Hid (Cs wz w.heap.size [.slice ba J.base.length bcap, .int .i64 J.first, .slice ca J.cos.length ccap]) := (by rw [hwz]; exact Cs.new _ [.slice ba J.base.length bcap, .int .i64 J.first, .slice ca J.cos.length ccap] _ : Cs wz w.heap.size [.slice ba J.base.length bcap, .int .i64 J.first, .slice ca J.cos.length ccap])
  by_cases h0 : Jn.chkE J = 0
  · have H0 := hid h0
    clear h0
    go_enter Tryz.func3, Tryz.ntmps3
    go_wp2_with fail
    rw [← hwz]
    clear hwz
    refine (jtree_any J _ _ (HV.out.below hbz) HS.out HCS2.out).mono ?_
    rintro e w1 ⟨r, rfl, hli, _, hb1⟩
    have HL1 := hid hli
    have HB1 := hid (HBX.out.below hb1)
    have c0 := HB1.out.cell 0 rfl
    have c1 := HB1.out.cell 1 rfl
    have c2 := HB1.out.cell 2 rfl
    have hb01 := below_tr hbz hb1
    clear hli
    go_wp2_with fail
    refine (checkJournal_any J _ _ (HV.out.below hb01) HP.out HCS.out).mono ?_
    rintro e w2 ⟨rfl, hb2⟩
    rw [H0.out]
    have HL2 := hid (HL1.out.below hb2)
    have HB2 := hid (HB1.out.below hb2)
    clear c0 c1 c2
    have c0 := HB2.out.cell 0 rfl
    have c1 := HB2.out.cell 1 rfl
    have c2 := HB2.out.cell 2 rfl
    have hb02 := below_tr hb01 hb2
    go_wp2_with fail
    refine (treeOf_any J _ _ (HV.out.below hb02) HP.out HCS.out H0.out).mono ?_
    rintro e w3 ⟨u, rfl, hu, hb3⟩
    have HU3 := hid hu
    have HL3 := hid (HL2.out.below hb3)
    have HB3 := hid (HB2.out.below hb3)
    have hb03 := below_tr hb02 hb3
    clear hu c0 c1 c2
    go_wp2_with fail
    refine (journalBegun_yes _).mono ?_
    rintro e w4 ⟨rfl, hb4⟩
    have HU4 := hid (HU3.out.below hb4)
    have HL4 := hid (HL3.out.below hb4)
    have HB4 := hid (HB3.out.below hb4)
    have hb04 := below_tr hb03 hb4
    have c0 := HB4.out.cell 0 rfl
    have c1 := HB4.out.cell 1 rfl
    have c2 := HB4.out.cell 2 rfl
    go_wp2_with fail
    refine (jcheck_any J _ _ (HV.out.below hb04) HS.out HCS2.out).mono ?_
    rintro e w5 ⟨rfl, hb5⟩
    rw [H0.out]
    have HU5 := hid (HU4.out.below hb5)
    have HL5 := hid (HL4.out.below hb5)
    have hb05 := below_tr hb04 hb5
    clear c0 c1 c2
    rw [H0.out] at HL5
    go_wp2_with fail
    refine (treeIs_yes (Jn.tree J) [] r u 0 _ HL5.out (fun _ => HU5.out)).mono ?_
    rintro e w6 ⟨rfl, hb6⟩
    have hb06 := below_tr hb05 hb6
    go_wp2_with fail
    go_ret
    exact ⟨rfl, hb06⟩
  · have hz : (Jn.chkE J == 0) = false := by simpa using h0
    go_enter Tryz.func3, Tryz.ntmps3
    go_wp2_with fail
    rw [← hwz]
    clear hwz
    refine (jtree_any J _ _ (HV.out.below hbz) HS.out HCS2.out).mono ?_
    rintro e w1 ⟨r, rfl, hli, _, hb1⟩
    have HL1 := hid hli
    have HB1 := hid (HBX.out.below hb1)
    have c0 := HB1.out.cell 0 rfl
    have c1 := HB1.out.cell 1 rfl
    have c2 := HB1.out.cell 2 rfl
    have hb01 := below_tr hbz hb1
    clear hli
    go_wp2_with fail
    refine (checkJournal_any J _ _ (HV.out.below hb01) HP.out HCS.out).mono ?_
    rintro e w2 ⟨rfl, hb2⟩
    have HL2 := hid (HL1.out.below hb2)
    have HB2 := hid (HB1.out.below hb2)
    have hb02 := below_tr hb01 hb2
    clear c0 c1 c2
    go_wp2_with fail
    refine (journalBegun_yes _).mono ?_
    rintro e w4 ⟨rfl, hb4⟩
    have HL4 := hid (HL2.out.below hb4)
    have HB4 := hid (HB2.out.below hb4)
    have hb04 := below_tr hb02 hb4
    have c0 := HB4.out.cell 0 rfl
    have c1 := HB4.out.cell 1 rfl
    have c2 := HB4.out.cell 2 rfl
    go_wp2_with fail
    refine (jcheck_any J _ _ (HV.out.below hb04) HS.out HCS2.out).mono ?_
    rintro e w5 ⟨rfl, hb5⟩
    have HL5 := hid (HL4.out.below hb5)
    have hb05 := below_tr hb04 hb5
    clear c0 c1 c2
    go_wp2_with fail
    refine (treeIs_yes (Jn.tree J) [] r _ (Jn.chkE J) _ HL5.out (fun h => absurd h h0)).mono ?_
    rintro e w6 ⟨rfl, hb6⟩
    have hb06 := below_tr hb05 hb6
    go_wp2_with fail
    go_ret
    exact ⟨rfl, hb06⟩
end Go.Proofs.YtagdilnbbepccaaGreat
