/- What the laws' journalBegun answers. -/
import Derived.Test.YtagdilnbbepccabJ10
set_option linter.unusedSimpArgs false
set_option linter.unusedVariables false
namespace Go.Proofs.Ytagdilnbbepccab
open Go.RowKit

namespace Jn
def kB : ByteArray := ⟨#[107]⟩
def lB : List Pp.Ch := [⟨2, ⟨#[97]⟩, ⟨#[]⟩, ⟨#[120]⟩, 0⟩]
def J0 : Jo := ⟨[], 1, []⟩
def J1 : Jo := ⟨[], 1, [⟨1, kB, lB⟩]⟩
set_option maxRecDepth 100000 in
theorem chk0 : chkE J0 = 0 := by decide
set_option maxRecDepth 100000 in
theorem key0 : Pp.keyB kB.data.toList = true := by decide
set_option maxRecDepth 100000 in
theorem new0 : newE J0 lB = 0 := by decide
theorem com0 : comE J0 kB lB = 0 ∧ comN J0 kB lB = 1 ∧ comR J0 kB lB = J1 := by
  obtain ⟨h1, h2, h3⟩ := com_add (l := lB) chk0 key0 (rfl : hasB J0.cos kB.data.toList = false) new0
  exact ⟨h1, h2, h3⟩
set_option maxRecDepth 100000 in
theorem chk1 : chkE J1 = 0 := by decide
theorem rd1 : rdE J1 0 5 = 0 ∧ rdR J1 0 5 = ⟨false, [], [⟨1, kB, lB⟩], 1, false⟩ := by
  have h := rd_ok (c := 0) (m := 5) chk1 (by decide) (by decide)
  exact ⟨h, by rw [rd_page h (by decide)]; rfl⟩
end Jn

set_option maxRecDepth 100000 in
set_option maxHeartbeats 2000000 in
theorem journalBegun_yes (w : World) : Calls Try.prog 4 #[] w fun e w' => e = .returned (.bool true) ∧ Below w.heap.size w w' := by
  obtain ⟨wz, hwz⟩ : ∃ wz, wz = w.alloc (.cells #[.int .i64 2, .string ⟨#[97]⟩, .string ⟨#[]⟩, .string ⟨#[120]⟩, .int .i64 0] 35) := ⟨_, rfl⟩
  have hbz : Below w.heap.size w wz := by rw [hwz]; exact (Below.refl _ _).alloc (Nat.le_refl _) _
  have HL : Hid (LiesC wz (.slice (some ⟨w.heap.size, 0, none⟩) 1 1) Jn.lB) := (⟨some ⟨w.heap.size, 0, none⟩, 1, rfl, Nat.le_refl _, by decide, fun i hi => ⟨w.heap.size, 0, rfl, by rw [hwz]; simp, by
    have h0 : i = 0 := by simp [Jn.lB] at hi; exact hi
    subst h0
    have hC : Cs wz w.heap.size [.int .i64 2, .string ⟨#[97]⟩, .string ⟨#[]⟩, .string ⟨#[120]⟩, .int .i64 0] := by rw [hwz]; exact Cs.new w [.int .i64 2, .string ⟨#[97]⟩, .string ⟨#[]⟩, .string ⟨#[120]⟩, .int .i64 0] _
    exact ⟨hC.cell 0 rfl, hC.cell 1 rfl, hC.cell 2 rfl, hC.cell 3 rfl, hC.cell 4 rfl⟩⟩⟩ : LiesC wz (.slice (some ⟨w.heap.size, 0, none⟩) 1 1) Jn.lB)
  have HJ0 : Hid (LiesJ wz (.agg #[.slice none 0 0, .int .i64 1, .slice none 0 0]) Jn.J0) := (⟨_, _, rfl, lies_nil _, liesO_nil _⟩ : LiesJ wz (.agg #[.slice none 0 0, .int .i64 1, .slice none 0 0]) Jn.J0)
  have HSL : Hid (SizedC 150000000000000 Jn.lB) := (fun c hc => by simp only [Jn.lB, List.mem_singleton] at hc; subst hc; decide : SizedC 150000000000000 Jn.lB)
  have HS0 : Hid (Sized ([] : List En)) := (fun e he => by cases he)
  have HSO : Hid (SizedO 150000000000000 Jn.J1.cos) := (fun c hc => by simp only [Jn.J1, List.mem_singleton] at hc; subst hc; exact ⟨by decide, HSL.out⟩ : SizedO 150000000000000 Jn.J1.cos)
  go_enter Try.func4, Try.ntmps4
  go_wp2_with fail
  rw [← hwz]
  clear hwz
  refine (jcommit_any Jn.J0 _ Jn.kB Jn.lB _ _ HJ0.out HL.out HS0.out (fun c hc => by cases hc) HSL.out (by decide)).mono ?_
  rintro e w1 ⟨r, rfl, hJ1, hb1⟩
  rw [Jn.com0.1, Jn.com0.2.1]
  rw [Jn.com0.2.2] at hJ1
  have HJ1 := hid hJ1.lies
  obtain ⟨vb, vc, rfl, hvb, _, hvc⟩ := hJ1
  obtain ⟨ba, bcap, rfl, _⟩ := hvb
  obtain ⟨ca, ccap, rfl⟩ := liesO_shape hvc.lies
  clear hvc
  have hb01 := below_tr hbz hb1
  have hb2 : Below w1.heap.size w1 (w1.alloc (.cells #[.slice ba Jn.J1.base.length bcap, .int .i64 Jn.J1.first, .slice ca Jn.J1.cos.length ccap] 25)) := (Below.refl _ _).alloc (Nat.le_refl _) _
  have HJ2 := hid (HJ1.out.below hb2)
  have hb02 := below_tr hb01 hb2
  go_wp2_with fail
  refine (jread_any Jn.J1 _ 0 5 _ HJ2.out HS0.out HSO.out).mono ?_
  rintro e w3 ⟨r, rfl, hP, hb3⟩
  rw [Jn.rd1.1]
  rw [Jn.rd1.2] at hP
  obtain ⟨vt, vc, rfl, hvt, _, hvc⟩ := hP
  obtain ⟨ta, tcap, rfl, _⟩ := hvt
  obtain ⟨pa, pcap, rfl⟩ := liesO_shape hvc.lies
  clear hvc
  have hb03 := below_tr hb02 hb3
  simp only [List.length_cons, List.length_nil, Nat.zero_add]
  go_wp2_with fail
  go_ret
  exact ⟨rfl, hb03.alloc hb03.size _⟩
end Go.Proofs.Ytagdilnbbepccab
