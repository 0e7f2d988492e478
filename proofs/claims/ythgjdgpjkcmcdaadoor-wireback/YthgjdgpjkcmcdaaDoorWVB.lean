/- The program's reader: numbers, counts, texts; it gives up by a panic. -/
import Derived.Test.YthgjdgpjkcmcdaaDoorWVA
import Derived.Test.YthgjdgpjkcmcdaaDoorShelfA
import Derived.Recover
import Derived.Lib.SlicesS
import Derived.WalkLawsBesides
import Derived.Deep.QuietTactic
import Derived.BigQuiet
import Derived.RegionTactic
import Derived.Test.YthgjdgpjkcmcdaaDoorShelf
import Derived.WalkKit
import Derived.WalkSpells
import Derived.Handy
import Derived.Lib.SmallJoins
import Derived.Deep.RegionHeld3
import Derived.Deep.Cut
import Derived.Deep.DeepCutAuto
set_option linter.unusedSimpArgs false
set_option linter.unusedVariables false
namespace Go.Proofs.YthgjdgpjkcmcdaaDoor
open Go.RowKit

/-- What the program reads of the library's variables. -/
structure VarsW (W : World) : Prop where
 pow : PowTab W
 syn : ∃ tp p, W.var? Tryd.prog "strconv.ErrSyntax" = some #[.iface tp p]
 rng : ∃ tp p, W.var? Tryd.prog "strconv.ErrRange" = some #[.iface tp p]
theorem Tryd.synAt : Tryd.prog.globalNamed "strconv.ErrSyntax" = some 1 := by kernel_rfl
theorem Tryd.rngAt : Tryd.prog.globalNamed "strconv.ErrRange" = some 2 := by kernel_rfl
theorem VarsW.block {W W' : World} (h : VarsW W) (hb : ∀ k, k < 6 → W'.heap[k]? = W.heap[k]?) : VarsW W' := by
 obtain ⟨h1, h2, h3⟩ := h
 refine ⟨?_, ?_, ?_⟩
 · unfold PowTab Lib.TabIs World.var? at h1 ⊢
   rw [Tryd.powAt] at h1 ⊢
   simp only [Option.bind_some] at h1 ⊢
   rw [hb 3 (by omega)]
   exact h1
 · unfold World.var? at h2 ⊢
   rw [Tryd.synAt] at h2 ⊢
   simp only [Option.bind_some] at h2 ⊢
   rw [hb 1 (by omega)]
   exact h2
 · unfold World.var? at h3 ⊢
   rw [Tryd.rngAt] at h3 ⊢
   simp only [Option.bind_some] at h3 ⊢
   rw [hb 2 (by omega)]
   exact h3
theorem VarsW.belowB {B : Nat} {W W' : World} (h : VarsW W) (h3 : 5 < B) (hb : Below B W W') : VarsW W' := h.block (fun k hk => hb.block k (by omega))
theorem VarsW.nb {b : Nat} {W W' : World} (h : VarsW W) (hb : 5 < b) (h6 : 5 < W.heap.size) (hw : W.grownBy W' (some b)) : VarsW W' := h.block (fun k hk => hw.block k (by omega) (fun e => by injection e; omega))
/-- A reader in a block of its own: what is not read yet. -/
def Rd (b : Nat) (l : List UInt8) (w : World) : Prop := w.heap[b]? = some (.cells #[.string ⟨l.toArray⟩] 99 (0, 0))
theorem Rd.cell {b : Nat} {l : List UInt8} {w : World} (h : Rd b l w) : w.cell? ⟨b, 0, none⟩ = some (.string ⟨l.toArray⟩) := by rw [Lib.cell_of_heap h]; rfl
theorem Rd.fr {b : Nat} {l : List UInt8} {w : World} (h : Rd b l w) : w.frozen? ⟨b, 0, none⟩ = false := Lib.frozen_of_heap h 0
theorem Rd.lt {b : Nat} {l : List UInt8} {w : World} (h : Rd b l w) : b < w.heap.size := heap_lt h
theorem Rd.below {b : Nat} {l : List UInt8} {w w' : World} (h : Rd b l w) (hb : Below w.heap.size w w') : Rd b l w' := (hb.block b h.lt).trans h
theorem Rd.set {b : Nat} {l r : List UInt8} {w : World} (h : Rd b l w) : Rd b r (w.setCell ⟨b, 0, none⟩ (.string ⟨r.toArray⟩)) := by
 unfold Rd at h ⊢
 simp [World.setCell, Array.getElem?_modify, h]
/-- It gave up. -/
abbrev GaveUp (e : Ending) : Prop := e = .panicked [{ v := .iface 25 (.int .i64 1), recovered := false }]
theorem nb_below {w w' : World} (b : Nat) (h : Below w.heap.size w w') : w.grownBy w' (some b) := ⟨h.os, h.tape, h.output, h.size, fun k hk _ => h.block k hk⟩
theorem nb_tr {a c d : World} {b : Nat} (h : a.grownBy c (some b)) (k : c.grownBy d (some b)) : a.grownBy d (some b) :=
 ⟨k.os.trans h.os, k.tape.trans h.tape, k.output.trans h.output, Nat.le_trans h.size k.size, fun q hq hne => (k.block q (Nat.lt_of_lt_of_le hq h.size) hne).trans (h.block q hq hne)⟩
theorem bodyPost_panic {P : Program} {fn : Func} {R : Ending → World → Prop} {a : Act} {w : World} {c : List PanicEntry} (hd : a.defers = []) (hR : R (.panicked c) w) : bodyPost P fn R (.panic c) a w := ⟨hd, hR⟩
theorem gu_any (w : World) : Calls Tryd.prog 56 #[] w fun e w' => GaveUp e ∧ w' = w := by
 go_enter Tryd.func56, Tryd.ntmps56
 go_wp2
 exact bodyPost_panic rfl ⟨rfl, rfl⟩
set_option maxHeartbeats 400000 in
theorem scut59_miss (s : ByteArray) (w : World) (hs : s.size ≤ maxLen) (h : 59 ∉ s.data.toList) :
    Calls Tryd.prog 78 #[.string s, .string ⟨#[59]⟩] w fun e w' => e = .returned (.tuple #[.string s, .string ⟨#[]⟩, .bool false]) ∧ Below w.heap.size w w' := by
 unfold maxLen at hs
 have HI : Hid (Lib.indexByte s.data.toList 59 = -1) := Pp.idx_none _ _ h
 clear h
 go_enter Tryd.func78, Tryd.ntmps78
 go_wp2_with (go_at_call 83; refine (Tryd.stringslite_Index_one _ _ _).mono ?_; rintro e w' ⟨rfl, rfl⟩; rw [HI.out])
 go_ret3
 exact ⟨rfl, Below.refl _ _⟩
set_option maxHeartbeats 400000 in
theorem scut59_hit (s : ByteArray) (a b : List UInt8) (w : World) (hs : s.size ≤ maxLen) (h : 59 ∉ a) (hab : s.data.toList = a ++ 59 :: b) :
    Calls Tryd.prog 78 #[.string s, .string ⟨#[59]⟩] w fun e w' => e = .returned (.tuple #[.string ⟨a.toArray⟩, .string ⟨b.toArray⟩, .bool true]) ∧ Below w.heap.size w w' := by
 unfold maxLen at hs
 have HI := hid (show Lib.indexByte s.data.toList 59 = a.length from by rw [hab]; exact Pp.idx_of a b 59 h)
 have hz : s.size = a.length + b.length + 1 := by rw [Lib.size_eq, hab]; simp; try omega
 have l1 : (a.length : Int) ≤ s.size := by omega
 have l2 : (a.length : Int) + 1 ≤ s.size := by omega
 have HA := hid (show s.extract 0 a.length = ⟨a.toArray⟩ from Pp.bytes_eq (by rw [Lib.extract_data, hab]; simp))
 have HB := hid (show s.extract (a.length + 1) s.size = ⟨b.toArray⟩ from Pp.bytes_eq (by rw [Lib.extract_data, hab, hz]; simp))
 clear h hab hz
 go_enter Tryd.func78, Tryd.ntmps78
 go_wp2_with (go_at_call 83; refine (Tryd.stringslite_Index_one _ _ _).mono ?_; rintro e w' ⟨rfl, rfl⟩; rw [HI.out])
 go_region
 go_wp2
 go_ret3
 exact ⟨by rw [HA.out, HB.out]; rfl, (Below.refl _ _).drew⟩
namespace Wr
theorem upto_len : ∀ l : List UInt8, (upto l).length ≤ l.length
 | [] => by simp [upto]
 | x :: l => by
  have ih := upto_len l
  unfold upto at ih ⊢
  rw [List.takeWhile_cons]
  split
  · simp only [List.length_cons]; omega
  · simp
theorem upto_not : ∀ l : List UInt8, (59 : UInt8) ∉ upto l
 | [] => by simp [upto]
 | x :: l => by
  have ih := upto_not l
  unfold upto at ih ⊢
  rw [List.takeWhile_cons]
  split
  · rename_i h
    intro hx
    rw [List.mem_cons] at hx
    rcases hx with rfl | hx
    · simp at h
    · exact ih hx
  · simp
theorem upto_self : ∀ l : List UInt8, (59 : UInt8) ∉ l → upto l = l ∧ behind l = []
 | [], _ => by simp [upto, behind]
 | x :: l, h => by
  rw [List.mem_cons, not_or] at h
  obtain ⟨h1, h2⟩ := upto_self l h.2
  unfold upto at h1 ⊢
  unfold behind at h2 ⊢
  have hx : (!(x == 59)) = true := by simp; exact fun e => h.1 e.symm
  rw [List.takeWhile_cons, List.dropWhile_cons, if_pos hx, if_pos hx, h1]
  exact ⟨rfl, h2⟩
end Wr
/-- What strings.Cut answers of a text at a semicolon. -/
theorem cut59_any (l : List UInt8) (w : World) (hs : l.length ≤ 140737488351232) :
    Calls Tryd.prog 57 #[.string ⟨l.toArray⟩, .string ⟨#[59]⟩] w fun e w' => e = .returned (.tuple #[.string ⟨(Wr.upto l).toArray⟩, .string ⟨(Wr.behind l).toArray⟩, .bool (decide ((59 : UInt8) ∈ l))]) ∧ Below w.heap.size w w' := by
 have hz : (⟨l.toArray⟩ : ByteArray).size ≤ maxLen := by rw [Lib.size_eq]; unfold maxLen; simp; omega
 by_cases h : (59 : UInt8) ∈ l
 · have hK := scut59_hit ⟨l.toArray⟩ (Wr.upto l) (Wr.behind l) w hz (Wr.upto_not l) (by simpa using Wr.upto_behind h)
   rw [decide_eq_true h]
   go_enter Tryd.func57, Tryd.ntmps57
   go_wp2_with fail
   refine hK.mono ?_
   rintro e w' ⟨rfl, hb⟩
   clear hK
   go_wp2
   go_ret3
   exact ⟨rfl, hb⟩
 · have hK := scut59_miss ⟨l.toArray⟩ w hz (by simpa using h)
   obtain ⟨e1, e2⟩ := Wr.upto_self l h
   rw [decide_eq_false h, e1, e2]
   go_enter Tryd.func57, Tryd.ntmps57
   go_wp2_with fail
   refine hK.mono ?_
   rintro e w' ⟨rfl, hb⟩
   clear hK
   go_wp2
   go_ret3
   exact ⟨rfl, hb⟩
theorem atoi_yes (l : List UInt8) (n : Int) (w : World) (hs : l.length ≤ 140737488351232) (h : Lib.atoiAll l = .ok n) :
    Calls Tryd.prog 58 #[.string ⟨l.toArray⟩] w fun e w' => e = .returned (.tuple #[.int .i64 n, .nilIface]) ∧ Below w.heap.size w w' := by
 refine (Tryd.strconv_Atoi_ok ⟨l.toArray⟩ (by rw [Lib.size_eq]; simp; omega) n (by simpa using h) w).mono ?_
 rintro e w' ⟨rfl, rfl | ⟨t, rfl⟩⟩
 · exact ⟨rfl, Below.refl _ _⟩
 · exact ⟨rfl, Lib.bytesWorld_below _ _ _⟩
theorem atoi_no (l : List UInt8) (w : World) (hs : l.length ≤ 140737488351232) (hv : VarsW w) (h : ∀ n, Lib.atoiAll l ≠ .ok n) :
    Calls Tryd.prog 58 #[.string ⟨l.toArray⟩] w fun e w' => ∃ m N t, e = .returned (.tuple #[.int .i64 m, .iface t (.pointer (some ⟨N, 0, none⟩))]) ∧ Below w.heap.size w w' := by
 cases hl : Lib.atoiAll l with
 | ok n => exact absurd hl (h n)
 | «syntax» =>
  obtain ⟨tp, p, hp⟩ := hv.syn
  refine (Tryd.strconv_Atoi_syntax_var ⟨l.toArray⟩ (by rw [Lib.size_eq]; simp; omega) (by simpa using hl) tp p w hp).mono ?_
  rintro e w' ⟨N, rfl, _, _, hb⟩
  exact ⟨_, _, _, rfl, hb⟩
 | range =>
  obtain ⟨tp, p, hp⟩ := hv.rng
  refine (Tryd.strconv_Atoi_range_var ⟨l.toArray⟩ (by rw [Lib.size_eq]; simp; omega) (by simpa using hl) tp p w hp).mono ?_
  rintro e w' ⟨N, rfl, _, _, hb⟩
  exact ⟨_, _, _, rfl, hb⟩
set_option maxHeartbeats 1000000 in
theorem rnum_no1 (b : Nat) (l : List UInt8) (w : World) (h : Rd b l w) (hs : l.length ≤ 140737488351232) (h6 : 5 < b) (hv : VarsW w) (hA : ∀ n, Lib.atoiAll (Wr.upto l) ≠ .ok n) (h9 : (59 : UInt8) ∉ l) :
    Calls Tryd.prog 31 #[.pointer (some ⟨b, 0, none⟩)] w fun e w' => GaveUp e ∧ w.grownBy w' (some b) := by
 have c0 := h.cell
 have f0 := h.fr
 have hlt := h.lt
 have HC := hid (cut59_any l w hs)
 have hul : (Wr.upto l).length ≤ l.length := Wr.upto_len l
 rw [decide_eq_false h9] at HC
 have HA := hid hA
 clear hA
 have HH := hid h
 have HV := hid hv
 clear h hv
 go_enter Tryd.func31, Tryd.ntmps31
 go_wp2_with fail
 refine HC.out.mono ?_
 rintro e w1 ⟨rfl, hb1⟩
 go_wp2_with fail
 refine (atoi_no (Wr.upto l) w1 (by omega) (HV.out.belowB (by omega) hb1) HA.out).mono ?_
 rintro e w2 ⟨m, N, t, rfl, hb2⟩
 have hb12 := hb1.trans (hb2.mono hb1.size)
 go_wp2_with fail
 refine (gu_any _).mono ?_
 rintro e w3 ⟨rfl, rfl⟩
 exact bodyPost_panic rfl ⟨rfl, nb_below b hb12⟩
set_option maxHeartbeats 1000000 in
theorem rnum_no2 (b : Nat) (l : List UInt8) (n : Int) (w : World) (h : Rd b l w) (hs : l.length ≤ 140737488351232) (h6 : 5 < b) (hv : VarsW w) (hA : Lib.atoiAll (Wr.upto l) = .ok n) (h9 : (59 : UInt8) ∉ l) :
    Calls Tryd.prog 31 #[.pointer (some ⟨b, 0, none⟩)] w fun e w' => GaveUp e ∧ w.grownBy w' (some b) := by
 have c0 := h.cell
 have f0 := h.fr
 have hlt := h.lt
 have HC := hid (cut59_any l w hs)
 have hul : (Wr.upto l).length ≤ l.length := Wr.upto_len l
 rw [decide_eq_false h9] at HC
 have HA := hid hA
 clear hA
 have HH := hid h
 have HV := hid hv
 clear h hv
 go_enter Tryd.func31, Tryd.ntmps31
 go_wp2_with fail
 refine HC.out.mono ?_
 rintro e w1 ⟨rfl, hb1⟩
 go_wp2_with fail
 refine (atoi_yes (Wr.upto l) n w1 (by omega) HA.out).mono ?_
 rintro e w2 ⟨rfl, hb2⟩
 have hb12 := hb1.trans (hb2.mono hb1.size)
 go_wp2_with fail
 refine (gu_any _).mono ?_
 rintro e w3 ⟨rfl, rfl⟩
 exact bodyPost_panic rfl ⟨rfl, nb_below b hb12⟩
set_option maxHeartbeats 1000000 in
theorem rnum_no3 (b : Nat) (l : List UInt8) (w : World) (h : Rd b l w) (hs : l.length ≤ 140737488351232) (h6 : 5 < b) (hv : VarsW w) (hA : ∀ n, Lib.atoiAll (Wr.upto l) ≠ .ok n) (h9 : (59 : UInt8) ∈ l) :
    Calls Tryd.prog 31 #[.pointer (some ⟨b, 0, none⟩)] w fun e w' => GaveUp e ∧ w.grownBy w' (some b) := by
 have c0 := h.cell
 have f0 := h.fr
 have hlt := h.lt
 have HC := hid (cut59_any l w hs)
 have hul : (Wr.upto l).length ≤ l.length := Wr.upto_len l
 rw [decide_eq_true h9] at HC
 have HA := hid hA
 clear hA
 have HH := hid h
 have HV := hid hv
 clear h hv
 go_enter Tryd.func31, Tryd.ntmps31
 go_wp2_with fail
 refine HC.out.mono ?_
 rintro e w1 ⟨rfl, hb1⟩
 go_wp2_with fail
 refine (atoi_no (Wr.upto l) w1 (by omega) (HV.out.belowB (by omega) hb1) HA.out).mono ?_
 rintro e w2 ⟨m, N, t, rfl, hb2⟩
 have hb12 := hb1.trans (hb2.mono hb1.size)
 go_wp2_with fail
 refine (gu_any _).mono ?_
 rintro e w3 ⟨rfl, rfl⟩
 exact bodyPost_panic rfl ⟨rfl, nb_below b hb12⟩
set_option maxHeartbeats 1000000 in
theorem rnum_no4 (b : Nat) (l : List UInt8) (n : Int) (w : World) (h : Rd b l w) (hs : l.length ≤ 140737488351232) (h6 : 5 < b) (hv : VarsW w) (hA : Lib.atoiAll (Wr.upto l) = .ok n) (h9 : (59 : UInt8) ∈ l) (hN : I64 n) (hne : Lib.itoa n ≠ Wr.upto l) :
    Calls Tryd.prog 31 #[.pointer (some ⟨b, 0, none⟩)] w fun e w' => GaveUp e ∧ w.grownBy w' (some b) := by
 have c0 := h.cell
 have f0 := h.fr
 have hlt := h.lt
 have HC := hid (cut59_any l w hs)
 have hul : (Wr.upto l).length ≤ l.length := Wr.upto_len l
 rw [decide_eq_true h9] at HC
 have HA := hid hA
 have HN := hid hN
 have hnn : (⟨(Lib.itoa n).toArray⟩ : ByteArray) ≠ ⟨(Wr.upto l).toArray⟩ := by
  intro e
  apply hne
  have := congrArg (fun x => x.data.toList) e
  simpa using this
 have hnb := (Lib.bytes_beq_false_iff _ _).2 hnn
 have hnc := (Lib.bytes_beq_false_iff _ _).2 hnn.symm
 clear hA hN
 have HH := hid h
 have HV := hid hv
 clear h hv
 go_enter Tryd.func31, Tryd.ntmps31
 go_wp2_with fail
 refine HC.out.mono ?_
 rintro e w1 ⟨rfl, hb1⟩
 go_wp2_with fail
 refine (atoi_yes (Wr.upto l) n w1 (by omega) HA.out).mono ?_
 rintro e w2 ⟨rfl, hb2⟩
 have hb12 := hb1.trans (hb2.mono hb1.size)
 have HT := hid (itoaX (HN.out) w2 (HV.out.belowB (by omega) hb12).pow)
 go_wp2_with fail
 refine HT.out.mono ?_
 rintro e w3 ⟨rfl, hb3⟩
 have hb13 := hb12.trans (hb3.mono hb12.size)
 go_wp2_with fail
 refine (gu_any _).mono ?_
 rintro e w3 ⟨rfl, rfl⟩
 exact bodyPost_panic rfl ⟨rfl, nb_below b hb13⟩
set_option maxHeartbeats 1000000 in
theorem rnum_no5 (b : Nat) (l : List UInt8) (n : Int) (w : World) (h : Rd b l w) (hs : l.length ≤ 140737488351232) (h6 : 5 < b) (hv : VarsW w) (hA : Lib.atoiAll (Wr.upto l) = .ok n) (h9 : (59 : UInt8) ∈ l) (hN : I64 n) (heq : Lib.itoa n = Wr.upto l) (hq : Wr.near n = false) :
    Calls Tryd.prog 31 #[.pointer (some ⟨b, 0, none⟩)] w fun e w' => GaveUp e ∧ w.grownBy w' (some b) := by
 have c0 := h.cell
 have f0 := h.fr
 have hlt := h.lt
 have HC := hid (cut59_any l w hs)
 have hul : (Wr.upto l).length ≤ l.length := Wr.upto_len l
 rw [decide_eq_true h9] at HC
 have HA := hid hA
 have HN := hid hN
 have HE := hid heq
 clear hA hN heq
 have HH := hid h
 have HV := hid hv
 clear h hv
 go_enter Tryd.func31, Tryd.ntmps31
 go_wp2_with fail
 refine HC.out.mono ?_
 rintro e w1 ⟨rfl, hb1⟩
 go_wp2_with fail
 refine (atoi_yes (Wr.upto l) n w1 (by omega) HA.out).mono ?_
 rintro e w2 ⟨rfl, hb2⟩
 have hb12 := hb1.trans (hb2.mono hb1.size)
 have HT := hid (itoaX (HN.out) w2 (HV.out.belowB (by omega) hb12).pow)
 go_wp2_with fail
 refine HT.out.mono ?_
 rintro e w3 ⟨rfl, hb3⟩
 have hb13 := hb12.trans (hb3.mono hb12.size)
 rw [HE.out]
 have HR := hid (isNear_any n w3)
 rw [hq] at HR
 go_wp2_with fail
 refine HR.out.mono ?_
 rintro e w4 ⟨rfl, rfl⟩
 go_wp2_with fail
 refine (gu_any _).mono ?_
 rintro e w3 ⟨rfl, rfl⟩
 exact bodyPost_panic rfl ⟨rfl, nb_below b hb13⟩
set_option maxHeartbeats 1000000 in
theorem rnum_ok1 (b : Nat) (l : List UInt8) (n : Int) (w : World) (h : Rd b l w) (hs : l.length ≤ 140737488351232) (h6 : 5 < b) (hv : VarsW w) (hA : Lib.atoiAll (Wr.upto l) = .ok n) (h9 : (59 : UInt8) ∈ l) (hN : I64 n) (heq : Lib.itoa n = Wr.upto l) (hq : Wr.near n = true) :
    Calls Tryd.prog 31 #[.pointer (some ⟨b, 0, none⟩)] w fun e w' => e = .returned (.int .i64 n) ∧ Rd b (Wr.behind l) w' ∧ w.grownBy w' (some b) := by
 have c0 := h.cell
 have f0 := h.fr
 have hlt := h.lt
 have HC := hid (cut59_any l w hs)
 have hul : (Wr.upto l).length ≤ l.length := Wr.upto_len l
 rw [decide_eq_true h9] at HC
 have HA := hid hA
 have HN := hid hN
 have HE := hid heq
 clear hA hN heq
 have HH := hid h
 have HV := hid hv
 clear h hv
 go_enter Tryd.func31, Tryd.ntmps31
 go_wp2_with fail
 refine HC.out.mono ?_
 rintro e w1 ⟨rfl, hb1⟩
 go_wp2_with fail
 refine (atoi_yes (Wr.upto l) n w1 (by omega) HA.out).mono ?_
 rintro e w2 ⟨rfl, hb2⟩
 have hb12 := hb1.trans (hb2.mono hb1.size)
 have HT := hid (itoaX (HN.out) w2 (HV.out.belowB (by omega) hb12).pow)
 go_wp2_with fail
 refine HT.out.mono ?_
 rintro e w3 ⟨rfl, hb3⟩
 have hb13 := hb12.trans (hb3.mono hb12.size)
 rw [HE.out]
 have HR := hid (isNear_any n w3)
 rw [hq] at HR
 go_wp2_with fail
 refine HR.out.mono ?_
 rintro e w4 ⟨rfl, rfl⟩
 have hr4 := HH.out.below hb13
 have f4 := hr4.fr
 have c4 := hr4.cell
 go_wp2_with fail
 go_ret
 exact ⟨rfl, hr4.set, nb_tr (nb_below b hb13) (nb_set _ b 0 _)⟩
end Go.Proofs.YthgjdgpjkcmcdaaDoor
namespace Go.Proofs.YthgjdgpjkcmcdaaDoor
open Go.RowKit

/-- The document's scanner in a block of its own. -/
def Sc (b : Nat) (s : ByteArray) (i : Nat) (bad : Bool) (w : World) : Prop := w.heap[b]? = some (.cells #[.string s, .int .i64 i, .bool bad] 71 (0, 0))
theorem Sc.cs {b : Nat} {s : ByteArray} {i : Nat} {bad : Bool} {w : World} (h : Sc b s i bad w) : Cs w b [.string s, .int .i64 i, .bool bad] := ⟨_, h⟩
theorem Sc.lt {b : Nat} {s : ByteArray} {i : Nat} {bad : Bool} {w : World} (h : Sc b s i bad w) : b < w.heap.size := heap_lt h
theorem Sc.drewN {b : Nat} {s : ByteArray} {i k : Nat} {bad : Bool} {w : World} (h : Sc b s i bad w) : Sc b s i bad (w.drewN k) := h
theorem Sc.set {b : Nat} {s : ByteArray} {i : Nat} {bad : Bool} {w : World} (h : Sc b s i bad w) (j : Nat) : Sc b s j bad (w.setCell ⟨b, 1, none⟩ (.int .i64 j)) := by
 unfold Sc at h ⊢
 unfold World.setCell
 simp only [Array.getElem?_modify, h, if_true, Option.map_some]
 simp
theorem Sc.bad {b : Nat} {s : ByteArray} {i : Nat} {bad : Bool} {w : World} (h : Sc b s i bad w) : Sc b s i true (w.setCell ⟨b, 2, none⟩ (.bool true)) := by
 unfold Sc at h ⊢
 unfold World.setCell
 simp only [Array.getElem?_modify, h, if_true, Option.map_some]
 simp
theorem Sc.below {b : Nat} {s : ByteArray} {i : Nat} {bad : Bool} {w w' : World} (h : Sc b s i bad w) (hb : Below w.heap.size w w') : Sc b s i bad w' := (hb.block b h.lt).trans h
def atOf (b : Nat) (W : World) : Nat := match W.cell? ⟨b, 1, none⟩ with
 | some (.int _ n) => n.toNat
 | _ => 0
theorem Sc.at {b : Nat} {s : ByteArray} {i : Nat} {bad : Bool} {w : World} (h : Sc b s i bad w) : atOf b w = i := by
 unfold atOf; rw [h.cs.cell 1 rfl]; simp
namespace Wr
/-- Reading: what is read, what is left; or nothing. -/
abbrev Ps (α : Type) := List UInt8 → Option (α × List UInt8)
def bindP {α β : Type} (p : Ps α) (f : α → Ps β) : Ps β := fun l => match p l with
 | none => none
 | some (x, r) => f x r
def pureP {α : Type} (x : α) : Ps α := fun l => some (x, l)
theorem bind_none {α β : Type} {p : Ps α} {f : α → Ps β} {l : List UInt8} (h : p l = none) : bindP p f l = none := by rw [bindP, h]
theorem bind_some {α β : Type} {p : Ps α} {f : α → Ps β} {l r : List UInt8} {x : α} (h : p l = some (x, r)) : bindP p f l = f x r := by rw [bindP, h]
def cntP (g : Int → Bool) (m : Int) : Ps Int := bindP (rdG g) fun n r => if 0 ≤ n ∧ n ≤ m then some (n, r) else none
def txtP (g : Int → Bool) (m : Int) : Ps ByteArray := bindP (cntP g m) fun n r => if n ≤ r.length then some (⟨(r.take n.toNat).toArray⟩, r.drop n.toNat) else none
def yesP (g : Int → Bool) : Ps Bool := bindP (cntP g 1) fun n => pureP (decide (n = 1))
def repP {α : Type} (p : Ps α) : Nat → Ps (List α)
 | 0 => pureP []
 | k + 1 => bindP p fun x => bindP (repP p k) fun xs => pureP (x :: xs)
def lstP {α : Type} (g : Int → Bool) (m : Int) (p : Ps α) : Ps (List α) := bindP (cntP g m) fun n => repP p n.toNat
theorem rd_some {g : Int → Bool} {l r : List UInt8} {n : Int} (h : rdG g l = some (n, r)) : Lib.atoiAll (upto l) = .ok n ∧ (59 : UInt8) ∈ l ∧ Lib.itoa n = upto l ∧ g n = true ∧ r = behind l := by
 unfold rdG at h
 split at h
 · rename_i m hm
   split at h
   · rename_i hc
     simp only [Option.some.injEq, Prod.mk.injEq] at h
     obtain ⟨rfl, rfl⟩ := h
     exact ⟨hm, hc.1, hc.2.1, hc.2.2, rfl⟩
   · cases h
 · cases h
theorem rd_none {g : Int → Bool} {l : List UInt8} (h : rdG g l = none) : (∀ n, Lib.atoiAll (upto l) ≠ .ok n) ∨ ∃ n, Lib.atoiAll (upto l) = .ok n ∧ ((59 : UInt8) ∉ l ∨ Lib.itoa n ≠ upto l ∨ g n = false) := by
 unfold rdG at h
 split at h
 · rename_i m hm
   split at h
   · cases h
   · rename_i hc
     refine Or.inr ⟨m, hm, ?_⟩
     by_cases h1 : (59 : UInt8) ∈ l
     · by_cases h2 : Lib.itoa m = upto l
       · exact Or.inr (Or.inr (by cases hg : g m with
          | false => rfl
          | true => exact absurd ⟨h1, h2, hg⟩ hc))
       · exact Or.inr (Or.inl h2)
     · exact Or.inl h1
 · rename_i hn
   exact Or.inl (fun n hm => hn n hm)
theorem behind_len : ∀ l : List UInt8, (behind l).length ≤ l.length
 | [] => by simp [behind]
 | x :: l => by
  have ih := behind_len l
  unfold behind at ih ⊢
  rw [List.dropWhile_cons]
  split
  · simp only [List.length_cons]; omega
  · simp
theorem rd_len {g : Int → Bool} {l r : List UInt8} {n : Int} (h : rdG g l = some (n, r)) : r.length ≤ l.length := by
 rw [(rd_some h).2.2.2.2]; exact behind_len l
theorem cnt_some {g : Int → Bool} {m : Int} {l r : List UInt8} {n : Int} (h : cntP g m l = some (n, r)) : rdG g l = some (n, r) ∧ 0 ≤ n ∧ n ≤ m := by
 unfold cntP bindP at h
 split at h
 · cases h
 · rename_i x r' hr
   dsimp only at h
   split at h
   · rename_i hc
     simp only [Option.some.injEq, Prod.mk.injEq] at h
     obtain ⟨rfl, rfl⟩ := h
     exact ⟨hr, hc⟩
   · cases h
theorem cnt_none {g : Int → Bool} {m : Int} {l : List UInt8} (h : cntP g m l = none) : rdG g l = none ∨ ∃ n r, rdG g l = some (n, r) ∧ (n < 0 ∨ m < n) := by
 unfold cntP bindP at h
 split at h
 · rename_i hr; exact Or.inl hr
 · rename_i x r' hr
   dsimp only at h
   split at h
   · cases h
   · rename_i hc
     exact Or.inr ⟨x, r', hr, by omega⟩
theorem cnt_len {g : Int → Bool} {m : Int} {l r : List UInt8} {n : Int} (h : cntP g m l = some (n, r)) : r.length ≤ l.length := rd_len (cnt_some h).1
theorem txt_some {g : Int → Bool} {m : Int} {l r : List UInt8} {x : ByteArray} (h : txtP g m l = some (x, r)) : ∃ n r', cntP g m l = some (n, r') ∧ n ≤ r'.length ∧ x = ⟨(r'.take n.toNat).toArray⟩ ∧ r = r'.drop n.toNat := by
 unfold txtP bindP at h
 split at h
 · cases h
 · rename_i n r' hr
   dsimp only at h
   split at h
   · rename_i hc
     simp only [Option.some.injEq, Prod.mk.injEq] at h
     exact ⟨n, r', hr, hc, h.1.symm, h.2.symm⟩
   · cases h
theorem txt_none {g : Int → Bool} {m : Int} {l : List UInt8} (h : txtP g m l = none) : cntP g m l = none ∨ ∃ n r, cntP g m l = some (n, r) ∧ (r.length : Int) < n := by
 unfold txtP bindP at h
 split at h
 · rename_i hr; exact Or.inl hr
 · rename_i x r' hr
   dsimp only at h
   split at h
   · cases h
   · rename_i hc
     exact Or.inr ⟨x, r', hr, by omega⟩
theorem txt_rest {g : Int → Bool} {m : Int} {l r : List UInt8} {x : ByteArray} (h : txtP g m l = some (x, r)) : r.length ≤ l.length := by
 obtain ⟨n, r', h1, h2, _, rfl⟩ := txt_some h
 have := cnt_len h1
 rw [List.length_drop]; omega
end Wr
abbrev MaxL : Nat := 140737488351232
theorem rnum_ok {b : Nat} {l r : List UInt8} {n : Int} {w : World} (h : Rd b l w) (hs : l.length ≤ MaxL) (h6 : 5 < b) (hv : VarsW w) (hr : Wr.rdG Wr.gN l = some (n, r)) :
    Calls Tryd.prog 31 #[.pointer (some ⟨b, 0, none⟩)] w fun e w' => e = .returned (.int .i64 n) ∧ Rd b r w' ∧ w.grownBy w' (some b) := by
 obtain ⟨h1, h2, h3, h4, rfl⟩ := Wr.rd_some hr
 exact rnum_ok1 b l n w h hs h6 hv h1 h2 (Lib.atoiAll_bounds h1) h3 h4
theorem rnum_no {b : Nat} {l : List UInt8} {w : World} (h : Rd b l w) (hs : l.length ≤ MaxL) (h6 : 5 < b) (hv : VarsW w) (hr : Wr.rdG Wr.gN l = none) :
    Calls Tryd.prog 31 #[.pointer (some ⟨b, 0, none⟩)] w fun e w' => GaveUp e ∧ w.grownBy w' (some b) := by
 by_cases h9 : (59 : UInt8) ∈ l
 · rcases Wr.rd_none hr with h1 | ⟨n, h1, h2 | h2 | h2⟩
   · exact rnum_no3 b l w h hs h6 hv h1 h9
   · exact absurd h9 h2
   · exact rnum_no4 b l n w h hs h6 hv h1 h9 (Lib.atoiAll_bounds h1) h2
   · by_cases h3 : Lib.itoa n = Wr.upto l
     · exact rnum_no5 b l n w h hs h6 hv h1 h9 (Lib.atoiAll_bounds h1) h3 h2
     · exact rnum_no4 b l n w h hs h6 hv h1 h9 (Lib.atoiAll_bounds h1) h3
 · rcases Wr.rd_none hr with h1 | ⟨n, h1, _⟩
   · exact rnum_no1 b l w h hs h6 hv h1 h9
   · exact rnum_no2 b l n w h hs h6 hv h1 h9
set_option maxHeartbeats 1000000 in
theorem rcnt_ok {b : Nat} {l r : List UInt8} {m n : Int} {w : World} (h : Rd b l w) (hs : l.length ≤ MaxL) (h6 : 5 < b) (hv : VarsW w) (hr : Wr.cntP Wr.gN m l = some (n, r)) :
    Calls Tryd.prog 59 #[.pointer (some ⟨b, 0, none⟩), .int .i64 m] w fun e w' => e = .returned (.int .i64 n) ∧ Rd b r w' ∧ w.grownBy w' (some b) := by
 obtain ⟨h1, h2, h3⟩ := Wr.cnt_some hr
 have HK := hid (rnum_ok h hs h6 hv h1)
 have n1 : ¬ n < 0 := by omega
 have n2 : ¬ m < n := by omega
 clear h hv hr h1
 go_enter Tryd.func59, Tryd.ntmps59
 go_wp2_with fail
 refine HK.out.mono ?_
 rintro e w1 ⟨rfl, hr1, hb1⟩
 go_wp2_with fail
 go_ret
 exact ⟨rfl, hr1, hb1⟩
set_option maxHeartbeats 1000000 in
theorem rcnt_no {b : Nat} {l : List UInt8} {m : Int} {w : World} (h : Rd b l w) (hs : l.length ≤ MaxL) (h6 : 5 < b) (hv : VarsW w) (hr : Wr.cntP Wr.gN m l = none) :
    Calls Tryd.prog 59 #[.pointer (some ⟨b, 0, none⟩), .int .i64 m] w fun e w' => GaveUp e ∧ w.grownBy w' (some b) := by
 rcases Wr.cnt_none hr with h1 | ⟨n, r, h1, h2⟩
 · have HK := hid (rnum_no h hs h6 hv h1)
   clear h hv hr h1
   go_enter Tryd.func59, Tryd.ntmps59
   go_wp2_with fail
   refine HK.out.mono ?_
   rintro e w1 ⟨rfl, hb1⟩
   exact bodyPost_panic rfl ⟨rfl, hb1⟩
 · have HK := hid (rnum_ok h hs h6 hv h1)
   clear h hv hr h1
   rcases h2 with h2 | h2
   · go_enter Tryd.func59, Tryd.ntmps59
     go_wp2_with fail
     refine HK.out.mono ?_
     rintro e w1 ⟨rfl, hr1, hb1⟩
     go_wp2_with fail
     refine (gu_any _).mono ?_
     rintro e w3 ⟨rfl, rfl⟩
     exact bodyPost_panic rfl ⟨rfl, hb1⟩
   · by_cases h0 : n < 0
     · go_enter Tryd.func59, Tryd.ntmps59
       go_wp2_with fail
       refine HK.out.mono ?_
       rintro e w1 ⟨rfl, hr1, hb1⟩
       go_wp2_with fail
       refine (gu_any _).mono ?_
       rintro e w3 ⟨rfl, rfl⟩
       exact bodyPost_panic rfl ⟨rfl, hb1⟩
     · go_enter Tryd.func59, Tryd.ntmps59
       go_wp2_with fail
       refine HK.out.mono ?_
       rintro e w1 ⟨rfl, hr1, hb1⟩
       go_wp2_with fail
       refine (gu_any _).mono ?_
       rintro e w3 ⟨rfl, rfl⟩
       exact bodyPost_panic rfl ⟨rfl, hb1⟩
set_option maxHeartbeats 1000000 in
theorem rtxt_ok {b : Nat} {l r : List UInt8} {x : ByteArray} {w : World} (h : Rd b l w) (hs : l.length ≤ MaxL) (h6 : 5 < b) (hv : VarsW w) (hr : Wr.txtP Wr.gN 1000 l = some (x, r)) :
    Calls Tryd.prog 32 #[.pointer (some ⟨b, 0, none⟩)] w fun e w' => e = .returned (.string x) ∧ Rd b r w' ∧ w.grownBy w' (some b) := by
 obtain ⟨n, r', h1, h2, rfl, rfl⟩ := Wr.txt_some hr
 have HK := hid (rcnt_ok h hs h6 hv h1)
 have hl := Wr.cnt_len h1
 obtain ⟨_, n0, n1⟩ := Wr.cnt_some h1
 obtain ⟨k, rfl⟩ : ∃ k : Nat, n = k := ⟨n.toNat, by omega⟩
 have hz : (⟨r'.toArray⟩ : ByteArray).size = r'.length := by rw [Lib.size_eq]
 have n2 : ¬ (k : Int) > r'.length := by omega
 have l1 : (k : Int) ≤ (⟨r'.toArray⟩ : ByteArray).size := by rw [hz]; omega
 have l0 : ¬ (k : Int) > (⟨r'.toArray⟩ : ByteArray).size := by rw [hz]; omega
 have HA := hid (show (⟨r'.toArray⟩ : ByteArray).extract 0 k = ⟨(r'.take k).toArray⟩ from Pp.bytes_eq (by rw [Lib.extract_data]; simp))
 have HB := hid (show (⟨r'.toArray⟩ : ByteArray).extract k (⟨r'.toArray⟩ : ByteArray).size = ⟨(r'.drop k).toArray⟩ from Pp.bytes_eq (by rw [Lib.extract_data, hz]; simp [List.take_of_length_le]))
 clear h hv hr h1 h2 n0 n1
 go_enter Tryd.func32, Tryd.ntmps32
 go_wp2_with fail
 refine HK.out.mono ?_
 rintro e w1 ⟨rfl, hr1, hb1⟩
 have c1 := hr1.cell
 have f1 := hr1.fr
 have HR1 := hid hr1
 clear hr1
 go_wp2_with fail
 go_ret
 refine ⟨by rw [show ((k : Int).toNat) = k from rfl, ← HA.out]; simp, ?_, nb_tr hb1 (nb_set _ b 0 _)⟩
 rw [show ((k : Int).toNat) = k from rfl]
 have := HR1.out.set (r := r'.drop k)
 rw [← HB.out] at this
 exact this
set_option maxHeartbeats 1000000 in
theorem rtxt_no {b : Nat} {l : List UInt8} {w : World} (h : Rd b l w) (hs : l.length ≤ MaxL) (h6 : 5 < b) (hv : VarsW w) (hr : Wr.txtP Wr.gN 1000 l = none) :
    Calls Tryd.prog 32 #[.pointer (some ⟨b, 0, none⟩)] w fun e w' => GaveUp e ∧ w.grownBy w' (some b) := by
 rcases Wr.txt_none hr with h1 | ⟨n, r, h1, h2⟩
 · have HK := hid (rcnt_no h hs h6 hv h1)
   clear h hv hr h1
   go_enter Tryd.func32, Tryd.ntmps32
   go_wp2_with fail
   refine HK.out.mono ?_
   rintro e w1 ⟨rfl, hb1⟩
   exact bodyPost_panic rfl ⟨rfl, hb1⟩
 · have HK := hid (rcnt_ok h hs h6 hv h1)
   have hz : (⟨r.toArray⟩ : ByteArray).size = r.length := by rw [Lib.size_eq]
   have l0 : (n : Int) > (⟨r.toArray⟩ : ByteArray).size := by rw [hz]; omega
   clear h hv hr h1
   go_enter Tryd.func32, Tryd.ntmps32
   go_wp2_with fail
   refine HK.out.mono ?_
   rintro e w1 ⟨rfl, hr1, hb1⟩
   have c1 := hr1.cell
   go_wp2_with fail
   refine (gu_any _).mono ?_
   rintro e w3 ⟨rfl, rfl⟩
   exact bodyPost_panic rfl ⟨rfl, hb1⟩
end Go.Proofs.YthgjdgpjkcmcdaaDoor
namespace Go.Proofs.YthgjdgpjkcmcdaaDoor
open Go.RowKit

/-- A row of cells of another type than bytes stays. -/
theorem Fr.row {B b g : Nat} {cs : Array Value} {T : TypeId} {fz : Nat × Nat} {w w' : World} (h : Fr B b w w') (hg : w.heap[g]? = some (.cells cs T fz)) (hgb : g ≠ b) (hT : T ≠ 5) : w'.heap[g]? = some (.cells cs T fz) :=
 h.2 g _ hg (fun e => hgb (by injection e)) (fun c fz' e => by injection e with _ e2 _; exact hT e2)
theorem Wr.take_next {α : Type} (f : α → Wr.It) (s : Ws) (xs : List α) (k : Nat) (h : k < xs.length) : Wr.run s ((xs.take (k + 1)).map f) = Wr.put (Wr.run s ((xs.take k).map f)) (f xs[k]) := by
 rw [List.take_succ_eq_append_getElem h, List.map_append, Wr.run_app]; rfl
theorem Wr.take_len {α : Type} (f : α → Wr.It) (s : Ws) (xs : List α) (k : Nat) (hw : ∀ x ∈ xs, (f x).wf) (hs : s.l.length + 1021 * xs.length ≤ 1000000000) : (Wr.run s ((xs.take k).map f)).l.length ≤ 1000000000 := by
 have := Wr.run_len ((xs.take k).map f) s (fun y hy => by
  obtain ⟨x, hx, rfl⟩ := List.mem_map.1 hy
  exact hw x (List.mem_of_mem_take hx))
 have h2 : ((xs.take k).map f).length ≤ xs.length := by rw [List.length_map, List.length_take]; omega
 omega
set_option maxHeartbeats 1000000 in
theorem wtexts_any (xs : List ByteArray) (B b g : Nat) (s : Ws) (w : World) (h : Wt B b s w) (hg : w.heap[g]? = some (.cells (xs.map Value.string).toArray 9 (0, 0))) (hgb : g ≠ b) (hlen : s.l.length + 1021 * xs.length ≤ 1000000000) (h3 : 3 < B) (ht : PowTab w) (hx : ∀ x ∈ xs, (x.size : Int) ≤ 9223372036854775807) :
    Calls Tryd.prog 21 #[.pointer (some ⟨b, 0, none⟩), .slice (some ⟨g, 0, none⟩) xs.length xs.length] w fun e w' => e = .returned (.tuple #[]) ∧ Wt B b (Wr.run s (xs.map .t)) w' ∧ Fr B b w w' := by
 have HG := hid hg
 have HX := hid hx
 have HT := hid ht
 have HL := hid (show ∀ k, (Wr.run s ((xs.take k).map Wr.It.t)).l.length ≤ 1000000000 from fun k => Wr.take_len _ s xs k (fun _ _ => trivial) hlen)
 have hxl : xs.length ≤ 1000000 := by omega
 clear hg hx ht hlen
 go_enter Tryd.func21, Tryd.ntmps21
 go_wp2_with fail
 go_loopw [8] (fun i wr => ∃ k : Nat, k ≤ xs.length ∧ i = .int .i64 k ∧ Hid (Wt B b (Wr.run s ((xs.take k).map .t)) wr) ∧ Fr B b w wr) (fun i _ => xs.length - (intOf i).toNat)
 case atStart => exact ⟨0, Nat.zero_le _, rfl, (by rw [List.take_zero]; exact h : Wt B b (Wr.run s ((xs.take 0).map .t)) w), Fr.refl _ _ _⟩
 case round =>
  obtain ⟨k, hk, rfl, HW, hf⟩ := hrel
  by_cases hlt : k < xs.length
  · have c0 : wr.cell? ⟨g, k, none⟩ = some (.string xs[k]) := by rw [Lib.cell_of_heap (hf.row HG.out hgb (by decide))]; simp [hlt]
    have hT2 := HT.out.fr h3 hf
    have hT3 := hid hT2
    clear hT2
    go_wp2_with fail
    refine (wtext_any B b _ xs[k] wr HW.out (HL.out k) h3 hT3.out (HX.out _ (List.getElem_mem hlt))).mono ?_
    rintro e w1 ⟨rfl, h1, hf1⟩
    have H1 := hid h1
    clear h1 c0
    go_wp2_with fail
    go_roundw
    case rel => exact ⟨k + 1, by omega, by simp, (by rw [Wr.take_next _ s xs k hlt]; exact H1.out : Wt B b (Wr.run s ((xs.take (k + 1)).map .t)) w1), hf.trans hf1⟩
    case measure => simp [intOf]; omega
  · obtain rfl : k = xs.length := by omega
    go_wp2_with fail
    go_end0
    exact ⟨rfl, by have := HW.out; rw [List.take_length] at this; exact this, hf⟩
set_option maxHeartbeats 1000000 in
theorem wnumbers_any (xs : List Int) (B b g : Nat) (s : Ws) (w : World) (h : Wt B b s w) (hg : w.heap[g]? = some (.cells (xs.map (Value.int .i64)).toArray 3 (0, 0))) (hgb : g ≠ b) (hlen : s.l.length + 1021 * xs.length ≤ 1000000000) (h3 : 3 < B) (ht : PowTab w) (hx : ∀ x ∈ xs, I64 x) :
    Calls Tryd.prog 22 #[.pointer (some ⟨b, 0, none⟩), .slice (some ⟨g, 0, none⟩) xs.length xs.length] w fun e w' => e = .returned (.tuple #[]) ∧ Wt B b (Wr.run s (xs.map .n)) w' ∧ Fr B b w w' := by
 have HG := hid hg
 have HX := hid hx
 have HT := hid ht
 have HL := hid (show ∀ k, (Wr.run s ((xs.take k).map Wr.It.n)).l.length ≤ 1000000000 from fun k => Wr.take_len _ s xs k hx hlen)
 have hxl : xs.length ≤ 1000000 := by omega
 clear hg hx ht hlen
 go_enter Tryd.func22, Tryd.ntmps22
 go_wp2_with fail
 go_loopw [8] (fun i wr => ∃ k : Nat, k ≤ xs.length ∧ i = .int .i64 k ∧ Hid (Wt B b (Wr.run s ((xs.take k).map .n)) wr) ∧ Fr B b w wr) (fun i _ => xs.length - (intOf i).toNat)
 case atStart => exact ⟨0, Nat.zero_le _, rfl, (by rw [List.take_zero]; exact h : Wt B b (Wr.run s ((xs.take 0).map .n)) w), Fr.refl _ _ _⟩
 case round =>
  obtain ⟨k, hk, rfl, HW, hf⟩ := hrel
  by_cases hlt : k < xs.length
  · have c0 : wr.cell? ⟨g, k, none⟩ = some (.int .i64 xs[k]) := by rw [Lib.cell_of_heap (hf.row HG.out hgb (by decide))]; simp [hlt]
    have hT2 := HT.out.fr h3 hf
    have hT3 := hid hT2
    clear hT2
    go_wp2_with fail
    refine (wnum_any B b _ xs[k] wr HW.out (HX.out _ (List.getElem_mem hlt)) (HL.out k) h3 hT3.out).mono ?_
    rintro e w1 ⟨rfl, h1, hf1⟩
    have H1 := hid h1
    clear h1 c0
    go_wp2_with fail
    go_roundw
    case rel => exact ⟨k + 1, by omega, by simp, (by rw [Wr.take_next _ s xs k hlt]; exact H1.out : Wt B b (Wr.run s ((xs.take (k + 1)).map .n)) w1), hf.trans hf1⟩
    case measure => simp [intOf]; omega
  · obtain rfl : k = xs.length := by omega
    go_wp2_with fail
    go_end0
    exact ⟨rfl, by have := HW.out; rw [List.take_length] at this; exact this, hf⟩
namespace Wr
/-- A list: how many there are, and each; or too many. -/
def lst {α : Type} (m : Nat) (f : α → List It) (l : List α) : List It := if l.length ≤ m then .n l.length :: l.flatMap f else [.big]
def chI (c : Pp.Ch) : List It := [.n c.k, .t c.p, .t c.q, .t c.t, .n c.b]
def rqI (q : Rq) : List It := [.n q.kind, .t q.who, .t q.fo, .t q.name, .t q.key, .t q.text, .n q.num, .n q.off, .n q.base] ++ lst 20 chI q.ch
theorem fm_next {α : Type} (f : α → List It) (s : Ws) (xs : List α) (k : Nat) (h : k < xs.length) : run s ((xs.take (k + 1)).flatMap f) = run (run s ((xs.take k).flatMap f)) (f xs[k]) := by
 rw [List.take_succ_eq_append_getElem h, List.flatMap_append, run_app]; simp
theorem fm_count {α : Type} (f : α → List It) (m : Nat) : ∀ (xs : List α), (∀ x ∈ xs, (f x).length ≤ m) → (xs.flatMap f).length ≤ m * xs.length
 | [], _ => by simp
 | x :: xs, h => by
  have h1 := h x (by simp)
  have h2 := fm_count f m xs (fun y hy => h y (by simp [hy]))
  rw [List.flatMap_cons, List.length_append, List.length_cons, Nat.mul_succ]; omega
theorem fm_len {α : Type} (f : α → List It) (m : Nat) (s : Ws) (xs : List α) (k : Nat) (h : ∀ x ∈ xs, (f x).length ≤ m ∧ ∀ y ∈ f x, y.wf) : (run s ((xs.take k).flatMap f)).l.length ≤ s.l.length + 1021 * (m * xs.length) := by
 have h1 := run_len ((xs.take k).flatMap f) s (fun y hy => by
  obtain ⟨x, hx, hy⟩ := List.mem_flatMap.1 hy
  exact (h x (List.mem_of_mem_take hx)).2 y hy)
 have h2 := fm_count f m (xs.take k) (fun x hx => (h x (List.mem_of_mem_take hx)).1)
 have h3 : m * (xs.take k).length ≤ m * xs.length := Nat.mul_le_mul_left _ (by rw [List.length_take]; omega)
 omega
end Wr
def TxB (x : ByteArray) : Prop := (x.size : Int) ≤ 9223372036854775807
structure WfC (c : Pp.Ch) : Prop where
 k : I64 c.k
 b : I64 c.b
 p : TxB c.p
 q : TxB c.q
 t : TxB c.t
theorem WfC.it {c : Pp.Ch} (h : WfC c) : (Wr.chI c).length ≤ 5 ∧ ∀ y ∈ Wr.chI c, y.wf := by
 refine ⟨by simp [Wr.chI], fun y hy => ?_⟩
 simp only [Wr.chI, List.mem_cons, List.not_mem_nil, or_false] at hy
 rcases hy with rfl | rfl | rfl | rfl | rfl
 · exact h.k
 · trivial
 · trivial
 · trivial
 · exact h.b
/-- A box that bears the writer's address. -/
def WBox (w : World) (b g : Nat) : Prop := w.heap[g]? = some (.cells #[.pointer (some ⟨b, 0, none⟩)] 47 (0, 0)) ∧ g ≠ b
theorem WBox.fr {B b g : Nat} {w w' : World} (h : WBox w b g) (hf : Fr B b w w') : WBox w' b g := ⟨hf.row h.1 h.2 (by decide), h.2⟩
theorem WBox.below {b g : Nat} {w w' : World} (h : WBox w b g) (hf : Below w.heap.size w w') : WBox w' b g := ⟨(hf.block g (heap_lt h.1)).trans h.1, h.2⟩
theorem WBox.cell {b g : Nat} {w : World} (h : WBox w b g) : w.cell? ⟨g, 0, none⟩ = some (.pointer (some ⟨b, 0, none⟩)) := by rw [Lib.cell_of_heap h.1]; rfl
theorem below_alloc (w : World) (o : Obj) : Below w.heap.size w (w.alloc o) := (Below.refl _ w).alloc (Nat.le_refl _) o
set_option maxHeartbeats 1000000 in
theorem wch1_any (c : Pp.Ch) (B b g : Nat) (s : Ws) (w : World) (h : Wt B b s w) (hg : WBox w b g) (hlen : s.l.length + 6000 ≤ 1000000000) (h3 : 3 < B) (ht : PowTab w) (hc : WfC c) :
    Calls Tryd.prog 52 #[.agg #[.int .i64 c.k, .string c.p, .string c.q, .string c.t, .int .i64 c.b], .pointer (some ⟨g, 0, none⟩)] w fun e w' => e = .returned (.tuple #[]) ∧ Wt B b (Wr.run s (Wr.chI c)) w' ∧ Fr B b w w' := by
 obtain ⟨k, p, q, t, cb⟩ := c
 have hBw : B ≤ w.heap.size := Nat.le_of_lt (Nat.lt_of_le_of_lt h.B h.lt)
 obtain ⟨w0, hw0⟩ : ∃ w0, w0 = w.alloc (.cells #[.int .i64 k, .string p, .string q, .string t, .int .i64 cb] 95) := ⟨_, rfl⟩
 have hb0 : Below w.heap.size w w0 := by rw [hw0]; exact below_alloc _ _
 have hf0 : Fr B b w w0 := fr_below hb0 hBw
 have hm0 : w0.heap[w.heap.size]? = some (.cells #[.int .i64 k, .string p, .string q, .string t, .int .i64 cb] 95 (0, 0)) := by rw [hw0]; exact heap_alloc_new w _
 have hmb : w.heap.size ≠ b := fun e => by have := h.lt; omega
 have h0 := h.below hb0
 have hg0 := hg.below hb0
 have ht0 := ht.fr h3 hf0
 have a0 := hg0.cell
 rw [hw0] at a0
 have HK := hid (wnum_any B b s k w0 h0 hc.k (by omega) h3 ht0)
 have l1 := Wr.num_len (s := s) hc.k
 rw [hw0] at HK
 have HM0 := hid hm0
 have HG0 := hid hg0
 have HT0 := hid ht0
 have HC := hid hc
 have HW0 := hid hw0
 clear hw0 hm0 hg0 ht0 hg ht hc h0
 go_enter Tryd.func52, Tryd.ntmps52
 go_wp2_with fail
 refine HK.out.mono ?_
 rintro e w1 ⟨rfl, h1, hf1⟩
 rw [← HW0.out] at hf1
 have hg1 := HG0.out.fr hf1
 have hm1 := hf1.row HM0.out hmb (by decide)
 have ht1 := HT0.out.fr h3 hf1
 have hB1 : B ≤ w1.heap.size := Nat.le_of_lt (Nat.lt_of_le_of_lt h1.B h1.lt)
 obtain ⟨w2, hw2⟩ : ∃ w2, w2 = w1.alloc (.cells #[.string p, .string q, .string t] 9) := ⟨_, rfl⟩
 have hb2 : Below w1.heap.size w1 w2 := by rw [hw2]; exact below_alloc _ _
 have hf2 : Fr B b w1 w2 := fr_below hb2 hB1
 have hx2 : w2.heap[w1.heap.size]? = some (.cells (([p, q, t] : List ByteArray).map Value.string).toArray 9 (0, 0)) := by rw [hw2]; exact heap_alloc_new w1 _
 have hxb : w1.heap.size ≠ b := fun e => by have := h1.lt; omega
 have c0 := hg1.cell
 have c1 : w1.cell? ⟨w.heap.size, 1, none⟩ = some (.string p) := by rw [Lib.cell_of_heap hm1]; rfl
 have c2 : w1.cell? ⟨w.heap.size, 2, none⟩ = some (.string q) := by rw [Lib.cell_of_heap hm1]; rfl
 have c3 : w1.cell? ⟨w.heap.size, 3, none⟩ = some (.string t) := by rw [Lib.cell_of_heap hm1]; rfl
 have HX := hid (wtexts_any [p, q, t] B b w1.heap.size (Wr.num s k) w2 (h1.below hb2) hx2 hxb (by simp only [List.length_cons, List.length_nil]; omega) h3 (ht1.fr h3 hf2) (by
  intro x hx
  simp only [List.mem_cons, List.not_mem_nil, or_false] at hx
  rcases hx with rfl | rfl | rfl
  · exact HC.out.p
  · exact HC.out.q
  · exact HC.out.t))
 have hg2 := hg1.fr hf2
 have hm2 := hf2.row hm1 hmb (by decide)
 have ht2 := ht1.fr h3 hf2
 rw [hw2] at HX
 have HW2 := hid hw2
 have HG2 := hid hg2
 have HM2 := hid hm2
 have HT2 := hid ht2
 clear hw2 hg2 hm2 ht2 hg1 hm1 ht1 HM0 HG0 HT0 HK a0 hx2 h1
 go_wp2_with fail
 refine HX.out.mono ?_
 rintro e w3 ⟨rfl, h5, hf3⟩
 rw [← HW2.out] at hf3
 have hg3 := HG2.out.fr hf3
 have hm3 := hf3.row HM2.out hmb (by decide)
 have ht3 := HT2.out.fr h3 hf3
 have d0 := hg3.cell
 have d1 : w3.cell? ⟨w.heap.size, 4, none⟩ = some (.int .i64 cb) := by rw [Lib.cell_of_heap hm3]; rfl
 have l2 := Wr.run_len (([p, q, t] : List ByteArray).map Wr.It.t) (Wr.num s k) (by
  intro y hy
  simp only [List.map_cons, List.map_nil, List.mem_cons, List.not_mem_nil, or_false] at hy
  rcases hy with rfl | rfl | rfl <;> trivial)
 simp only [List.map_cons, List.map_nil, List.length_cons, List.length_nil] at l2
 have HN := hid (wnum_any B b _ cb w3 h5 HC.out.b (by simp only [List.map_cons, List.map_nil]; omega) h3 ht3)
 clear c0 c1 c2 c3 HX hg3 hm3 ht3 HG2 HM2 HT2 h5
 go_wp2_with fail
 refine HN.out.mono ?_
 rintro e w4 ⟨rfl, h6, hf4⟩
 go_wp2_with fail
 go_end0
 exact ⟨rfl, h6, hf0.trans (hf1.trans (hf2.trans (hf3.trans hf4)))⟩
theorem wch1_enters : ∀ args w, (callFunc 52 args).run Tryd.prog w = .ok (.enter 52 args) w := enters_of Tryd.func52 (by kernel_rfl) rfl
set_option maxHeartbeats 1000000 in
theorem wlc_any (W0 : World) (cs : List Pp.Ch) (v : Value) (b g : Nat) (s : Ws) (w : World) (hL : LiesC W0 v cs) (hW : Below W0.heap.size W0 w) (h : Wt W0.heap.size b s w) (hg : WBox w b g) (hlen : s.l.length + 200000 ≤ 1000000000) (h3 : 3 < W0.heap.size) (ht : PowTab w) (hc : ∀ c ∈ cs, WfC c) :
    Calls Tryd.prog 51 #[.pointer (some ⟨b, 0, none⟩), v, .int .i64 20, .func (.func 52) #[] #[.pointer (some ⟨g, 0, none⟩)]] w fun e w' => e = .returned (.tuple #[]) ∧ Wt W0.heap.size b (Wr.run s (Wr.lst 20 Wr.chI cs)) w' ∧ Fr W0.heap.size b w w' := by
 obtain ⟨a, cap, rfl, hcap, hcap2, hLL⟩ := hL
 have hC := wcount_any W0.heap.size b s cs.length 20 w h ⟨by omega, by omega⟩ (by omega) h3 ht
 by_cases hn : (cs.length : Int) ≤ 20
 · rw [if_pos hn, decide_eq_true hn] at hC
   have l1 := Wr.num_len (s := s) (n := cs.length) ⟨by omega, by omega⟩
   have HL := hid (show ∀ k, (Wr.run (Wr.num s cs.length) ((cs.take k).flatMap Wr.chI)).l.length + 6000 ≤ 1000000000 from fun k => by
    have := Wr.fm_len Wr.chI 5 (Wr.num s cs.length) cs k (fun x hx => (hc x hx).it)
    omega)
   have HE := hid (show Wr.run (Wr.num s cs.length) ((cs.take cs.length).flatMap Wr.chI) = Wr.run s (Wr.lst 20 Wr.chI cs) from by rw [List.take_length, Wr.lst, if_pos (by omega)]; rfl)
   have HC := hid hC
   have HD := hid hc
   have HM := hid hLL
   have HG := hid hg
   have HT := hid ht
   have HW := hid hW
   have eg := wch1_enters
   clear hC hc hLL hg ht hW
   go_enter Tryd.func51, Tryd.ntmps51
   go_wp2_with fail
   refine HC.out.mono ?_
   rintro e w1 ⟨rfl, h1, hf1⟩
   have HW1 := hid (show Wt W0.heap.size b (Wr.run (Wr.num s cs.length) ((cs.take 0).flatMap Wr.chI)) w1 from h1)
   have hB1 : W0.heap.size ≤ w1.heap.size := Nat.le_of_lt (Nat.lt_of_le_of_lt h1.B h1.lt)
   clear h1
   go_wp2_with fail
   go_loopw [18] (fun i wr => ∃ k : Nat, k ≤ cs.length ∧ i = .int .i64 k ∧ Hid (Wt W0.heap.size b (Wr.run (Wr.num s cs.length) ((cs.take k).flatMap Wr.chI)) wr) ∧ Fr W0.heap.size b w wr) (fun i _ => cs.length - (intOf i).toNat)
   case atStart => exact ⟨0, Nat.zero_le _, rfl, HW1, hf1⟩
   case round =>
    obtain ⟨k, hk, rfl, HV, hf⟩ := hrel
    by_cases hlt : k < cs.length
    · obtain ⟨bb, o, rfl, hbb, he⟩ := HM.out k hlt
      obtain ⟨c0, c1, c2, c3, c4⟩ := he.below hbb (HW.out.trans hf.1)
      have hlr := HV.out.lt
      have hBr : W0.heap.size ≤ wr.heap.size := Nat.le_of_lt (Nat.lt_of_le_of_lt HV.out.B hlr)
      obtain ⟨wz, hwz⟩ : ∃ wz, wz = wr.alloc (.cells #[.int .i64 cs[k].k, .string cs[k].p, .string cs[k].q, .string cs[k].t, .int .i64 cs[k].b] 95) := ⟨_, rfl⟩
      have hbz : Below wr.heap.size wr wz := by rw [hwz]; exact below_alloc _ _
      have hfz : Fr W0.heap.size b wr wz := fr_below hbz hBr
      have HK := hid (wch1_any cs[k] W0.heap.size b g _ wz (HV.out.below hbz) (HG.out.fr (hf.trans hfz)) (HL.out k) h3 (HT.out.fr h3 (hf.trans hfz)) (HD.out _ (List.getElem_mem hlt)))
      rw [hwz] at HK
      have HWZ := hid hwz
      clear hwz he
      go_wp2_with fail
      refine HK.out.mono ?_
      rintro e w2 ⟨rfl, h2, hf2⟩
      rw [← HWZ.out] at hf2
      rw [← Wr.fm_next _ _ _ _ hlt] at h2
      have H2 := hid h2
      clear h2 HK c0 c1 c2 c3 c4
      go_wp2_with fail
      go_roundw
      case rel => exact ⟨k + 1, by omega, by simp, H2, hf.trans (hfz.trans hf2)⟩
      case measure => simp [intOf]; omega
    · obtain rfl : k = cs.length := by omega
      go_wp2_with fail
      go_end0
      exact ⟨rfl, by rw [← HE.out]; exact HV.out, hf⟩
 · rw [if_neg hn, decide_eq_false hn] at hC
   go_enter Tryd.func51, Tryd.ntmps51
   go_wp2_with fail
   refine hC.mono ?_
   rintro e w1 ⟨rfl, h1, hf1⟩
   go_wp2_with fail
   refine bodyPost_ret (results_none rfl _ _ _) rfl ?_
   exact ⟨rfl, by rw [Wr.lst, if_neg (by omega)]; exact h1, hf1⟩
set_option maxHeartbeats 1000000 in
theorem wchanges_any (W0 : World) (cs : List Pp.Ch) (v : Value) (b : Nat) (s : Ws) (w : World) (hL : LiesC W0 v cs) (hW : Below W0.heap.size W0 w) (h : Wt W0.heap.size b s w) (hlen : s.l.length + 200000 ≤ 1000000000) (h3 : 3 < W0.heap.size) (ht : PowTab w) (hc : ∀ c ∈ cs, WfC c) :
    Calls Tryd.prog 23 #[.pointer (some ⟨b, 0, none⟩), v] w fun e w' => e = .returned (.tuple #[]) ∧ Wt W0.heap.size b (Wr.run s (Wr.lst 20 Wr.chI cs)) w' ∧ Fr W0.heap.size b w w' := by
 have hmf : ∀ (fn : Fn) (first cap : Array Value) (w : World), (Instr.makeFunc fn first cap).run Tryd.prog w = .ok (.func fn first cap) w := fun _ _ _ _ => rfl
 have hlt := h.lt
 have hB : W0.heap.size ≤ w.heap.size := Nat.le_of_lt (Nat.lt_of_le_of_lt h.B hlt)
 obtain ⟨wz, hwz⟩ : ∃ wz, wz = w.alloc (.cells #[.pointer (some ⟨b, 0, none⟩)] 47) := ⟨_, rfl⟩
 have hbz : Below w.heap.size w wz := by rw [hwz]; exact below_alloc _ _
 have hfz : Fr W0.heap.size b w wz := fr_below hbz hB
 have hgz : WBox wz b w.heap.size := ⟨by rw [hwz]; exact heap_alloc_new w _, by omega⟩
 have HK := hid (wlc_any W0 cs v b w.heap.size s wz hL (hW.trans hfz.1) (h.below hbz) hgz hlen h3 (ht.fr h3 hfz) hc)
 rw [hwz] at HK
 have HWZ := hid hwz
 clear hwz hgz hL ht h
 go_enter Tryd.func23, Tryd.ntmps23
 go_wp2_with fail
 refine HK.out.mono ?_
 rintro e w2 ⟨rfl, h2, hf2⟩
 rw [← HWZ.out] at hf2
 go_wp2_with fail
 go_end0
 exact ⟨rfl, h2, hfz.trans hf2⟩
theorem Ws.fin_many {s : Ws} (h : s.mn = true) : Wr.fin s = (⟨#[]⟩, 2) := by rw [Wr.fin, if_pos h]
theorem Ws.fin_far {s : Ws} (h : s.mn = false) (h1 : s.fr = true) : Wr.fin s = (⟨#[]⟩, 3) := by rw [Wr.fin, if_neg (by simp [h]), if_pos h1]
theorem Ws.fin_ok {s : Ws} (h : s.mn = false) (h1 : s.fr = false) : Wr.fin s = (⟨s.l.toArray⟩, 0) := by rw [Wr.fin, if_neg (by simp [h]), if_neg (by simp [h1])]
set_option maxHeartbeats 1000000 in
theorem written_any (B b : Nat) (s : Ws) (w : World) (h : Wt B b s w) (hs : s.l ≠ []) :
    Calls Tryd.prog 24 #[.pointer (some ⟨b, 0, none⟩)] w fun e w' => e = .returned (.tuple #[.string (Wr.fin s).1, .int .i64 (Wr.fin s).2]) ∧ Below B w w' := by
 obtain ⟨p, _, v, hbk, _, _⟩ := h.at
 have c2 : w.cell? ⟨b, 2, none⟩ = some (.bool s.mn) := by rw [Lib.cell_of_heap hbk]; rfl
 have c3 : w.cell? ⟨b, 3, none⟩ = some (.bool s.fr) := by rw [Lib.cell_of_heap hbk]; rfl
 have HS := hid (string_any B b s w h hs)
 clear hbk
 cases hm : s.mn with
 | true =>
  rw [hm] at c2
  rw [Ws.fin_many hm]
  go_enter Tryd.func24, Tryd.ntmps24
  go_wp2_with fail
  go_ret2
  exact ⟨rfl, Below.refl _ _⟩
 | false =>
  rw [hm] at c2
  cases hf : s.fr with
  | true =>
   rw [hf] at c3
   rw [Ws.fin_far hm hf]
   go_enter Tryd.func24, Tryd.ntmps24
   go_wp2_with fail
   go_ret2
   exact ⟨rfl, Below.refl _ _⟩
  | false =>
   rw [hf] at c3
   rw [Ws.fin_ok hm hf]
   go_enter Tryd.func24, Tryd.ntmps24
   go_wp2_with fail
   refine HS.out.mono ?_
   rintro e w1 ⟨rfl, hb1⟩
   go_wp2_with fail
   go_ret2
   exact ⟨rfl, hb1⟩
end Go.Proofs.YthgjdgpjkcmcdaaDoor
