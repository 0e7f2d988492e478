/- What path.Aside answers, for every text and number; and what holds in any case. -/
import Derived.Test.YthfdmdjmbbollaaGreatDoorME
import Derived.Test.YthfdmdjmbbollaaGreatDoorMC
import Derived.Test.YthfdmdjmbbollaaGreatDoorW4b
import Derived.Test.YthfdmdjmbbollaaGreatDoorW3b
set_option linter.unusedSimpArgs false
set_option linter.unusedVariables false
namespace Go.Proofs.YthfdmdjmbbollaaGreatDoor
open Go.RowKit

set_option maxHeartbeats 1000000 in
theorem aside_any (s : ByteArray) (n : Int) (w : World) (hs : s.size ≤ 200000000000000) :
    Calls Tryz.prog 66 #[.string s, .int .i64 n] w fun e w' => e = .returned (.tuple #[.string ⟨(Pp.ifc (Pp.asideE s.data.toList n) (Pp.asideT s.data.toList n.toNat)).toArray⟩, .int .i64 (Pp.asideE s.data.toList n)]) ∧ Below w.heap.size w w' := by
  by_cases hz : Pp.chk s.data.toList = 0
  · have HZ : Hid (Pp.chk s.data.toList = 0) := hz
    by_cases hn : n < 1 ∨ 99 < n
    · have HE : Hid (Pp.asideE s.data.toList n = 3) := (by rw [Pp.asideE, if_pos hz, if_pos hn] : Pp.asideE s.data.toList n = 3)
      have HR : Hid (Pp.ifc 3 (Pp.asideT s.data.toList n.toNat) = []) := Pp.ifc_no (by decide) _
      clear hz
      rcases hn with hn | hn
      · go_enter Tryz.func66, Tryz.ntmps66
        go_wp2_with fail
        refine (checkAll1 s _ _ (by omega)).mono ?_
        rintro e w1 ⟨rfl, hb1⟩
        rw [HZ.out]
        go_wp2_with fail
        go_ret2
        exact ⟨by rw [HE.out, HR.out]; rfl, hb1⟩
      · go_enter Tryz.func66, Tryz.ntmps66
        go_wp2_with fail
        refine (checkAll1 s _ _ (by omega)).mono ?_
        rintro e w1 ⟨rfl, hb1⟩
        rw [HZ.out]
        go_wp2_with fail
        go_ret2
        exact ⟨by rw [HE.out, HR.out]; rfl, hb1⟩
    · obtain ⟨i, rfl⟩ := Int.eq_ofNat_of_zero_le (show 0 ≤ n by omega)
      have hi1 : 1 ≤ (i : Int) := by omega
      have hi2 : (i : Int) ≤ 99 := by omega
      have b0 := Pp.dec_len i (by omega)
      have b1 := Pp.len_par s.data.toList
      have b2 := Pp.len_lst s.data.toList
      have b3 := Pp.len_stem (Pp.lst s.data.toList)
      have b4 := Pp.len_ending (Pp.lst s.data.toList)
      rw [← Lib.size_eq] at b1 b2
      have hes := Pp.asideE_in s.data.toList i hz hi1 hi2
      have b5 := Pp.len_asideS s.data.toList i
      have hT := Pp.asideT_eq s.data.toList i
      have hSq := Pp.aside_room s.data.toList i
      generalize Pp.asideS s.data.toList i = S at *
      have HS : Hid (Pp.short (Pp.stem (Pp.lst s.data.toList)) (20 - (2 + ((Lib.decDigits i).length : Int) + 1) - (Pp.ending (Pp.lst s.data.toList)).length) = S) := hSq
      have HES : Hid (Pp.asideE s.data.toList i = if S = [] then 2 else Pp.chk (Pp.asideT s.data.toList i)) := hes
      have HT : Hid (Pp.asideT s.data.toList i = Pp.jn (Pp.par s.data.toList) (S ++ Pp.mark i ++ Pp.ending (Pp.lst s.data.toList))) := hT
      clear hz hn hes hT hSq
      go_enter Tryz.func66, Tryz.ntmps66
      go_wp2_with fail
      refine (checkAll1 s _ _ (by omega)).mono ?_
      rintro e w1 ⟨rfl, hb1⟩
      rw [HZ.out]
      go_wp2_with fail
      refine (split_any s _ (by omega)).mono ?_
      rintro e w2 ⟨rfl, hb2⟩
      go_wp2_with fail
      refine (parts_any ⟨(Pp.lst s.data.toList).toArray⟩ _ (by rw [Pp.sz]; omega)).mono ?_
      rintro e w3 ⟨rfl, hb3⟩
      go_wp2_with fail
      refine (Tryz.strconv_Itoa_small i (by omega) _).mono ?_
      rintro e w4 ⟨rfl, rfl⟩
      go_wp2_with fail
      refine (shortened_any _ _ _ (by rw [Pp.sz]; omega) (by omega) (by omega)).mono ?_
      rintro e w5 ⟨rfl, hb5⟩
      rw [show Pp.short _ _ = S from HS.out]
      have hbb : Below w.heap.size w w5 := ((hb1.trans (hb2.mono hb1.size)).trans (hb3.mono (Nat.le_trans hb1.size hb2.size))).trans (hb5.mono (Nat.le_trans hb1.size (Nat.le_trans hb2.size hb3.size)))
      clear hb1 hb2 hb3 hb5 HS
      cases hq : S.isEmpty with
      | true =>
        have HE : Hid (Pp.asideE s.data.toList i = 2) := (by rw [HES.out, if_pos (List.isEmpty_iff.1 hq)] : Pp.asideE s.data.toList i = 2)
        have HR : Hid (Pp.ifc 2 (Pp.asideT s.data.toList (i : Int).toNat) = []) := Pp.ifc_no (by decide) _
        go_wp2_with fail
        go_ret2
        exact ⟨by rw [HE.out, HR.out]; rfl, hbb⟩
      | false =>
        have HE : Hid (Pp.asideE s.data.toList i = Pp.chk (Pp.asideT s.data.toList i)) := (by rw [HES.out, if_neg (by intro h; rw [h] at hq; cases hq)] : Pp.asideE s.data.toList i = Pp.chk (Pp.asideT s.data.toList i))
        have HB : Hid ((⟨S.toArray⟩ : ByteArray) ++ (⟨#[32, 40]⟩ ++ ⟨(Lib.decDigits i).toArray⟩ ++ ⟨#[41]⟩) ++ ⟨(Pp.ending (Pp.lst s.data.toList)).toArray⟩ = ⟨(S ++ Pp.mark i ++ Pp.ending (Pp.lst s.data.toList)).toArray⟩) :=
          (Pp.bytes_eq (by rw [Joins.data_append, Joins.data_append, Joins.data_append, Joins.data_append]; simp [Pp.mark]) : (⟨S.toArray⟩ : ByteArray) ++ (⟨#[32, 40]⟩ ++ ⟨(Lib.decDigits i).toArray⟩ ++ ⟨#[41]⟩) ++ ⟨(Pp.ending (Pp.lst s.data.toList)).toArray⟩ = ⟨(S ++ Pp.mark i ++ Pp.ending (Pp.lst s.data.toList)).toArray⟩)
        have b6 := Pp.mark_len i
        have b7 := Pp.len_jn (Pp.par s.data.toList) (S ++ Pp.mark i ++ Pp.ending (Pp.lst s.data.toList))
        rw [List.length_append, List.length_append, b6, ← HT.out] at b7
        have B8 : Hid ((S ++ Pp.mark i ++ Pp.ending (Pp.lst s.data.toList)).length ≤ 1000000000000000) := (by rw [List.length_append, List.length_append, b6]; omega : (S ++ Pp.mark i ++ Pp.ending (Pp.lst s.data.toList)).length ≤ 1000000000000000)
        clear b6
        go_wp2_with fail
        rw [HB.out]
        refine (joined_any _ ⟨(S ++ Pp.mark i ++ Pp.ending (Pp.lst s.data.toList)).toArray⟩ _ (by rw [Pp.sz]; omega) (by rw [Pp.sz]; exact B8.out)).mono ?_
        rintro e w6 ⟨rfl, rfl⟩
        rw [show Pp.jn _ _ = Pp.asideT s.data.toList i from HT.out.symm]
        by_cases hz : Pp.chk (Pp.asideT s.data.toList i) = 0
        · have HZ2 : Hid (Pp.chk (Pp.asideT s.data.toList i) = 0) := hz
          have HR : Hid (Pp.ifc 0 (Pp.asideT s.data.toList (i : Int).toNat) = Pp.asideT s.data.toList i) := Pp.ifc_yes rfl _
          clear hz
          go_wp2_with fail
          refine (checked_ok ⟨(Pp.asideT s.data.toList i).toArray⟩ _ (by rw [Pp.sz]; omega) HZ2.out).mono ?_
          rintro e w7 ⟨rfl, hb7⟩
          go_wp2
          go_ret2
          exact ⟨by rw [HE.out, HZ2.out, HR.out]; rfl, hbb.trans (hb7.mono hbb.size)⟩
        · have HR : Hid (Pp.ifc (Pp.chk (Pp.asideT s.data.toList i)) (Pp.asideT s.data.toList (i : Int).toNat) = []) := Pp.ifc_no hz _
          have HZ2 : Hid (¬ Pp.chk (Pp.asideT s.data.toList i) = 0) := hz
          clear hz
          go_wp2_with fail
          refine (checked_no ⟨(Pp.asideT s.data.toList i).toArray⟩ _ (by rw [Pp.sz]; omega) HZ2.out).mono ?_
          rintro e w7 ⟨rfl, hb7⟩
          go_wp2
          go_ret2
          exact ⟨by rw [HE.out, HR.out]; rfl, hbb.trans (hb7.mono hbb.size)⟩
  · have hz2 : (Pp.chk s.data.toList == 0) = false := by simpa using hz
    have HE : Hid (Pp.asideE s.data.toList n = Pp.chk s.data.toList) := (by rw [Pp.asideE, if_neg hz] : Pp.asideE s.data.toList n = Pp.chk s.data.toList)
    have HR : Hid (Pp.ifc (Pp.chk s.data.toList) (Pp.asideT s.data.toList n.toNat) = []) := Pp.ifc_no hz _
    clear hz
    go_enter Tryz.func66, Tryz.ntmps66
    go_wp2_with fail
    refine (checkAll1 s _ _ (by omega)).mono ?_
    rintro e w1 ⟨rfl, hb1⟩
    go_wp2
    go_ret2
    exact ⟨by rw [HE.out, HR.out]; rfl, hb1⟩
end Go.Proofs.YthfdmdjmbbollaaGreatDoor
