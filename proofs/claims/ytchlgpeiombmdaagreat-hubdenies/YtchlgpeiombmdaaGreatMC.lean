/- What path.inNames and path.isName answer, for every byte and every text. What strings.Cut at a slash and path.Check answer, for every text. What path.checkAll and checked answer, for every text. What path.split answer, for every text. What path.Parent and Name answer, for every text. Small things of texts. -/
import Derived.Test.YtchlgpeiombmdaaGreatMA
import Derived.Test.YtchlgpeiombmdaaGreatShelf
import Derived.WalkKit
import Derived.WalkSpells
import Derived.WalkLawsBesides
import Derived.Handy
import Derived.Deep.QuietTactic
import Derived.BigQuiet
import Derived.RegionTactic
import Derived.Lib.SmallJoins
set_option linter.unusedSimpArgs false
set_option linter.unusedVariables false
namespace Go.Proofs.YtchlgpeiombmdaaGreat
open Go.RowKit

set_option maxHeartbeats 400000 in
theorem inNames_any (c : UInt8) (w : World) :
    Calls Tryz.prog 100 #[.int .u8 (c.toNat : Int)] w fun e w' => e = .returned (.bool (Pp.okB c)) ∧ w' = w := by
 go_enter Tryz.func100, Tryz.ntmps100
 go_wp2_with (go_at_call 125; refine (Tryz.strings_IndexByte _ _ _).mono ?_; rintro e w' ⟨rfl, rfl⟩)
 all_goals go_ret
 all_goals first
  | exact ⟨Pp.ret_bool (Pp.okB_l c (by omega)), rfl⟩
  | exact ⟨Pp.ret_bool (Pp.okB_o c (by omega) (by omega) (by omega)), rfl⟩
set_option maxHeartbeats 800000 in
theorem isName_any (s : ByteArray) (w : World) (hs : s.size ≤ maxLen) :
    Calls Tryz.prog 59 #[.string s] w fun e w' => e = .returned (.bool (Pp.nameB s.data.toList)) ∧ w' = w := by
 unfold maxLen at hs
 by_cases c1 : (s.size : Int) < 1
 · go_enter Tryz.func59, Tryz.ntmps59
   go_wp2_with fail
   go_ret
   exact ⟨Pp.ret_bool (Pp.nameB_no s (Or.inl (by omega))), rfl⟩
 by_cases c2 : 20 < (s.size : Int)
 · go_enter Tryz.func59, Tryz.ntmps59
   go_wp2_with fail
   go_ret
   exact ⟨Pp.ret_bool (Pp.nameB_no s (Or.inr (Or.inl (by omega)))), rfl⟩
 cases c3 : (s.toList == [46]) with
 | true =>
  have HN := hid (show s.toList = [46] from by simpa using c3)
  go_enter Tryz.func59, Tryz.ntmps59
  go_wp2_with fail
  go_ret
  exact ⟨Pp.ret_bool (Pp.nameB_no s (Or.inr (Or.inr (Or.inl HN.out)))), rfl⟩
 | false =>
 cases c4 : (s.toList == [46, 46]) with
 | true =>
  have HN := hid (show s.toList = [46, 46] from by simpa using c4)
  go_enter Tryz.func59, Tryz.ntmps59
  go_wp2_with fail
  go_ret
  exact ⟨Pp.ret_bool (Pp.nameB_no s (Or.inr (Or.inr (Or.inr HN.out)))), rfl⟩
 | false =>
 have h0 : 0 < s.size := by omega
 have h6 : s.size - 1 < s.size := by omega
 cases c5 : ((s[0].toNat : Int) == 32) with
 | true =>
  have HN := hid (show (s[0].toNat : Int) = 32 from by simpa using c5)
  go_enter Tryz.func59, Tryz.ntmps59
  go_wp2_with fail
  go_ret
  exact ⟨Pp.ret_bool (Pp.nameB_head s h0 HN.out), rfl⟩
 | false =>
 cases c6 : ((s[s.size - 1].toNat : Int) == 32) with
 | true =>
  have HN := hid (show (s[s.size - 1].toNat : Int) = 32 from by simpa using c6)
  go_enter Tryz.func59, Tryz.ntmps59
  go_wp2_with fail
  go_ret
  exact ⟨Pp.ret_bool (Pp.nameB_last s h6 HN.out), rfl⟩
 | false =>
 have HY : Hid (s.data.toList.all Pp.okB = true → true = Pp.nameB s.data.toList) := fun h8 =>
  Pp.nameB_yes s (by omega) (by omega) (by simpa using c3) (by simpa using c4) h0 (by simpa using c5) h6 (by simpa using c6) h8
 go_enter Tryz.func59, Tryz.ntmps59
 go_wp2_with fail
 go_loop [33] (fun i => ∃ k : Nat, k ≤ s.size ∧ i = .int .i64 k ∧ (s.data.toList.take k).all Pp.okB = true) (fun i => s.size - (intOf i).toNat)
 case atStart => exact ⟨0, Nat.zero_le _, rfl, by simp⟩
 case round =>
  obtain ⟨k, hk, rfl, hall⟩ := hrel
  have HA : Hid ((s.data.toList.take k).all Pp.okB = true) := hall
  clear hall
  by_cases hlt : k < s.size
  · cases hok : Pp.okB s[k] with
    | true =>
     go_wp2_with (go_at_call 100; refine (inNames_any _ _).mono ?_; rintro e w' ⟨rfl, rfl⟩)
     go_round
     case rel => exact ⟨k + 1, by omega, by go_num, Pp.all_snoc s k hlt HA.out hok⟩
     case measure => simp [intOf]; omega
    | false =>
     go_wp2_with (go_at_call 100; refine (inNames_any _ _).mono ?_; rintro e w' ⟨rfl, rfl⟩)
     go_ret
     exact ⟨Pp.ret_bool (Pp.nameB_bad s k hlt hok), rfl⟩
  · go_wp2_with fail
    go_ret
    exact ⟨Pp.ret_bool (HY.out (by have := HA.out; rwa [List.take_of_length_le (by simp; omega)] at this)), rfl⟩
end Go.Proofs.YtchlgpeiombmdaaGreat
set_option linter.unusedSimpArgs false
set_option linter.unusedVariables false
namespace Go.Proofs.YtchlgpeiombmdaaGreat
open Go.RowKit

set_option maxHeartbeats 400000 in
theorem scut_miss (s : ByteArray) (w : World) (hs : s.size ≤ maxLen) (h : 47 ∉ s.data.toList) :
    Calls Tryz.prog 99 #[.string s, .string ⟨#[47]⟩] w fun e w' => e = .returned (.tuple #[.string s, .string ⟨#[]⟩, .bool false]) ∧ Below w.heap.size w w' := by
 unfold maxLen at hs
 have HI : Hid (Lib.indexByte s.data.toList 47 = -1) := Pp.idx_none _ _ h
 clear h
 go_enter Tryz.func99, Tryz.ntmps99
 go_wp2_with (go_at_call 124; refine (Tryz.stringslite_Index_one _ _ _).mono ?_; rintro e w' ⟨rfl, rfl⟩; rw [HI.out])
 go_ret3
 exact ⟨rfl, Below.refl _ _⟩
set_option maxHeartbeats 400000 in
theorem scut_hit (s : ByteArray) (a b : List UInt8) (w : World) (hs : s.size ≤ maxLen) (h : 47 ∉ a) (hab : s.data.toList = a ++ 47 :: b) :
    Calls Tryz.prog 99 #[.string s, .string ⟨#[47]⟩] w fun e w' => e = .returned (.tuple #[.string ⟨a.toArray⟩, .string ⟨b.toArray⟩, .bool true]) ∧ Below w.heap.size w w' := by
 unfold maxLen at hs
 have HI := hid (show Lib.indexByte s.data.toList 47 = a.length from by rw [hab]; exact Pp.idx_of a b 47 h)
 have hz : s.size = a.length + b.length + 1 := by rw [Lib.size_eq, hab]; simp; try omega
 have l1 : (a.length : Int) ≤ s.size := by omega
 have l2 : (a.length : Int) + 1 ≤ s.size := by omega
 have HA := hid (show s.extract 0 a.length = ⟨a.toArray⟩ from Pp.bytes_eq (by rw [Lib.extract_data, hab]; simp))
 have HB := hid (show s.extract (a.length + 1) s.size = ⟨b.toArray⟩ from Pp.bytes_eq (by rw [Lib.extract_data, hab, hz]; simp))
 clear h hab hz
 go_enter Tryz.func99, Tryz.ntmps99
 go_wp2_with (go_at_call 124; refine (Tryz.stringslite_Index_one _ _ _).mono ?_; rintro e w' ⟨rfl, rfl⟩; rw [HI.out])
 go_region
 go_wp2
 go_ret3
 exact ⟨by rw [HA.out, HB.out]; rfl, (Below.refl _ _).drew⟩
set_option maxHeartbeats 400000 in
theorem cut_miss (s : ByteArray) (w : World) (hs : s.size ≤ maxLen) (h : 47 ∉ s.data.toList) :
    Calls Tryz.prog 58 #[.string s, .string ⟨#[47]⟩] w fun e w' => e = .returned (.tuple #[.string s, .string ⟨#[]⟩, .bool false]) ∧ Below w.heap.size w w' := by
 go_enter Tryz.func58, Tryz.ntmps58
 go_wp2_with fail
 refine (scut_miss s _ hs h).mono ?_
 rintro e w' ⟨rfl, hb⟩
 clear hs h
 go_wp2
 go_ret3
 exact ⟨rfl, hb⟩
set_option maxHeartbeats 400000 in
theorem cut_hit (s : ByteArray) (a b : List UInt8) (w : World) (hs : s.size ≤ maxLen) (h : 47 ∉ a) (hab : s.data.toList = a ++ 47 :: b) :
    Calls Tryz.prog 58 #[.string s, .string ⟨#[47]⟩] w fun e w' => e = .returned (.tuple #[.string ⟨a.toArray⟩, .string ⟨b.toArray⟩, .bool true]) ∧ Below w.heap.size w w' := by
 have HAB : Hid (s.data.toList = a ++ 47 :: b) := hab
 clear hab
 go_enter Tryz.func58, Tryz.ntmps58
 go_wp2_with fail
 refine (scut_hit s a b _ hs h HAB.out).mono ?_
 rintro e w' ⟨rfl, hb⟩
 clear hs h
 go_wp2
 go_ret3
 exact ⟨rfl, hb⟩
def msr (r m : Value) : Nat := match m, r with
 | .bool true, .string s => s.size + 1
 | _, _ => 0
set_option maxHeartbeats 800000 in
theorem check_any (s : ByteArray) (w : World) (hs : s.size ≤ 1000000000000000) :
    Calls Tryz.prog 32 #[.string s] w fun e w' => e = .returned (.int .i64 (Pp.chk s.data.toList)) ∧ Below w.heap.size w w' := by
 go_enter Tryz.func32, Tryz.ntmps32
 go_wp2_with fail
 go_loopw [3, 4, 5] (fun d r m wr => ∃ (dn : List (List UInt8)) (t : ByteArray) (b : Bool), d = .int .i64 dn.length ∧ r = .string t ∧ m = .bool b ∧ dn.all Pp.nameB = true ∧ t.size ≤ s.size ∧ dn.length ≤ s.size + 1 ∧
     (b = true → Pp.nm s.data.toList = dn ++ Pp.nm t.data.toList) ∧ (b = false → Pp.nm s.data.toList = dn) ∧ Below w.heap.size w wr) (fun _ r m _ => msr r m)
 case atStart => exact ⟨[], s, true, rfl, rfl, rfl, rfl, Nat.le_refl _, by simp, fun _ => rfl, (fun h => by cases h), Below.refl _ _⟩
 case round =>
  obtain ⟨dn, t, b, rfl, rfl, rfl, hall, hts, hdn, h1, h2, hbel⟩ := hrel
  have HA : Hid (dn.all Pp.nameB = true) := hall
  clear hall
  cases b with
  | false =>
   have HN : Hid (Pp.nm s.data.toList = dn) := h2 rfl
   clear h1 h2
   by_cases hd : 6 < (dn.length : Int)
   · go_wp2_with fail
     go_ret
     exact ⟨Pp.ret_int (Pp.chk_two s HN.out HA.out (Or.inl hd)), hbel⟩
   by_cases hz : 80 < (s.size : Int)
   · go_wp2_with fail
     go_ret
     exact ⟨Pp.ret_int (Pp.chk_two s HN.out HA.out (Or.inr hz)), hbel⟩
   go_wp2_with fail
   go_ret
   exact ⟨Pp.ret_int (Pp.chk_zero s HN.out HA.out (by omega) (by omega)), hbel⟩
  | true =>
   have HN : Hid (Pp.nm s.data.toList = dn ++ Pp.nm t.data.toList) := h1 rfl
   clear h1 h2
   have hlen := Pp.len_add s t HN.out
   by_cases h47 : 47 ∈ t.data.toList
   · obtain ⟨a, b, ha, hab⟩ := Pp.split_at _ _ h47
     have HAB : Hid (t.data.toList = a ++ 47 :: b) := hab
     have hz : t.size = a.length + b.length + 1 := by rw [Lib.size_eq, hab]; simp; try omega
     have HN2 := hid (show Pp.nm s.data.toList = dn ++ a :: Pp.nm b from by rw [HN.out, hab, Pp.nm_cut a b ha])
     clear h47 hab
     cases hn : Pp.nameB a with
     | true =>
      have HM : Hid (Pp.nameB a = true) := hn
      clear hn
      go_wp2_with fail
      refine (cut_hit t a b _ (by unfold maxLen; omega) ha HAB.out).mono ?_
      rintro e w1 ⟨rfl, hb1⟩
      go_wp2_with fail
      refine (isName_any ⟨a.toArray⟩ _ (by unfold maxLen; rw [Pp.sz]; omega)).mono ?_
      rintro e w2 ⟨rfl, rfl⟩
      simp only [HM.out]
      go_wp2_with fail
      go_roundw
      case rel => exact ⟨dn ++ [a], ⟨b.toArray⟩, true, by simp, rfl, rfl, Pp.all_add HA.out HM.out, by rw [Pp.sz]; omega, by simp; omega, (fun _ => by rw [HN2.out]; simp), (fun h => by cases h), hbel.trans (hb1.mono hbel.size)⟩
      case measure => simp only [msr, Pp.sz]; omega
     | false =>
      have HM : Hid (Pp.nameB a = false) := hn
      clear hn
      go_wp2_with fail
      refine (cut_hit t a b _ (by unfold maxLen; omega) ha HAB.out).mono ?_
      rintro e w1 ⟨rfl, hb1⟩
      go_wp2_with fail
      refine (isName_any ⟨a.toArray⟩ _ (by unfold maxLen; rw [Pp.sz]; omega)).mono ?_
      rintro e w2 ⟨rfl, rfl⟩
      simp only [HM.out]
      go_wp2_with fail
      go_ret
      exact ⟨Pp.ret_int (Pp.chk_one s HN2.out HM.out), hbel.trans (hb1.mono hbel.size)⟩
   · have HN2 := hid (show Pp.nm s.data.toList = dn ++ [t.data.toList] from by rw [HN.out, Pp.nm_none _ h47])
     cases hn : Pp.nameB t.data.toList with
     | true =>
      have HM : Hid (Pp.nameB t.data.toList = true) := hn
      clear hn
      go_wp2_with fail
      refine (cut_miss t _ (by unfold maxLen; omega) h47).mono ?_
      rintro e w1 ⟨rfl, hb1⟩
      go_wp2_with fail
      refine (isName_any t _ (by unfold maxLen; omega)).mono ?_
      rintro e w2 ⟨rfl, rfl⟩
      simp only [HM.out]
      go_wp2_with fail
      go_roundw
      case rel => exact ⟨dn ++ [t.data.toList], ⟨#[]⟩, false, by simp, rfl, rfl, Pp.all_add HA.out HM.out, by rw [Lib.size_eq]; simp, by simp; omega, (fun h => by cases h), (fun _ => HN2.out), hbel.trans (hb1.mono hbel.size)⟩
      case measure => simp only [msr]; omega
     | false =>
      have HM : Hid (Pp.nameB t.data.toList = false) := hn
      clear hn
      go_wp2_with fail
      refine (cut_miss t _ (by unfold maxLen; omega) h47).mono ?_
      rintro e w1 ⟨rfl, hb1⟩
      go_wp2_with fail
      refine (isName_any t _ (by unfold maxLen; omega)).mono ?_
      rintro e w2 ⟨rfl, rfl⟩
      simp only [HM.out]
      go_wp2_with fail
      go_ret
      exact ⟨Pp.ret_int (Pp.chk_one s HN2.out HM.out), hbel.trans (hb1.mono hbel.size)⟩
end Go.Proofs.YtchlgpeiombmdaaGreat
set_option linter.unusedSimpArgs false
set_option linter.unusedVariables false
namespace Go.Proofs.YtchlgpeiombmdaaGreat
open Go.RowKit

set_option maxHeartbeats 400000 in
theorem checkAll_any (ls : List ByteArray) (b cap : Nat) (w : World) (hb : b < w.heap.size) (hn : ls.length ≤ 1000) (hs : ∀ i (h : i < ls.length), (ls[i]).size ≤ 1000000000000000)
    (hc : ∀ i (h : i < ls.length), w.cell? ⟨b, i, none⟩ = some (.string ls[i])) :
    Calls Tryz.prog 118 #[.slice (some ⟨b, 0, none⟩) ls.length cap] w fun e w' => e = .returned (.int .i64 (Pp.chks (ls.map fun s => s.data.toList))) ∧ Below w.heap.size w w' := by
 have HS : Hid (∀ i (h : i < ls.length), (ls[i]).size ≤ 1000000000000000) := hs
 have HC : Hid (∀ i (h : i < ls.length), w.cell? ⟨b, i, none⟩ = some (.string ls[i])) := hc
 clear hs hc
 go_enter Tryz.func118, Tryz.ntmps118
 go_wp2_with fail
 go_loopw [8] (fun i wr => ∃ k : Nat, k ≤ ls.length ∧ i = .int .i64 k ∧ Pp.chks (ls.map fun s => s.data.toList) = Pp.chks ((ls.drop k).map fun s => s.data.toList) ∧ Below w.heap.size w wr) (fun i _ => ls.length - (intOf i).toNat)
 case atStart => exact ⟨0, Nat.zero_le _, rfl, rfl, Below.refl _ _⟩
 case round =>
  obtain ⟨k, hk, rfl, heq, hbel⟩ := hrel
  have HE : Hid (Pp.chks (ls.map fun s => s.data.toList) = Pp.chks ((ls.drop k).map fun s => s.data.toList)) := heq
  clear heq
  by_cases hlt : k < ls.length
  · have hcell : wr.cell? ⟨b, k, none⟩ = some (.string ls[k]) := (hbel.cell (p := ⟨b, k, none⟩) hb).trans (HC.out k hlt)
    have HD : Hid (ls.drop k = ls[k] :: ls.drop (k + 1)) := List.drop_eq_getElem_cons hlt
    cases hz : (Pp.chk (ls[k]).data.toList == 0) with
    | true =>
     have HZ := hid (show Pp.chk (ls[k]).data.toList = 0 from by simpa using hz)
     clear hz
     go_wp2_with fail
     refine (check_any _ _ (HS.out k hlt)).mono ?_
     rintro e w1 ⟨rfl, hb1⟩
     rw [HZ.out]
     go_wp2_with fail
     go_roundw
     case rel => exact ⟨k + 1, by omega, by simp, by rw [HE.out, HD.out, List.map_cons, Pp.chks, if_pos HZ.out], hbel.trans (hb1.mono hbel.size)⟩
     case measure => simp [intOf]; omega
    | false =>
     have HZ := hid (show ¬ Pp.chk (ls[k]).data.toList = 0 from by simpa using hz)
     go_wp2_with fail
     refine (check_any _ _ (HS.out k hlt)).mono ?_
     rintro e w1 ⟨rfl, hb1⟩
     go_wp2_with fail
     go_ret
     exact ⟨Pp.ret_int (by rw [HE.out, HD.out, List.map_cons, Pp.chks, if_neg HZ.out]), hbel.trans (hb1.mono hbel.size)⟩
  · go_wp2_with fail
    go_ret
    exact ⟨Pp.ret_int (by rw [HE.out, List.drop_of_length_le (by omega)]; rfl), hbel⟩
theorem below_trans {a b c : World} (h1 : Below a.heap.size a b) (h2 : Below b.heap.size b c) : Below a.heap.size a c := h1.trans (h2.mono h1.size)
end Go.Proofs.YtchlgpeiombmdaaGreat
set_option linter.unusedSimpArgs false
set_option linter.unusedVariables false
namespace Go.Proofs.YtchlgpeiombmdaaGreat
open Go.RowKit

theorem lastIdx_any (s : ByteArray) (c : UInt8) (w : World) (hs : s.size ≤ 1000000000000000) :
    Calls Tryz.prog 153 #[.string s, .string ⟨#[c]⟩] w fun e w' => e = .returned (.int .i64 (Lib.lastIndexByte s (c.toNat : Int))) ∧ w' = w :=
 Tryz.strings_LastIndex_one s ⟨#[c]⟩ rfl (by omega) w
set_option maxHeartbeats 400000 in
theorem split_any (s : ByteArray) (w : World) (hs : s.size ≤ 1000000000000000) :
    Calls Tryz.prog 123 #[.string s] w fun e w' => e = .returned (.tuple #[.string ⟨(Pp.par s.data.toList).toArray⟩, .string ⟨(Pp.lst s.data.toList).toArray⟩]) ∧ Below w.heap.size w w' := by
 rcases Pp.last_cases s 47 with ⟨e, hn⟩ | ⟨a, b, e, hn, hl⟩
 · have HE : Hid (Lib.lastIndexByte s ((47 : UInt8).toNat : Int) = -1) := e
   have HP := hid (show s.extract 0 0 = ⟨(Pp.par s.data.toList).toArray⟩ from Pp.bytes_eq (by rw [Lib.extract_data, Pp.par_none hn]; simp))
   have HL := hid (show ⟨(Pp.lst s.data.toList).toArray⟩ = s from by rw [Pp.lst_none hn])
   clear e hn
   go_enter Tryz.func123, Tryz.ntmps123
   go_wp2_with fail
   refine (lastIdx_any s 47 _ hs).mono ?_
   rintro e w' ⟨rfl, rfl⟩
   rw [HE.out]
   go_wp2_with fail
   go_region
   go_wp2
   go_ret2
   exact ⟨by rw [show (max (-1 : Int) 0).toNat = 0 from rfl, HP.out, HL.out]; rfl, (Below.refl _ _).drew⟩
 · have HE : Hid (Lib.lastIndexByte s ((47 : UInt8).toNat : Int) = a.length) := e
   have hz : s.size = a.length + b.length + 1 := by rw [Lib.size_eq, hl]; simp; try omega
   have l1 : (a.length : Int) ≤ s.size := by omega
   have l2 : (a.length : Int) + 1 ≤ s.size := by omega
   have HP := hid (show s.extract 0 a.length = ⟨(Pp.par s.data.toList).toArray⟩ from Pp.bytes_eq (by rw [Lib.extract_data, hl, Pp.par_cut a hn]; simp))
   have HL := hid (show s.extract (a.length + 1) s.size = ⟨(Pp.lst s.data.toList).toArray⟩ from Pp.bytes_eq (by rw [Lib.extract_data, hl, Pp.lst_cut a hn, hz]; simp))
   clear e hn hl hz
   go_enter Tryz.func123, Tryz.ntmps123
   go_wp2_with fail
   refine (lastIdx_any s 47 _ hs).mono ?_
   rintro e w' ⟨rfl, rfl⟩
   rw [HE.out]
   go_wp2_with fail
   go_region
   go_wp2
   go_ret2
   exact ⟨by rw [HP.out, HL.out]; rfl, (Below.refl _ _).drew⟩
end Go.Proofs.YtchlgpeiombmdaaGreat
set_option linter.unusedSimpArgs false
set_option linter.unusedVariables false
namespace Go.Proofs.YtchlgpeiombmdaaGreat
open Go.RowKit

theorem checkAll1 (s : ByteArray) (ty : TypeId) (w : World) (hs : s.size ≤ 1000000000000000) :
    Calls Tryz.prog 118 #[.slice (some ⟨w.heap.size, 0, none⟩) 1 1] (w.alloc (.cells #[.string s] ty)) fun e w' => e = .returned (.int .i64 (Pp.chk s.data.toList)) ∧ Below w.heap.size w w' := by
 refine (checkAll_any [s] w.heap.size 1 _ (by simp) (by simp) (fun i h => ?_) (fun i h => ?_)).mono ?_
 · obtain rfl : i = 0 := by simpa using h
   exact hs
 · obtain rfl : i = 0 := by simpa using h
   simp
 · rintro e w' ⟨rfl, hb⟩
   refine ⟨Pp.ret_int ?_, ((Below.refl _ _).alloc (Nat.le_refl _) _).trans (hb.mono (by simp))⟩
   simp only [List.map, Pp.chks]; split
   · rename_i h; exact h.symm
   · rfl
set_option maxHeartbeats 400000 in
theorem parent_any (s : ByteArray) (w : World) (hs : s.size ≤ 1000000000000000) :
    Calls Tryz.prog 97 #[.string s] w fun e w' => e = .returned (.tuple #[.string ⟨(Pp.ifc (Pp.chk s.data.toList) (Pp.par s.data.toList)).toArray⟩, .int .i64 (Pp.chk s.data.toList)]) ∧ Below w.heap.size w w' := by
 by_cases hz : Pp.chk s.data.toList = 0
 · have HZ : Hid (Pp.chk s.data.toList = 0) := hz
   have HR : Hid (Pp.ifc 0 (Pp.par s.data.toList) = Pp.par s.data.toList) := Pp.ifc_yes rfl _
   clear hz
   go_enter Tryz.func97, Tryz.ntmps97
   go_wp2_with fail
   refine (checkAll1 s _ _ hs).mono ?_
   rintro e w1 ⟨rfl, hb1⟩
   rw [HZ.out]
   go_wp2_with fail
   refine (split_any s _ hs).mono ?_
   rintro e w2 ⟨rfl, hb2⟩
   go_wp2
   go_ret2
   exact ⟨by rw [HZ.out, HR.out]; rfl, hb1.trans (hb2.mono hb1.size)⟩
 · have hz2 : (Pp.chk s.data.toList == 0) = false := by simpa using hz
   have HR : Hid (Pp.ifc (Pp.chk s.data.toList) (Pp.par s.data.toList) = []) := Pp.ifc_no hz _
   clear hz
   go_enter Tryz.func97, Tryz.ntmps97
   go_wp2_with fail
   refine (checkAll1 s _ _ hs).mono ?_
   rintro e w1 ⟨rfl, hb1⟩
   go_wp2
   go_ret2
   exact ⟨by rw [HR.out]; rfl, hb1⟩
end Go.Proofs.YtchlgpeiombmdaaGreat
set_option linter.unusedSimpArgs false
set_option linter.unusedVariables false
namespace Go.Proofs.YtchlgpeiombmdaaGreat
open Go.RowKit

namespace Pp
theorem own_below {w w' : World} {base : Nat} {e : TypeId} {size : Nat} {v : Value} {n : Nat} {xs : List Value} (h : w.ownsRow base e size v n xs) (hb : Below w.heap.size w w') : w'.ownsRow base e size v n xs := by
 obtain ⟨h1, h2⟩ := h
 refine ⟨h1, ?_⟩
 rcases h2 with h2 | ⟨g, cap, cur, hv, hg, hh, r⟩
 · exact .inl h2
 · refine .inr ⟨g, cap, cur, hv, hg, ?_, r⟩
   have hlt : g < w.heap.size := by
    rcases Nat.lt_or_ge g w.heap.size with h | h
    · exact h
    · rw [Array.getElem?_eq_none h] at hh; cases hh
   rw [hb.block g hlt]; exact hh
theorem empty_iff (s : ByteArray) : s.toList.isEmpty = true ↔ s.data.toList = [] := by rw [Lib.toList_data, List.isEmpty_iff]
theorem not_empty {s : ByteArray} (h : s.toList.isEmpty = false) : ¬ s.data.toList = [] := by
 intro e; rw [← empty_iff, h] at e; cases e
end Pp


namespace Pp
end Pp
end Go.Proofs.YtchlgpeiombmdaaGreat
