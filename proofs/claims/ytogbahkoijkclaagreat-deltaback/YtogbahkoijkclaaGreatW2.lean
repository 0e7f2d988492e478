/- What strings.Cut at a slash and path.Check answer, for every text. -/
import Derived.Test.YtogbahkoijkclaaGreatW1
import Derived.Deep.QuietTactic
import Derived.BigQuiet
import Derived.RegionTactic
set_option linter.unusedSimpArgs false
set_option linter.unusedVariables false
namespace Go.Proofs.YtogbahkoijkclaaGreat
open Go.RowKit

set_option maxHeartbeats 400000 in
theorem scut_miss (s : ByteArray) (w : World) (hs : s.size ≤ maxLen) (h : 47 ∉ s.data.toList) :
    Calls Tryz.prog 50 #[.string s, .string ⟨#[47]⟩] w fun e w' => e = .returned (.tuple #[.string s, .string ⟨#[]⟩, .bool false]) ∧ Below w.heap.size w w' := by
  unfold maxLen at hs
  have HI : Hid (Lib.indexByte s.data.toList 47 = -1) := Pp.idx_none _ _ h
  clear h
  go_enter Tryz.func50, Tryz.ntmps50
  go_wp2_with (go_at_call 62; refine (Tryz.stringslite_Index_one _ _ _).mono ?_; rintro e w' ⟨rfl, rfl⟩; rw [HI.out])
  go_ret3
  exact ⟨rfl, Below.refl _ _⟩
set_option maxHeartbeats 400000 in
theorem scut_hit (s : ByteArray) (a b : List UInt8) (w : World) (hs : s.size ≤ maxLen) (h : 47 ∉ a) (hab : s.data.toList = a ++ 47 :: b) :
    Calls Tryz.prog 50 #[.string s, .string ⟨#[47]⟩] w fun e w' => e = .returned (.tuple #[.string ⟨a.toArray⟩, .string ⟨b.toArray⟩, .bool true]) ∧ Below w.heap.size w w' := by
  unfold maxLen at hs
  have HI : Hid (Lib.indexByte s.data.toList 47 = a.length) := (by rw [hab]; exact Pp.idx_of a b 47 h : Lib.indexByte s.data.toList 47 = a.length)
  have hz : s.size = a.length + b.length + 1 := by rw [Lib.size_eq, hab]; simp; try omega
  have l1 : (a.length : Int) ≤ s.size := by omega
  have l2 : (a.length : Int) + 1 ≤ s.size := by omega
  have HA : Hid (s.extract 0 a.length = ⟨a.toArray⟩) := (Pp.bytes_eq (by rw [Lib.extract_data, hab]; simp) : s.extract 0 a.length = ⟨a.toArray⟩)
  have HB : Hid (s.extract (a.length + 1) s.size = ⟨b.toArray⟩) := (Pp.bytes_eq (by rw [Lib.extract_data, hab, hz]; simp) : s.extract (a.length + 1) s.size = ⟨b.toArray⟩)
  clear h hab hz
  go_enter Tryz.func50, Tryz.ntmps50
  go_wp2_with (go_at_call 62; refine (Tryz.stringslite_Index_one _ _ _).mono ?_; rintro e w' ⟨rfl, rfl⟩; rw [HI.out])
  go_region
  go_wp2
  go_ret3
  exact ⟨by rw [HA.out, HB.out]; rfl, (Below.refl _ _).drew⟩
set_option maxHeartbeats 400000 in
theorem cut_miss (s : ByteArray) (w : World) (hs : s.size ≤ maxLen) (h : 47 ∉ s.data.toList) :
    Calls Tryz.prog 34 #[.string s, .string ⟨#[47]⟩] w fun e w' => e = .returned (.tuple #[.string s, .string ⟨#[]⟩, .bool false]) ∧ Below w.heap.size w w' := by
  go_enter Tryz.func34, Tryz.ntmps34
  go_wp2_with fail
  refine (scut_miss s _ hs h).mono ?_
  rintro e w' ⟨rfl, hb⟩
  clear hs h
  go_wp2
  go_ret3
  exact ⟨rfl, hb⟩
set_option maxHeartbeats 400000 in
theorem cut_hit (s : ByteArray) (a b : List UInt8) (w : World) (hs : s.size ≤ maxLen) (h : 47 ∉ a) (hab : s.data.toList = a ++ 47 :: b) :
    Calls Tryz.prog 34 #[.string s, .string ⟨#[47]⟩] w fun e w' => e = .returned (.tuple #[.string ⟨a.toArray⟩, .string ⟨b.toArray⟩, .bool true]) ∧ Below w.heap.size w w' := by
  have HAB : Hid (s.data.toList = a ++ 47 :: b) := hab
  clear hab
  go_enter Tryz.func34, Tryz.ntmps34
  go_wp2_with fail
  refine (scut_hit s a b _ hs h HAB.out).mono ?_
  rintro e w' ⟨rfl, hb⟩
  clear hs h
  go_wp2
  go_ret3
  exact ⟨rfl, hb⟩

def msr (r m : Value) : Nat := match m, r with
  | .bool true, .string s => s.size + 1
  | _, _ => 0

set_option maxHeartbeats 800000 in
theorem check_any (s : ByteArray) (w : World) (hs : s.size ≤ 1000000000000000) :
    Calls Tryz.prog 24 #[.string s] w fun e w' => e = .returned (.int .i64 (Pp.chk s.data.toList)) ∧ Below w.heap.size w w' := by
  go_enter Tryz.func24, Tryz.ntmps24
  go_wp2_with fail
  go_loopw [3, 4, 5] (fun d r m wr => ∃ (dn : List (List UInt8)) (t : ByteArray) (b : Bool), d = .int .i64 dn.length ∧ r = .string t ∧ m = .bool b ∧ dn.all Pp.nameB = true ∧ t.size ≤ s.size ∧ dn.length ≤ s.size + 1 ∧
      (b = true → Pp.nm s.data.toList = dn ++ Pp.nm t.data.toList) ∧ (b = false → Pp.nm s.data.toList = dn) ∧ Below w.heap.size w wr) (fun _ r m _ => msr r m)
  case atStart => exact ⟨[], s, true, rfl, rfl, rfl, rfl, Nat.le_refl _, by simp, fun _ => rfl, (fun h => by cases h), Below.refl _ _⟩
  case round =>
    obtain ⟨dn, t, b, rfl, rfl, rfl, hall, hts, hdn, h1, h2, hbel⟩ := hrel
    have HA : Hid (dn.all Pp.nameB = true) := hall
    clear hall
    cases b with
    | false =>
      have HN : Hid (Pp.nm s.data.toList = dn) := h2 rfl
      clear h1 h2
      by_cases hd : 6 < (dn.length : Int)
      · go_wp2_with fail
        go_ret
        exact ⟨Pp.ret_int (Pp.chk_two s HN.out HA.out (Or.inl hd)), hbel⟩
      by_cases hz : 80 < (s.size : Int)
      · go_wp2_with fail
        go_ret
        exact ⟨Pp.ret_int (Pp.chk_two s HN.out HA.out (Or.inr hz)), hbel⟩
      go_wp2_with fail
      go_ret
      exact ⟨Pp.ret_int (Pp.chk_zero s HN.out HA.out (by omega) (by omega)), hbel⟩
    | true =>
      have HN : Hid (Pp.nm s.data.toList = dn ++ Pp.nm t.data.toList) := h1 rfl
      clear h1 h2
      have hlen := Pp.len_add s t HN.out
      by_cases h47 : 47 ∈ t.data.toList
      · obtain ⟨a, b, ha, hab⟩ := Pp.split_at _ _ h47
        have HAB : Hid (t.data.toList = a ++ 47 :: b) := hab
        have hz : t.size = a.length + b.length + 1 := by rw [Lib.size_eq, hab]; simp; try omega
        have HN2 : Hid (Pp.nm s.data.toList = dn ++ a :: Pp.nm b) := (by rw [HN.out, hab, Pp.nm_cut a b ha] : Pp.nm s.data.toList = dn ++ a :: Pp.nm b)
        clear h47 hab
        cases hn : Pp.nameB a with
        | true =>
          have HM : Hid (Pp.nameB a = true) := hn
          clear hn
          go_wp2_with fail
          refine (cut_hit t a b _ (by unfold maxLen; omega) ha HAB.out).mono ?_
          rintro e w1 ⟨rfl, hb1⟩
          go_wp2_with fail
          refine (isName_any ⟨a.toArray⟩ _ (by unfold maxLen; rw [Pp.sz]; omega)).mono ?_
          rintro e w2 ⟨rfl, rfl⟩
          simp only [HM.out]
          go_wp2_with fail
          go_roundw
          case rel => exact ⟨dn ++ [a], ⟨b.toArray⟩, true, by simp, rfl, rfl, Pp.all_add HA.out HM.out, by rw [Pp.sz]; omega, by simp; omega, (fun _ => by rw [HN2.out]; simp), (fun h => by cases h), hbel.trans (hb1.mono hbel.size)⟩
          case measure => simp only [msr, Pp.sz]; omega
        | false =>
          have HM : Hid (Pp.nameB a = false) := hn
          clear hn
          go_wp2_with fail
          refine (cut_hit t a b _ (by unfold maxLen; omega) ha HAB.out).mono ?_
          rintro e w1 ⟨rfl, hb1⟩
          go_wp2_with fail
          refine (isName_any ⟨a.toArray⟩ _ (by unfold maxLen; rw [Pp.sz]; omega)).mono ?_
          rintro e w2 ⟨rfl, rfl⟩
          simp only [HM.out]
          go_wp2_with fail
          go_ret
          exact ⟨Pp.ret_int (Pp.chk_one s HN2.out HM.out), hbel.trans (hb1.mono hbel.size)⟩
      · have HN2 : Hid (Pp.nm s.data.toList = dn ++ [t.data.toList]) := (by rw [HN.out, Pp.nm_none _ h47] : Pp.nm s.data.toList = dn ++ [t.data.toList])
        cases hn : Pp.nameB t.data.toList with
        | true =>
          have HM : Hid (Pp.nameB t.data.toList = true) := hn
          clear hn
          go_wp2_with fail
          refine (cut_miss t _ (by unfold maxLen; omega) h47).mono ?_
          rintro e w1 ⟨rfl, hb1⟩
          go_wp2_with fail
          refine (isName_any t _ (by unfold maxLen; omega)).mono ?_
          rintro e w2 ⟨rfl, rfl⟩
          simp only [HM.out]
          go_wp2_with fail
          go_roundw
          case rel => exact ⟨dn ++ [t.data.toList], ⟨#[]⟩, false, by simp, rfl, rfl, Pp.all_add HA.out HM.out, by rw [Lib.size_eq]; simp, by simp; omega, (fun h => by cases h), (fun _ => HN2.out), hbel.trans (hb1.mono hbel.size)⟩
          case measure => simp only [msr]; omega
        | false =>
          have HM : Hid (Pp.nameB t.data.toList = false) := hn
          clear hn
          go_wp2_with fail
          refine (cut_miss t _ (by unfold maxLen; omega) h47).mono ?_
          rintro e w1 ⟨rfl, hb1⟩
          go_wp2_with fail
          refine (isName_any t _ (by unfold maxLen; omega)).mono ?_
          rintro e w2 ⟨rfl, rfl⟩
          simp only [HM.out]
          go_wp2_with fail
          go_ret
          exact ⟨Pp.ret_int (Pp.chk_one s HN2.out HM.out), hbel.trans (hb1.mono hbel.size)⟩
end Go.Proofs.YtogbahkoijkclaaGreat
