/- What path.Join and the document's own Joined answer, for every two texts; the law on Join. -/
import Derived.Test.YtkbcadiiceinaaaDoorW12
set_option linter.unusedSimpArgs false
set_option linter.unusedVariables false
namespace Go.Proofs.YtkbcadiiceinaaaDoor
open Go.RowKit

namespace Pp
theorem empty_iff (s : ByteArray) : s.toList.isEmpty = true ↔ s.data.toList = [] := by rw [Lib.toList_data, List.isEmpty_iff]
theorem not_empty {s : ByteArray} (h : s.toList.isEmpty = false) : ¬ s.data.toList = [] := by
  intro e; rw [← empty_iff, h] at e; cases e
end Pp

set_option maxHeartbeats 400000 in
theorem rJoined_any (s t : ByteArray) (w : World) (hs : s.size ≤ 1000000000) (ht : t.size ≤ 1000000000) :
    Calls Tryd.prog 19 #[.string s, .string t] w fun e w' => e = .returned (.string ⟨(Pp.jn s.data.toList t.data.toList).toArray⟩) ∧ w' = w := by
  cases hc : s.toList.isEmpty with
  | true =>
    have HP : Hid (⟨(Pp.jn s.data.toList t.data.toList).toArray⟩ = t) := (by rw [Lib.toList_data, List.isEmpty_iff] at hc; rw [Pp.jn, if_pos hc] : ⟨(Pp.jn s.data.toList t.data.toList).toArray⟩ = t)
    go_enter Tryd.func19, Tryd.ntmps19
    go_wp2
    go_ret
    exact ⟨by rw [HP.out]; rfl, rfl⟩
  | false =>
    have HP : Hid (s ++ ⟨#[47]⟩ ++ t = ⟨(Pp.jn s.data.toList t.data.toList).toArray⟩) := (Pp.bytes_eq (by
      rw [Lib.toList_data] at hc
      rw [Joins.data_append, Joins.data_append, Pp.jn, if_neg (by intro h; rw [h] at hc; cases hc)]; simp) : s ++ ⟨#[47]⟩ ++ t = ⟨(Pp.jn s.data.toList t.data.toList).toArray⟩)
    go_enter Tryd.func19, Tryd.ntmps19
    go_wp2
    go_ret
    exact ⟨by rw [← HP.out]; rfl, rfl⟩

set_option maxHeartbeats 800000 in
theorem join_any (s t : ByteArray) (w : World) (hs : s.size ≤ 100000000) (ht : t.size ≤ 100000000) :
    Calls Tryd.prog 17 #[.string s, .string t] w fun e w' => e = .returned (.tuple #[.string ⟨(Pp.ifc (Pp.jnE s.data.toList t.data.toList) (Pp.jn s.data.toList t.data.toList)).toArray⟩, .int .i64 (Pp.jnE s.data.toList t.data.toList)]) ∧ Below w.heap.size w w' := by
  have hlen := Pp.len_jn s.data.toList t.data.toList
  rw [← Lib.size_eq, ← Lib.size_eq] at hlen
  by_cases hz : Pp.jnP s.data.toList = 0
  · have hjE : Pp.jnE s.data.toList t.data.toList = if Pp.nameB t.data.toList = true then Pp.chk (Pp.jn s.data.toList t.data.toList) else 1 := by rw [Pp.jnE, if_pos hz]
    cases hn : Pp.nameB t.data.toList with
    | false =>
      have HN : Hid (Pp.nameB t.data.toList = false) := hn
      have HE : Hid (Pp.jnE s.data.toList t.data.toList = 1) := (by rw [hjE, hn]; rfl : Pp.jnE s.data.toList t.data.toList = 1)
      clear hjE hn
      cases hc : s.toList.isEmpty with
      | true =>
        clear hz
        go_enter Tryd.func17, Tryd.ntmps17
        go_wp2_with fail
        refine (isName_any t _ (by unfold maxLen; omega)).mono ?_
        rintro e w2 ⟨rfl, rfl⟩
        simp only [HN.out]
        go_wp2
        go_ret2
        exact ⟨by rw [HE.out, Pp.ifc_no (by decide)]; rfl, Below.refl _ _⟩
      | false =>
        have HZ : Hid (Pp.chk s.data.toList = 0) := (by rwa [Pp.jnP, if_neg (Pp.not_empty hc)] at hz : Pp.chk s.data.toList = 0)
        clear hz
        go_enter Tryd.func17, Tryd.ntmps17
        go_wp2_with fail
        refine (checkAll1 s _ _ (by omega)).mono ?_
        rintro e w1 ⟨rfl, hb1⟩
        rw [HZ.out]
        go_wp2_with fail
        refine (isName_any t _ (by unfold maxLen; omega)).mono ?_
        rintro e w2 ⟨rfl, rfl⟩
        simp only [HN.out]
        go_wp2
        go_ret2
        exact ⟨by rw [HE.out, Pp.ifc_no (by decide)]; rfl, hb1⟩
    | true =>
      have HN : Hid (Pp.nameB t.data.toList = true) := hn
      have HE : Hid (Pp.jnE s.data.toList t.data.toList = Pp.chk (Pp.jn s.data.toList t.data.toList)) := (by rw [hjE, if_pos hn] : Pp.jnE s.data.toList t.data.toList = Pp.chk (Pp.jn s.data.toList t.data.toList))
      clear hjE hn
      by_cases hq : Pp.chk (Pp.jn s.data.toList t.data.toList) = 0
      · have HQ : Hid (Pp.chk (Pp.jn s.data.toList t.data.toList) = 0) := hq
        clear hq
        cases hc : s.toList.isEmpty with
        | true =>
          clear hz
          go_enter Tryd.func17, Tryd.ntmps17
          go_wp2_with fail
          refine (isName_any t _ (by unfold maxLen; omega)).mono ?_
          rintro e w2 ⟨rfl, rfl⟩
          simp only [HN.out]
          go_wp2_with fail
          refine (joined_any s t _ (by omega) (by omega)).mono ?_
          rintro e w3 ⟨rfl, rfl⟩
          go_wp2_with fail
          refine (checked_ok ⟨(Pp.jn s.data.toList t.data.toList).toArray⟩ _ (by rw [Pp.sz]; omega) HQ.out).mono ?_
          rintro e w4 ⟨rfl, hb4⟩
          go_wp2
          go_ret2
          exact ⟨by rw [HE.out, HQ.out, Pp.ifc_yes rfl]; rfl, hb4⟩
        | false =>
          have HZ : Hid (Pp.chk s.data.toList = 0) := (by rwa [Pp.jnP, if_neg (Pp.not_empty hc)] at hz : Pp.chk s.data.toList = 0)
          clear hz
          go_enter Tryd.func17, Tryd.ntmps17
          go_wp2_with fail
          refine (checkAll1 s _ _ (by omega)).mono ?_
          rintro e w1 ⟨rfl, hb1⟩
          rw [HZ.out]
          go_wp2_with fail
          refine (isName_any t _ (by unfold maxLen; omega)).mono ?_
          rintro e w2 ⟨rfl, rfl⟩
          simp only [HN.out]
          go_wp2_with fail
          refine (joined_any s t _ (by omega) (by omega)).mono ?_
          rintro e w3 ⟨rfl, rfl⟩
          go_wp2_with fail
          refine (checked_ok ⟨(Pp.jn s.data.toList t.data.toList).toArray⟩ _ (by rw [Pp.sz]; omega) HQ.out).mono ?_
          rintro e w4 ⟨rfl, hb4⟩
          go_wp2
          go_ret2
          exact ⟨by rw [HE.out, HQ.out, Pp.ifc_yes rfl]; rfl, below_trans hb1 hb4⟩
      · have HQ : Hid (¬ Pp.chk (Pp.jn s.data.toList t.data.toList) = 0) := hq
        clear hq
        cases hc : s.toList.isEmpty with
        | true =>
          clear hz
          go_enter Tryd.func17, Tryd.ntmps17
          go_wp2_with fail
          refine (isName_any t _ (by unfold maxLen; omega)).mono ?_
          rintro e w2 ⟨rfl, rfl⟩
          simp only [HN.out]
          go_wp2_with fail
          refine (joined_any s t _ (by omega) (by omega)).mono ?_
          rintro e w3 ⟨rfl, rfl⟩
          go_wp2_with fail
          refine (checked_no ⟨(Pp.jn s.data.toList t.data.toList).toArray⟩ _ (by rw [Pp.sz]; omega) HQ.out).mono ?_
          rintro e w4 ⟨rfl, hb4⟩
          go_wp2
          go_ret2
          exact ⟨by rw [HE.out, Pp.ifc_no HQ.out]; rfl, hb4⟩
        | false =>
          have HZ : Hid (Pp.chk s.data.toList = 0) := (by rwa [Pp.jnP, if_neg (Pp.not_empty hc)] at hz : Pp.chk s.data.toList = 0)
          clear hz
          go_enter Tryd.func17, Tryd.ntmps17
          go_wp2_with fail
          refine (checkAll1 s _ _ (by omega)).mono ?_
          rintro e w1 ⟨rfl, hb1⟩
          rw [HZ.out]
          go_wp2_with fail
          refine (isName_any t _ (by unfold maxLen; omega)).mono ?_
          rintro e w2 ⟨rfl, rfl⟩
          simp only [HN.out]
          go_wp2_with fail
          refine (joined_any s t _ (by omega) (by omega)).mono ?_
          rintro e w3 ⟨rfl, rfl⟩
          go_wp2_with fail
          refine (checked_no ⟨(Pp.jn s.data.toList t.data.toList).toArray⟩ _ (by rw [Pp.sz]; omega) HQ.out).mono ?_
          rintro e w4 ⟨rfl, hb4⟩
          go_wp2
          go_ret2
          exact ⟨by rw [HE.out, Pp.ifc_no HQ.out]; rfl, below_trans hb1 hb4⟩
  · have HE : Hid (Pp.jnE s.data.toList t.data.toList = Pp.chk s.data.toList) := (by
      rw [Pp.jnE, if_neg hz, Pp.jnP, if_neg (by intro e; exact hz (by rw [Pp.jnP, if_pos e]))] : Pp.jnE s.data.toList t.data.toList = Pp.chk s.data.toList)
    have hne : ¬ s.data.toList = [] := by intro e; exact hz (by rw [Pp.jnP, if_pos e])
    have hc : s.toList.isEmpty = false := by
      cases h : s.toList.isEmpty with
      | false => rfl
      | true => exact absurd ((Pp.empty_iff s).1 h) hne
    have HZ : Hid (¬ Pp.chk s.data.toList = 0) := (by rwa [Pp.jnP, if_neg hne] at hz : ¬ Pp.chk s.data.toList = 0)
    have hz2 : (Pp.chk s.data.toList == 0) = false := by have := HZ.out; simpa using this
    clear hz hne
    go_enter Tryd.func17, Tryd.ntmps17
    go_wp2_with fail
    refine (checkAll1 s _ _ (by omega)).mono ?_
    rintro e w1 ⟨rfl, hb1⟩
    go_wp2
    go_ret2
    exact ⟨by rw [HE.out, Pp.ifc_no HZ.out]; rfl, hb1⟩

set_option maxHeartbeats 800000 in
theorem pathJoins_walk (s t : ByteArray) (w : World) (hs : s.size ≤ 1048576) (ht : t.size ≤ 1048576) :
    Calls Tryd.prog 5 #[.string s, .string t] w fun e w' => e = .returned (.bool true) ∧ Below w.heap.size w w' := by
  have hlen := Pp.len_jn s.data.toList t.data.toList
  rw [← Lib.size_eq, ← Lib.size_eq] at hlen
  cases hc : s.toList.isEmpty with
  | true =>
    have hz : Pp.jnP s.data.toList = 0 := by rw [Pp.jnP, if_pos ((Pp.empty_iff s).1 hc)]
    cases hn : Pp.nameB t.data.toList with
    | false =>
      have HN : Hid (Pp.nameB t.data.toList = false) := hn
      have HE : Hid (Pp.jnE s.data.toList t.data.toList = 1) := (by rw [Pp.jnE, if_pos hz, hn]; rfl : Pp.jnE s.data.toList t.data.toList = 1)
      clear hn hz
      go_enter Tryd.func5, Tryd.ntmps5
      go_wp2_with fail
      refine (join_any s t _ (by omega) (by omega)).mono ?_
      rintro e w1 ⟨rfl, hb1⟩
      rw [HE.out]
      rw [Pp.ifc_no (by decide)]
      go_wp2_with fail
      refine (rIsName_any t _ (by omega)).mono ?_
      rintro e w2 ⟨rfl, rfl⟩
      simp only [HN.out]
      go_wp2_with fail
      refine (begun_any _).mono ?_
      rintro e w3 ⟨rfl, hb3⟩
      go_wp2_with fail
      refine (textIs_yes [] [] 1 _ (Pp.ifc_no (by decide) _).symm).mono ?_
      rintro e w4 ⟨rfl, rfl⟩
      go_wp2
      go_ret
      exact ⟨rfl, (below_trans hb1 hb3)⟩
    | true =>
      have HN : Hid (Pp.nameB t.data.toList = true) := hn
      have hE : Pp.jnE s.data.toList t.data.toList = if Pp.big (Pp.jn s.data.toList t.data.toList) = true then 2 else 0 := by rw [Pp.jnE, if_pos hz, if_pos hn, Pp.jn_chk hz hn]
      cases hb : Pp.big (Pp.jn s.data.toList t.data.toList) with
      | true =>
        have HB : Hid (Pp.big (Pp.jn s.data.toList t.data.toList) = true) := hb
        have HE : Hid (Pp.jnE s.data.toList t.data.toList = 2) := (by rw [hE, hb]; rfl : Pp.jnE s.data.toList t.data.toList = 2)
        clear hn hz hE hb
        go_enter Tryd.func5, Tryd.ntmps5
        go_wp2_with fail
        refine (join_any s t _ (by omega) (by omega)).mono ?_
        rintro e w1 ⟨rfl, hb1⟩
        rw [HE.out]
        rw [Pp.ifc_no (by decide)]
        go_wp2_with fail
        refine (rIsName_any t _ (by omega)).mono ?_
        rintro e w2 ⟨rfl, rfl⟩
        simp only [HN.out]
        go_wp2_with fail
        refine (rJoined_any s t _ (by omega) (by omega)).mono ?_
        rintro e w3 ⟨rfl, rfl⟩
        go_wp2_with fail
        refine (rTooGreat_any ⟨(Pp.jn s.data.toList t.data.toList).toArray⟩ _ (by rw [Pp.sz]; omega)).mono ?_
        rintro e w4 ⟨rfl, hb4⟩
        rw [show Pp.big _ = _ from HB.out]
        go_wp2_with fail
        refine (begun_any _).mono ?_
        rintro e w5 ⟨rfl, hb5⟩
        go_wp2_with fail
        refine (textIs_yes [] _ 2 _ (Pp.ifc_no (by decide) _).symm).mono ?_
        rintro e w6 ⟨rfl, rfl⟩
        go_wp2
        go_ret
        exact ⟨rfl, (below_trans (below_trans hb1 hb4) hb5)⟩
      | false =>
        have HB : Hid (Pp.big (Pp.jn s.data.toList t.data.toList) = false) := hb
        have HE : Hid (Pp.jnE s.data.toList t.data.toList = 0) := (by rw [hE, hb]; rfl : Pp.jnE s.data.toList t.data.toList = 0)
        clear hn hz hE hb
        go_enter Tryd.func5, Tryd.ntmps5
        go_wp2_with fail
        refine (join_any s t _ (by omega) (by omega)).mono ?_
        rintro e w1 ⟨rfl, hb1⟩
        rw [HE.out]
        rw [Pp.ifc_yes rfl]
        go_wp2_with fail
        refine (rIsName_any t _ (by omega)).mono ?_
        rintro e w2 ⟨rfl, rfl⟩
        simp only [HN.out]
        go_wp2_with fail
        refine (rJoined_any s t _ (by omega) (by omega)).mono ?_
        rintro e w3 ⟨rfl, rfl⟩
        go_wp2_with fail
        refine (rTooGreat_any ⟨(Pp.jn s.data.toList t.data.toList).toArray⟩ _ (by rw [Pp.sz]; omega)).mono ?_
        rintro e w4 ⟨rfl, hb4⟩
        rw [show Pp.big _ = _ from HB.out]
        go_wp2_with fail
        refine (begun_any _).mono ?_
        rintro e w5 ⟨rfl, hb5⟩
        go_wp2_with fail
        refine (textIs_yes _ _ 0 _ (Pp.ifc_yes rfl _).symm).mono ?_
        rintro e w6 ⟨rfl, rfl⟩
        go_wp2
        go_ret
        exact ⟨rfl, (below_trans (below_trans hb1 hb4) hb5)⟩
  | false =>
    by_cases hz : Pp.jnP s.data.toList = 0
    · have HZ : Hid (Pp.chk s.data.toList = 0) := (by rwa [Pp.jnP, if_neg (Pp.not_empty hc)] at hz : Pp.chk s.data.toList = 0)
      cases hn : Pp.nameB t.data.toList with
      | false =>
        have HN : Hid (Pp.nameB t.data.toList = false) := hn
        have HE : Hid (Pp.jnE s.data.toList t.data.toList = 1) := (by rw [Pp.jnE, if_pos hz, hn]; rfl : Pp.jnE s.data.toList t.data.toList = 1)
        clear hn hz
        go_enter Tryd.func5, Tryd.ntmps5
        go_wp2_with fail
        refine (join_any s t _ (by omega) (by omega)).mono ?_
        rintro e w1 ⟨rfl, hb1⟩
        rw [HE.out]
        rw [Pp.ifc_no (by decide)]
        go_wp2_with fail
        refine (rCheck_any s _ (by omega)).mono ?_
        rintro e w2 ⟨rfl, hb2⟩
        rw [HZ.out]
        go_wp2_with fail
        refine (rIsName_any t _ (by omega)).mono ?_
        rintro e w3 ⟨rfl, rfl⟩
        simp only [HN.out]
        go_wp2_with fail
        refine (begun_any _).mono ?_
        rintro e w4 ⟨rfl, hb4⟩
        go_wp2_with fail
        refine (textIs_yes [] [] 1 _ (Pp.ifc_no (by decide) _).symm).mono ?_
        rintro e w5 ⟨rfl, rfl⟩
        go_wp2
        go_ret
        exact ⟨rfl, (below_trans (below_trans hb1 hb2) hb4)⟩
      | true =>
        have HN : Hid (Pp.nameB t.data.toList = true) := hn
        have hE : Pp.jnE s.data.toList t.data.toList = if Pp.big (Pp.jn s.data.toList t.data.toList) = true then 2 else 0 := by rw [Pp.jnE, if_pos hz, if_pos hn, Pp.jn_chk hz hn]
        cases hb : Pp.big (Pp.jn s.data.toList t.data.toList) with
        | true =>
          have HB : Hid (Pp.big (Pp.jn s.data.toList t.data.toList) = true) := hb
          have HE : Hid (Pp.jnE s.data.toList t.data.toList = 2) := (by rw [hE, hb]; rfl : Pp.jnE s.data.toList t.data.toList = 2)
          clear hn hz hE hb
          go_enter Tryd.func5, Tryd.ntmps5
          go_wp2_with fail
          refine (join_any s t _ (by omega) (by omega)).mono ?_
          rintro e w1 ⟨rfl, hb1⟩
          rw [HE.out]
          rw [Pp.ifc_no (by decide)]
          go_wp2_with fail
          refine (rCheck_any s _ (by omega)).mono ?_
          rintro e w2 ⟨rfl, hb2⟩
          rw [HZ.out]
          go_wp2_with fail
          refine (rIsName_any t _ (by omega)).mono ?_
          rintro e w3 ⟨rfl, rfl⟩
          simp only [HN.out]
          go_wp2_with fail
          refine (rJoined_any s t _ (by omega) (by omega)).mono ?_
          rintro e w4 ⟨rfl, rfl⟩
          go_wp2_with fail
          refine (rTooGreat_any ⟨(Pp.jn s.data.toList t.data.toList).toArray⟩ _ (by rw [Pp.sz]; omega)).mono ?_
          rintro e w5 ⟨rfl, hb5⟩
          rw [show Pp.big _ = _ from HB.out]
          go_wp2_with fail
          refine (begun_any _).mono ?_
          rintro e w6 ⟨rfl, hb6⟩
          go_wp2_with fail
          refine (textIs_yes [] _ 2 _ (Pp.ifc_no (by decide) _).symm).mono ?_
          rintro e w7 ⟨rfl, rfl⟩
          go_wp2
          go_ret
          exact ⟨rfl, (below_trans (below_trans (below_trans hb1 hb2) hb5) hb6)⟩
        | false =>
          have HB : Hid (Pp.big (Pp.jn s.data.toList t.data.toList) = false) := hb
          have HE : Hid (Pp.jnE s.data.toList t.data.toList = 0) := (by rw [hE, hb]; rfl : Pp.jnE s.data.toList t.data.toList = 0)
          clear hn hz hE hb
          go_enter Tryd.func5, Tryd.ntmps5
          go_wp2_with fail
          refine (join_any s t _ (by omega) (by omega)).mono ?_
          rintro e w1 ⟨rfl, hb1⟩
          rw [HE.out]
          rw [Pp.ifc_yes rfl]
          go_wp2_with fail
          refine (rCheck_any s _ (by omega)).mono ?_
          rintro e w2 ⟨rfl, hb2⟩
          rw [HZ.out]
          go_wp2_with fail
          refine (rIsName_any t _ (by omega)).mono ?_
          rintro e w3 ⟨rfl, rfl⟩
          simp only [HN.out]
          go_wp2_with fail
          refine (rJoined_any s t _ (by omega) (by omega)).mono ?_
          rintro e w4 ⟨rfl, rfl⟩
          go_wp2_with fail
          refine (rTooGreat_any ⟨(Pp.jn s.data.toList t.data.toList).toArray⟩ _ (by rw [Pp.sz]; omega)).mono ?_
          rintro e w5 ⟨rfl, hb5⟩
          rw [show Pp.big _ = _ from HB.out]
          go_wp2_with fail
          refine (begun_any _).mono ?_
          rintro e w6 ⟨rfl, hb6⟩
          go_wp2_with fail
          refine (textIs_yes _ _ 0 _ (Pp.ifc_yes rfl _).symm).mono ?_
          rintro e w7 ⟨rfl, rfl⟩
          go_wp2
          go_ret
          exact ⟨rfl, (below_trans (below_trans (below_trans hb1 hb2) hb5) hb6)⟩
    · have HZ : Hid (¬ Pp.chk s.data.toList = 0) := (by rwa [Pp.jnP, if_neg (Pp.not_empty hc)] at hz : ¬ Pp.chk s.data.toList = 0)
      have HE : Hid (Pp.jnE s.data.toList t.data.toList = Pp.chk s.data.toList) := (by rw [Pp.jnE, if_neg hz, Pp.jnP, if_neg (Pp.not_empty hc)] : Pp.jnE s.data.toList t.data.toList = Pp.chk s.data.toList)
      have hz2 : (Pp.chk s.data.toList == 0) = false := by have := HZ.out; simpa using this
      clear hz
      go_enter Tryd.func5, Tryd.ntmps5
      go_wp2_with fail
      refine (join_any s t _ (by omega) (by omega)).mono ?_
      rintro e w1 ⟨rfl, hb1⟩
      rw [HE.out]
      rw [Pp.ifc_no HZ.out]
      go_wp2_with fail
      refine (rCheck_any s _ (by omega)).mono ?_
      rintro e w2 ⟨rfl, hb2⟩
      go_wp2_with fail
      refine (begun_any _).mono ?_
      rintro e w3 ⟨rfl, hb3⟩
      go_wp2_with fail
      refine (textIs_yes [] [] _ _ (Pp.ifc_no HZ.out _).symm).mono ?_
      rintro e w4 ⟨rfl, rfl⟩
      go_wp2
      go_ret
      exact ⟨rfl, (below_trans (below_trans hb1 hb2) hb3)⟩
end Go.Proofs.YtkbcadiiceinaaaDoor
