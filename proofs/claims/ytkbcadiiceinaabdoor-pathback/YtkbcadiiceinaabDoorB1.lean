/- The laws on paths without the document's answer: there and back, and apart. -/
import Derived.Test.YtkbcadiiceinaabDoorV1
import Derived.Test.YtkbcadiiceinaabDoorPure5
set_option linter.unusedSimpArgs false
set_option linter.unusedVariables false
namespace Go.Proofs.YtkbcadiiceinaabDoor
open Go.RowKit

set_option maxHeartbeats 800000 in
theorem pathApart_walk (s : ByteArray) (n m : Int) (w : World) (hs : s.size ≤ 140737488351232) (hn1 : -9223372036854775808 ≤ n) (hn2 : n ≤ 9223372036854775807) (hm1 : -9223372036854775808 ≤ m) (hm2 : m ≤ 9223372036854775807) :
    Calls Tryd.prog 4 #[.string s, .int .i64 n, .int .i64 m] w fun e w' => e = .returned (.bool true) ∧ Below w.heap.size w w' := by
  clear hn1 hn2 hm1 hm2
  by_cases h1 : Pp.asideE s.data.toList n = 0
  · by_cases h2 : Pp.asideE s.data.toList m = 0
    · have H1 : Hid (Pp.asideE s.data.toList n = 0) := h1
      have H2 : Hid (Pp.asideE s.data.toList m = 0) := h2
      by_cases he : n = m
      · subst he
        clear h1 h2
        go_enter Tryd.func4, Tryd.ntmps4
        go_wp2_with fail
        refine (begun_any _).mono ?_
        rintro e w1 ⟨rfl, hb1⟩
        go_wp2_with fail
        refine (aside_any s n _ (by omega)).mono ?_
        rintro e w2 ⟨rfl, hb2⟩
        rw [H1.out, Pp.ifc_yes rfl]
        go_wp2_with fail
        refine (aside_any s n _ (by omega)).mono ?_
        rintro e w3 ⟨rfl, hb3⟩
        rw [H1.out, Pp.ifc_yes rfl]
        go_wp2
        go_ret
        exact ⟨rfl, below_trans (below_trans hb1 hb2) hb3⟩
      · have hne : (Pp.asideT s.data.toList n.toNat == Pp.asideT s.data.toList m.toNat) = false := by
          rw [beq_eq_false_iff_ne]; exact fun e => he (Pp.aside_apart h1 h2 e)
        have hnm : (n == m) = false := by rw [beq_eq_false_iff_ne]; exact he
        clear h1 h2 he
        go_enter Tryd.func4, Tryd.ntmps4
        go_wp2_with fail
        refine (begun_any _).mono ?_
        rintro e w1 ⟨rfl, hb1⟩
        go_wp2_with fail
        refine (aside_any s n _ (by omega)).mono ?_
        rintro e w2 ⟨rfl, hb2⟩
        rw [H1.out, Pp.ifc_yes rfl]
        go_wp2_with fail
        refine (aside_any s m _ (by omega)).mono ?_
        rintro e w3 ⟨rfl, hb3⟩
        rw [H2.out, Pp.ifc_yes rfl]
        go_wp2
        go_ret
        exact ⟨rfl, below_trans (below_trans hb1 hb2) hb3⟩
    · have H1 : Hid (Pp.asideE s.data.toList n = 0) := h1
      have hz2 : (Pp.asideE s.data.toList m == 0) = false := by simpa using h2
      clear h1
      go_enter Tryd.func4, Tryd.ntmps4
      go_wp2_with fail
      refine (begun_any _).mono ?_
      rintro e w1 ⟨rfl, hb1⟩
      go_wp2_with fail
      refine (aside_any s n _ (by omega)).mono ?_
      rintro e w2 ⟨rfl, hb2⟩
      rw [H1.out, Pp.ifc_yes rfl]
      go_wp2_with fail
      refine (aside_any s m _ (by omega)).mono ?_
      rintro e w3 ⟨rfl, hb3⟩
      go_wp2
      go_ret
      exact ⟨rfl, below_trans (below_trans hb1 hb2) hb3⟩
  · have hz1 : (Pp.asideE s.data.toList n == 0) = false := by simpa using h1
    go_enter Tryd.func4, Tryd.ntmps4
    go_wp2_with fail
    refine (begun_any _).mono ?_
    rintro e w1 ⟨rfl, hb1⟩
    go_wp2_with fail
    refine (aside_any s n _ (by omega)).mono ?_
    rintro e w2 ⟨rfl, hb2⟩
    go_wp2_with fail
    refine (aside_any s m _ (by omega)).mono ?_
    rintro e w3 ⟨rfl, hb3⟩
    go_wp2
    go_ret
    exact ⟨rfl, below_trans (below_trans hb1 hb2) hb3⟩

set_option maxHeartbeats 1600000 in
theorem pathBack_walk (p f t : ByteArray) (n : Int) (w : World) (hp : p.size ≤ 140737488351232) (hf : f.size ≤ 140737488351232) (ht : t.size ≤ 140737488351232) (hn1 : -9223372036854775808 ≤ n) (hn2 : n ≤ 9223372036854775807) :
    Calls Tryd.prog 3 #[.string p, .string f, .string t, .int .i64 n] w fun e w' => e = .returned (.bool true) ∧ Below w.heap.size w w' := by
  clear hn1 hn2
  by_cases hz : Pp.chk p.data.toList = 0
  · have HZ : Hid (Pp.chk p.data.toList = 0) := hz
    have HJE : Hid (Pp.jnE (Pp.par p.data.toList) (Pp.lst p.data.toList) = 0) := Pp.jnE_parts hz
    have HJ : Hid (Pp.jn (Pp.par p.data.toList) (Pp.lst p.data.toList) = p.data.toList) := Pp.jn_parts hz
    have b1 := Pp.len_par p.data.toList
    have b2 := Pp.len_lst p.data.toList
    have b3 := Pp.len_mv p.data.toList f.data.toList t.data.toList
    rw [← Lib.size_eq] at b1 b2
    rw [← Lib.size_eq, ← Lib.size_eq] at b3
    clear hz
    go_enter Tryd.func3, Tryd.ntmps3
    go_wp2_with fail
    refine (begun_any _).mono ?_
    rintro e w1 ⟨rfl, hb1⟩
    go_wp2_with fail
    refine (parent_any p _ (by omega)).mono ?_
    rintro e w2 ⟨rfl, hb2⟩
    rw [HZ.out, Pp.ifc_yes rfl]
    go_wp2_with fail
    refine (name_any p _ (by omega)).mono ?_
    rintro e w3 ⟨rfl, hb3⟩
    rw [HZ.out, Pp.ifc_yes rfl]
    go_wp2_with fail
    refine (join_any ⟨(Pp.par p.data.toList).toArray⟩ ⟨(Pp.lst p.data.toList).toArray⟩ _ (by rw [Pp.sz]; omega) (by rw [Pp.sz]; omega)).mono ?_
    rintro e w4 ⟨rfl, hb4⟩
    rw [show Pp.jnE _ _ = 0 from HJE.out, Pp.ifc_yes rfl, show Pp.jn _ _ = p.data.toList from HJ.out, Joins.bytes_eta]
    have hb : Below w.heap.size w w4 := below_trans (below_trans (below_trans hb1 hb2) hb3) hb4
    clear hb1 hb2 hb3 hb4
    go_wp2_with fail
    refine (moved_any p f t _ (by omega) (by omega) (by omega)).mono ?_
    rintro e w5 ⟨rfl, hb5⟩
    by_cases hm : Pp.mvE p.data.toList f.data.toList t.data.toList = 0
    · have HM : Hid (Pp.mvE p.data.toList f.data.toList t.data.toList = 0) := hm
      have HMB : Hid (Pp.mvE (Pp.mvT p.data.toList f.data.toList t.data.toList) t.data.toList f.data.toList = 0) := Pp.mvE_back hm
      have HMA : Hid (Pp.mvT (Pp.mvT p.data.toList f.data.toList t.data.toList) t.data.toList f.data.toList = p.data.toList) := Pp.mv_again _ (Pp.mv_ok hm).2.2.2.1
      have HMI : Hid (Pp.isInB (Pp.mvT p.data.toList f.data.toList t.data.toList) t.data.toList = true) := Pp.mv_in _ (Pp.mv_ok hm).2.2.2.1
      have HMC : Hid (Pp.chks [Pp.mvT p.data.toList f.data.toList t.data.toList, t.data.toList] = 0) := Pp.chks_two (Pp.mv_ok hm).2.2.2.2 (Pp.mv_ok hm).2.2.1
      have b4 : (Pp.mvT p.data.toList f.data.toList t.data.toList).length ≤ 80 := Pp.chk_len (Pp.mv_ok hm).2.2.2.2
      clear hm
      rw [HM.out, Pp.ifc_yes rfl]
      go_wp2_with fail
      refine (moved_any ⟨(Pp.mvT p.data.toList f.data.toList t.data.toList).toArray⟩ t f _ (by rw [Pp.sz]; omega) (by omega) (by omega)).mono ?_
      rintro e w6 ⟨rfl, hb6⟩
      rw [show Pp.mvE _ _ _ = 0 from HMB.out, Pp.ifc_yes rfl, show Pp.mvT _ _ _ = p.data.toList from HMA.out, Joins.bytes_eta]
      go_wp2_with fail
      refine (within_any ⟨(Pp.mvT p.data.toList f.data.toList t.data.toList).toArray⟩ t _ (by rw [Pp.sz]; omega) (by omega)).mono ?_
      rintro e w7 ⟨rfl, hb7⟩
      rw [show Pp.chks _ = 0 from HMC.out, show Pp.isInB _ _ = true from HMI.out]
      by_cases ha : Pp.asideE p.data.toList n = 0
      · have HA : Hid (Pp.asideE p.data.toList n = 0) := ha
        have HC : Hid (Pp.chk (Pp.asideT p.data.toList n.toNat) = 0) := (Pp.aside_ok ha).2.2.2.2
        have HPP : Hid (Pp.par (Pp.asideT p.data.toList n.toNat) = Pp.par p.data.toList) := Pp.aside_par ha
        have b6 : (Pp.asideT p.data.toList n.toNat).length ≤ 80 := Pp.chk_len HC.out
        clear ha
        go_wp2_with fail
        refine (aside_any p n _ (by omega)).mono ?_
        rintro e wA ⟨rfl, hbA⟩
        rw [HA.out, Pp.ifc_yes rfl]
        go_wp2_with fail
        refine (parent_any ⟨(Pp.asideT p.data.toList n.toNat).toArray⟩ _ (by rw [Pp.sz]; omega)).mono ?_
        rintro e wB ⟨rfl, hbB⟩
        rw [show Pp.chk _ = 0 from HC.out, Pp.ifc_yes rfl, show Pp.par _ = _ from HPP.out]
        go_wp2_with fail
        refine (check_any ⟨(Pp.asideT p.data.toList n.toNat).toArray⟩ _ (by rw [Pp.sz]; omega)).mono ?_
        rintro e wC ⟨rfl, hbC⟩
        rw [show Pp.chk _ = 0 from HC.out]
        go_wp2
        go_ret
        exact ⟨rfl, below_trans (below_trans (below_trans (below_trans (below_trans (below_trans hb hb5) hb6) hb7) hbA) hbB) hbC⟩
      · have hza : (Pp.asideE p.data.toList n == 0) = false := by simpa using ha
        go_wp2_with fail
        refine (aside_any p n _ (by omega)).mono ?_
        rintro e wA ⟨rfl, hbA⟩
        go_wp2
        go_ret
        exact ⟨rfl, below_trans (below_trans (below_trans (below_trans hb hb5) hb6) hb7) hbA⟩
    · have hzm : (Pp.mvE p.data.toList f.data.toList t.data.toList == 0) = false := by simpa using hm
      by_cases ha : Pp.asideE p.data.toList n = 0
      · have HA : Hid (Pp.asideE p.data.toList n = 0) := ha
        have HC : Hid (Pp.chk (Pp.asideT p.data.toList n.toNat) = 0) := (Pp.aside_ok ha).2.2.2.2
        have HPP : Hid (Pp.par (Pp.asideT p.data.toList n.toNat) = Pp.par p.data.toList) := Pp.aside_par ha
        have b6 : (Pp.asideT p.data.toList n.toNat).length ≤ 80 := Pp.chk_len HC.out
        clear ha
        go_wp2_with fail
        refine (aside_any p n _ (by omega)).mono ?_
        rintro e wA ⟨rfl, hbA⟩
        rw [HA.out, Pp.ifc_yes rfl]
        go_wp2_with fail
        refine (parent_any ⟨(Pp.asideT p.data.toList n.toNat).toArray⟩ _ (by rw [Pp.sz]; omega)).mono ?_
        rintro e wB ⟨rfl, hbB⟩
        rw [show Pp.chk _ = 0 from HC.out, Pp.ifc_yes rfl, show Pp.par _ = _ from HPP.out]
        go_wp2_with fail
        refine (check_any ⟨(Pp.asideT p.data.toList n.toNat).toArray⟩ _ (by rw [Pp.sz]; omega)).mono ?_
        rintro e wC ⟨rfl, hbC⟩
        rw [show Pp.chk _ = 0 from HC.out]
        go_wp2
        go_ret
        exact ⟨rfl, below_trans (below_trans (below_trans (below_trans hb hb5) hbA) hbB) hbC⟩
      · have hza : (Pp.asideE p.data.toList n == 0) = false := by simpa using ha
        go_wp2_with fail
        refine (aside_any p n _ (by omega)).mono ?_
        rintro e wA ⟨rfl, hbA⟩
        go_wp2
        go_ret
        exact ⟨rfl, below_trans (below_trans hb hb5) hbA⟩
  · have hz2 : (Pp.chk p.data.toList == 0) = false := by simpa using hz
    go_enter Tryd.func3, Tryd.ntmps3
    go_wp2_with fail
    refine (begun_any _).mono ?_
    rintro e w1 ⟨rfl, hb1⟩
    go_wp2_with fail
    refine (parent_any p _ (by omega)).mono ?_
    rintro e w2 ⟨rfl, hb2⟩
    go_wp2_with fail
    refine (name_any p _ (by omega)).mono ?_
    rintro e w3 ⟨rfl, hb3⟩
    go_wp2
    go_ret
    exact ⟨rfl, below_trans (below_trans hb1 hb2) hb3⟩
end Go.Proofs.YtkbcadiiceinaabDoor
