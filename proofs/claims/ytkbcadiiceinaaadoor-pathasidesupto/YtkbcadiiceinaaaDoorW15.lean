/- The law on Moved. -/
import Derived.Test.YtkbcadiiceinaaaDoorW14
set_option linter.unusedSimpArgs false
set_option linter.unusedVariables false
namespace Go.Proofs.YtkbcadiiceinaaaDoor
open Go.RowKit

namespace Pp
theorem own_at {w : World} {base : Nat} {v : Value} {L : List (List UInt8)} (h : w.ownsRow base 9 1 v L.length (vs L)) (h0 : L ≠ []) :
    ∃ g cap, v = .slice (some ⟨g, 0, none⟩) L.length cap ∧ base ≤ g ∧ g < w.heap.size ∧ ∀ i (h : i < L.length), w.cell? ⟨g, i, none⟩ = some (.string ⟨(L[i]).toArray⟩) := by
  have hcopy := h
  obtain ⟨hl, h2⟩ := h
  rcases h2 with ⟨_, hz⟩ | ⟨g, cap, cur, rfl, hg, hh, hn, hm, hz, htake⟩
  · exact absurd (List.length_eq_zero_iff.1 hz) h0
  · have hlt : g < w.heap.size := by
      rcases Nat.lt_or_ge g w.heap.size with h | h
      · exact h
      · rw [Array.getElem?_eq_none h] at hh; cases hh
    refine ⟨g, cap, rfl, hg, hlt, fun i h => ?_⟩
    rw [hcopy.cellAt i (by omega)]
    simp [vs, h]
theorem vs_app (a b : List (List UInt8)) : vs a ++ vs b = vs (a ++ b) := by simp [vs]
theorem vs_cells {w : World} {g : Nat} {L : List (List UInt8)} (h : ∀ i (h : i < L.length), w.cell? ⟨g, i, none⟩ = some (.string ⟨(L[i]).toArray⟩)) (o : Nat) : ∀ j u, (vs (L.drop o))[j]? = some u → w.cell? ((⟨g, o, none⟩ : Addr).add j) = some u := by
  intro j u hu
  simp only [vs, List.getElem?_map, List.getElem?_drop, Option.map_eq_some_iff] at hu
  obtain ⟨x, hx, rfl⟩ := hu
  obtain ⟨hlt, rfl⟩ := List.getElem?_eq_some_iff.1 hx
  have e := h (o + j) hlt
  by_cases hj : j = 0
  · subst hj; simpa [Addr.add] using e
  · simpa [Addr.add, hj] using e
theorem vs_one (L : List (List UInt8)) : ∀ u ∈ vs L, u.oneCell' = true := by
  intro u hu
  simp only [vs, List.mem_map] at hu
  obtain ⟨x, _, rfl⟩ := hu
  rfl
end Pp

theorem pathOf_n (L : List (List UInt8)) (n g o cap : Nat) (w : World) (he : n = L.length) (hL : (Pp.join L).length ≤ 1000000000) (hn : L.length ≤ 1000000000) (hcell : ∀ i (h : i < L.length), w.cell? ⟨g, o + i, none⟩ = some (.string ⟨(L[i]).toArray⟩)) :
    Calls Tryd.prog 25 #[.slice (some ⟨g, o, none⟩) n cap] w fun e w' => e = .returned (.string ⟨(Pp.join L).toArray⟩) ∧ w' = w := by
  subst he
  exact pathOf_any L g o cap w hL hn hcell

set_option maxRecDepth 100000 in
set_option maxHeartbeats 1000000 in
theorem moves_ok (p f t : ByteArray) (w : World) (hp : p.size ≤ 1048576) (hf : f.size ≤ 1048576) (ht : t.size ≤ 1048576) (hz : Pp.chks [p.data.toList, f.data.toList, t.data.toList] = 0) (hi : Pp.isInB p.data.toList f.data.toList = true) :
    Calls Tryd.prog 7 #[.string p, .string f, .string t] w fun e w' => e = .returned (.bool true) ∧ Below w.heap.size w w' := by
  obtain ⟨i0, hi0, hz0, hz1, hz2⟩ := info_parts Tryd.infoS
  have hlen := Pp.len_mv p.data.toList f.data.toList t.data.toList
  rw [← Lib.size_eq, ← Lib.size_eq] at hlen
  have HZ : Hid (Pp.chks [p.data.toList, f.data.toList, t.data.toList] = 0) := hz
  have HI : Hid (Pp.isInB p.data.toList f.data.toList = true) := hi
  have HE : Hid (Pp.mvE p.data.toList f.data.toList t.data.toList = Pp.chk (Pp.mvT p.data.toList f.data.toList t.data.toList)) := Pp.mvE_in hz hi
  have HCB : Hid (Pp.chk (Pp.mvT p.data.toList f.data.toList t.data.toList) = if Pp.big (Pp.mvT p.data.toList f.data.toList t.data.toList) = true then 2 else 0) := Pp.mv_chk hz hi
  have HJ : Hid (Pp.join (Pp.nm t.data.toList ++ (Pp.nm p.data.toList).drop (Pp.nm f.data.toList).length) = Pp.mvT p.data.toList f.data.toList t.data.toList) := Pp.mv_join _ hi
  have hnp : (Pp.nm p.data.toList).length ≤ p.size + 1 := by have := Pp.nm_len_le p.data.toList; rwa [← Lib.size_eq] at this
  have hnf : (Pp.nm f.data.toList).length ≤ f.size + 1 := by have := Pp.nm_len_le f.data.toList; rwa [← Lib.size_eq] at this
  have hnt : (Pp.nm t.data.toList).length ≤ t.size + 1 := by have := Pp.nm_len_le t.data.toList; rwa [← Lib.size_eq] at this
  have hfp : (Pp.nm f.data.toList).length ≤ (Pp.nm p.data.toList).length := by
    have : (Pp.nm f.data.toList).isPrefixOf (Pp.nm p.data.toList) = true := hi
    exact (List.isPrefixOf_iff_prefix.1 this).length_le
  clear hz hi
  go_enter Tryd.func7, Tryd.ntmps7
  go_wp2_with fail
  refine (moved_any p f t _ (by omega) (by omega) (by omega)).mono ?_
  rintro e w1 ⟨rfl, hb1⟩
  rw [HE.out]
  go_wp2_with fail
  refine (rCheckPaths3 p f t _ _ (by omega) (by omega) (by omega)).mono ?_
  rintro e w2 ⟨rfl, hb2⟩
  rw [HZ.out]
  go_wp2_with fail
  refine (isIn_any p f _ (by omega) (by omega)).mono ?_
  rintro e w3 ⟨rfl, hb3⟩
  rw [HI.out]
  have hb03 : Below w.heap.size w w3 := below_trans (below_trans hb1 hb2) hb3
  clear hb1 hb2 hb3
  go_wp2_with fail
  have ho0 : (w3.alloc (.cells #[] 9)).ownsRow w3.heap.size 9 1 (.slice (some ⟨w3.heap.size, 0, none⟩) 0 0) 0 [] := World.ownsRow_made w3 #[] 0 (Nat.le_refl _) (by decide) rfl
  refine (rNames_at t _ (by omega)).mono ?_
  rintro e w4 ⟨g4, c4, rfl, hc4, hc4', hg4, hg4', hcell4, hb4⟩
  have ho4 := Pp.own_below ho0 hb4
  have hb34 : Below w3.heap.size w3 w4 := ((Below.refl _ _).alloc (Nat.le_refl _) _).trans (hb4.mono (by simp))
  clear ho0 hb4
  have HC4 : Hid (∀ i (h : i < (Pp.nm t.data.toList).length), w4.cell? ⟨g4, i, none⟩ = some (.string ⟨((Pp.nm t.data.toList)[i]).toArray⟩)) := hcell4
  clear hcell4
  go_wp2_with (at_builtin; refine wpList_append_own _ rfl _ _ 36 rfl w3.heap.size 9 i0 (.string ⟨#[]⟩) 1 16 Tryd.underlying36 hi0 hz0 hz1 hz2 rfl (by decide) _ _ _ rfl ho4 ⟨g4, 0, none⟩ (Pp.nm t.data.toList).length c4 (Pp.vs (Pp.nm t.data.toList)) rfl ?c0 ?c1 ?c2 ?c3 ?c4 ?c5 ?_)
  case c0 => simp [Pp.vs]
  case c1 => exact Pp.vs_cells (L := Pp.nm t.data.toList) HC4.out 0
  case c2 => exact Pp.vs_one _
  case c3 => unfold maxLen; omega
  case c4 => omega
  case c5 => exact hb34.size
  intro v5 w5 ho5 hgr5 _
  have hb45 : Below w3.heap.size w3 w5 := hb34.grown hgr5 hb34.size (fun k hk => by simp [Value.ownBlock] at hk; omega)
  clear hgr5 ho4 HC4 hb34
  have HO5 : Hid (w5.ownsRow w3.heap.size 9 1 v5 (Pp.nm t.data.toList).length (Pp.vs (Pp.nm t.data.toList))) := ho5
  clear ho5
  go_wp2_with fail
  refine (rNames_at p _ (by omega)).mono ?_
  rintro e w6 ⟨g6, c6, rfl, hc6, hc6', hg6, hg6', hcell6, hb6⟩
  have HO6 : Hid (w6.ownsRow w3.heap.size 9 1 v5 (Pp.nm t.data.toList).length (Pp.vs (Pp.nm t.data.toList))) := Pp.own_below HO5.out hb6
  have hb36 : Below w3.heap.size w3 w6 := hb45.trans (hb6.mono hb45.size)
  have HC6 : Hid (∀ i (h : i < (Pp.nm p.data.toList).length), w6.cell? ⟨g6, i, none⟩ = some (.string ⟨((Pp.nm p.data.toList)[i]).toArray⟩)) := hcell6
  clear hcell6 hb6 HO5 hb45
  go_wp2_with fail
  refine (rNames_at f _ (by omega)).mono ?_
  rintro e w7 ⟨g7, c7, rfl, hc7, hc7', hg7, hg7', hcell7, hb7⟩
  have HO7 : Hid (w7.ownsRow w3.heap.size 9 1 v5 (Pp.nm t.data.toList).length (Pp.vs (Pp.nm t.data.toList))) := Pp.own_below HO6.out hb7
  have hb37 : Below w3.heap.size w3 w7 := hb36.trans (hb7.mono hb36.size)
  have HC7 : Hid (∀ i (h : i < (Pp.nm p.data.toList).length), w7.cell? ⟨g6, i, none⟩ = some (.string ⟨((Pp.nm p.data.toList)[i]).toArray⟩)) := (fun i h => (hb7.cell (p := ⟨g6, i, none⟩) hg6').trans (HC6.out i h) : ∀ i (h : i < (Pp.nm p.data.toList).length), w7.cell? ⟨g6, i, none⟩ = some (.string ⟨((Pp.nm p.data.toList)[i]).toArray⟩))
  clear hcell7 hb7 HO6 HC6 hb36
  have hle : ((Pp.nm f.data.toList).length : Int) ≤ (Pp.nm p.data.toList).length := by omega
  by_cases hcc : c6 = (Pp.nm f.data.toList).length
  · go_wp2_with (at_builtin; refine wpList_append_own _ rfl _ _ 36 rfl w3.heap.size 9 i0 (.string ⟨#[]⟩) 1 16 Tryd.underlying36 hi0 hz0 hz1 hz2 rfl (by decide) _ _ _ rfl HO7.out ⟨g6, 0, none⟩ _ _ (Pp.vs ((Pp.nm p.data.toList).drop (Pp.nm f.data.toList).length)) rfl ?a0 ?a1 ?a2 ?a3 ?a4 ?a5 ?_)
    case a0 => simp [Pp.vs]
    case a1 => intro j u hj; rw [List.drop_of_length_le (by omega)] at hj; simp [Pp.vs] at hj
    case a2 => exact Pp.vs_one _
    case a3 => unfold maxLen; omega
    case a4 => omega
    case a5 => exact hb37.size
    intro v8 w8 ho8 hgr8 _
    have hb38 : Below w3.heap.size w3 w8 := hb37.grown hgr8 hb37.size (fun k hk => (HO7.out.lt k hk).1)
    rw [Pp.vs_app] at ho8
    have ho9 : w8.ownsRow w3.heap.size 9 1 v8 (Pp.nm t.data.toList ++ (Pp.nm p.data.toList).drop (Pp.nm f.data.toList).length).length (Pp.vs (Pp.nm t.data.toList ++ (Pp.nm p.data.toList).drop (Pp.nm f.data.toList).length)) := by
      rw [List.length_append, List.length_drop]; exact ho8
    obtain ⟨g8, c8, rfl, hg8, hg8', hcell8⟩ := Pp.own_at ho9 (by intro e; exact Pp.nm_ne _ (List.append_eq_nil_iff.1 e).1)
    have HC8 : Hid (∀ i (h : i < (Pp.nm t.data.toList ++ (Pp.nm p.data.toList).drop (Pp.nm f.data.toList).length).length), w8.cell? ⟨g8, i, none⟩ = some (.string ⟨((Pp.nm t.data.toList ++ (Pp.nm p.data.toList).drop (Pp.nm f.data.toList).length)[i]).toArray⟩)) := hcell8
    clear hcell8 ho9 ho8 hgr8 HO7 HC7 hb37
    go_wp2_with fail
    refine (pathOf_n (Pp.nm t.data.toList ++ (Pp.nm p.data.toList).drop (Pp.nm f.data.toList).length) _ g8 0 c8 _ (by rw [List.length_append, List.length_drop]) (by rw [HJ.out]; omega) (by rw [List.length_append, List.length_drop]; omega) (fun i h => by rw [Nat.zero_add]; exact HC8.out i h)).mono ?_
    rintro e w9 ⟨rfl, rfl⟩
    rw [HJ.out]
    cases hbig : Pp.big (Pp.mvT p.data.toList f.data.toList t.data.toList) with
    | true =>
      have HB : Hid (Pp.big (Pp.mvT p.data.toList f.data.toList t.data.toList) = true) := hbig
      have HQ : Hid (Pp.chk (Pp.mvT p.data.toList f.data.toList t.data.toList) = 2) := (by rw [HCB.out, hbig]; rfl : Pp.chk (Pp.mvT p.data.toList f.data.toList t.data.toList) = 2)
      clear hbig
      rw [HQ.out, Pp.ifc_no (by decide)]
      go_wp2_with fail
      refine (rTooGreat_any ⟨(Pp.mvT p.data.toList f.data.toList t.data.toList).toArray⟩ _ (by rw [Pp.sz]; omega)).mono ?_
      rintro e w10 ⟨rfl, hb10⟩
      rw [show Pp.big _ = _ from HB.out]
      go_wp2_with fail
      refine (begun_any _).mono ?_
      rintro e w11 ⟨rfl, hb11⟩
      go_wp2_with fail
      refine (textIs_yes [] _ 2 _ (Pp.ifc_no (by decide) _).symm).mono ?_
      rintro e w12 ⟨rfl, rfl⟩
      go_wp2
      go_ret
      exact ⟨rfl, below_trans (below_trans (below_trans hb03 hb38) hb10) hb11⟩
    | false =>
      have HB : Hid (Pp.big (Pp.mvT p.data.toList f.data.toList t.data.toList) = false) := hbig
      have HQ : Hid (Pp.chk (Pp.mvT p.data.toList f.data.toList t.data.toList) = 0) := (by rw [HCB.out, hbig]; rfl : Pp.chk (Pp.mvT p.data.toList f.data.toList t.data.toList) = 0)
      clear hbig
      rw [HQ.out, Pp.ifc_yes rfl]
      go_wp2_with fail
      refine (rTooGreat_any ⟨(Pp.mvT p.data.toList f.data.toList t.data.toList).toArray⟩ _ (by rw [Pp.sz]; omega)).mono ?_
      rintro e w10 ⟨rfl, hb10⟩
      rw [show Pp.big _ = _ from HB.out]
      go_wp2_with fail
      refine (begun_any _).mono ?_
      rintro e w11 ⟨rfl, hb11⟩
      go_wp2_with fail
      refine (textIs_yes _ _ 0 _ (Pp.ifc_yes rfl _).symm).mono ?_
      rintro e w12 ⟨rfl, rfl⟩
      go_wp2
      go_ret
      exact ⟨rfl, below_trans (below_trans (below_trans hb03 hb38) hb10) hb11⟩
  · go_wp2_with (at_builtin; refine wpList_append_own _ rfl _ _ 36 rfl w3.heap.size 9 i0 (.string ⟨#[]⟩) 1 16 Tryd.underlying36 hi0 hz0 hz1 hz2 rfl (by decide) _ _ _ rfl HO7.out ⟨g6, (Pp.nm f.data.toList).length, none⟩ _ _ (Pp.vs ((Pp.nm p.data.toList).drop (Pp.nm f.data.toList).length)) rfl ?b0 ?b1 ?b2 ?b3 ?b4 ?b5 ?_)
    case b0 => simp [Pp.vs]
    case b1 => exact Pp.vs_cells HC7.out _
    case b2 => exact Pp.vs_one _
    case b3 => unfold maxLen; omega
    case b4 => omega
    case b5 => exact hb37.size
    intro v8 w8 ho8 hgr8 _
    have hb38 : Below w3.heap.size w3 w8 := hb37.grown hgr8 hb37.size (fun k hk => (HO7.out.lt k hk).1)
    rw [Pp.vs_app] at ho8
    have ho9 : w8.ownsRow w3.heap.size 9 1 v8 (Pp.nm t.data.toList ++ (Pp.nm p.data.toList).drop (Pp.nm f.data.toList).length).length (Pp.vs (Pp.nm t.data.toList ++ (Pp.nm p.data.toList).drop (Pp.nm f.data.toList).length)) := by
      rw [List.length_append, List.length_drop]; exact ho8
    obtain ⟨g8, c8, rfl, hg8, hg8', hcell8⟩ := Pp.own_at ho9 (by intro e; exact Pp.nm_ne _ (List.append_eq_nil_iff.1 e).1)
    have HC8 : Hid (∀ i (h : i < (Pp.nm t.data.toList ++ (Pp.nm p.data.toList).drop (Pp.nm f.data.toList).length).length), w8.cell? ⟨g8, i, none⟩ = some (.string ⟨((Pp.nm t.data.toList ++ (Pp.nm p.data.toList).drop (Pp.nm f.data.toList).length)[i]).toArray⟩)) := hcell8
    clear hcell8 ho9 ho8 hgr8 HO7 HC7 hb37
    go_wp2_with fail
    refine (pathOf_n (Pp.nm t.data.toList ++ (Pp.nm p.data.toList).drop (Pp.nm f.data.toList).length) _ g8 0 c8 _ (by rw [List.length_append, List.length_drop]) (by rw [HJ.out]; omega) (by rw [List.length_append, List.length_drop]; omega) (fun i h => by rw [Nat.zero_add]; exact HC8.out i h)).mono ?_
    rintro e w9 ⟨rfl, rfl⟩
    rw [HJ.out]
    cases hbig : Pp.big (Pp.mvT p.data.toList f.data.toList t.data.toList) with
    | true =>
      have HB : Hid (Pp.big (Pp.mvT p.data.toList f.data.toList t.data.toList) = true) := hbig
      have HQ : Hid (Pp.chk (Pp.mvT p.data.toList f.data.toList t.data.toList) = 2) := (by rw [HCB.out, hbig]; rfl : Pp.chk (Pp.mvT p.data.toList f.data.toList t.data.toList) = 2)
      clear hbig
      rw [HQ.out, Pp.ifc_no (by decide)]
      go_wp2_with fail
      refine (rTooGreat_any ⟨(Pp.mvT p.data.toList f.data.toList t.data.toList).toArray⟩ _ (by rw [Pp.sz]; omega)).mono ?_
      rintro e w10 ⟨rfl, hb10⟩
      rw [show Pp.big _ = _ from HB.out]
      go_wp2_with fail
      refine (begun_any _).mono ?_
      rintro e w11 ⟨rfl, hb11⟩
      go_wp2_with fail
      refine (textIs_yes [] _ 2 _ (Pp.ifc_no (by decide) _).symm).mono ?_
      rintro e w12 ⟨rfl, rfl⟩
      go_wp2
      go_ret
      exact ⟨rfl, below_trans (below_trans (below_trans hb03 hb38) hb10) hb11⟩
    | false =>
      have HB : Hid (Pp.big (Pp.mvT p.data.toList f.data.toList t.data.toList) = false) := hbig
      have HQ : Hid (Pp.chk (Pp.mvT p.data.toList f.data.toList t.data.toList) = 0) := (by rw [HCB.out, hbig]; rfl : Pp.chk (Pp.mvT p.data.toList f.data.toList t.data.toList) = 0)
      clear hbig
      rw [HQ.out, Pp.ifc_yes rfl]
      go_wp2_with fail
      refine (rTooGreat_any ⟨(Pp.mvT p.data.toList f.data.toList t.data.toList).toArray⟩ _ (by rw [Pp.sz]; omega)).mono ?_
      rintro e w10 ⟨rfl, hb10⟩
      rw [show Pp.big _ = _ from HB.out]
      go_wp2_with fail
      refine (begun_any _).mono ?_
      rintro e w11 ⟨rfl, hb11⟩
      go_wp2_with fail
      refine (textIs_yes _ _ 0 _ (Pp.ifc_yes rfl _).symm).mono ?_
      rintro e w12 ⟨rfl, rfl⟩
      go_wp2
      go_ret
      exact ⟨rfl, below_trans (below_trans (below_trans hb03 hb38) hb10) hb11⟩

set_option maxHeartbeats 800000 in
theorem pathMoves_walk (p f t : ByteArray) (w : World) (hp : p.size ≤ 1048576) (hf : f.size ≤ 1048576) (ht : t.size ≤ 1048576) :
    Calls Tryd.prog 7 #[.string p, .string f, .string t] w fun e w' => e = .returned (.bool true) ∧ Below w.heap.size w w' := by
  by_cases hz : Pp.chks [p.data.toList, f.data.toList, t.data.toList] = 0
  · cases hi : Pp.isInB p.data.toList f.data.toList with
    | true => exact moves_ok p f t w hp hf ht hz hi
    | false =>
      have HZ : Hid (Pp.chks [p.data.toList, f.data.toList, t.data.toList] = 0) := hz
      have HI : Hid (Pp.isInB p.data.toList f.data.toList = false) := hi
      have HE : Hid (Pp.mvE p.data.toList f.data.toList t.data.toList = 5) := Pp.mvE_out hz hi
      clear hz hi
      go_enter Tryd.func7, Tryd.ntmps7
      go_wp2_with fail
      refine (moved_any p f t _ (by omega) (by omega) (by omega)).mono ?_
      rintro e w1 ⟨rfl, hb1⟩
      rw [HE.out, Pp.ifc_no (by decide)]
      go_wp2_with fail
      refine (rCheckPaths3 p f t _ _ (by omega) (by omega) (by omega)).mono ?_
      rintro e w2 ⟨rfl, hb2⟩
      rw [HZ.out]
      go_wp2_with fail
      refine (isIn_any p f _ (by omega) (by omega)).mono ?_
      rintro e w3 ⟨rfl, hb3⟩
      rw [HI.out]
      go_wp2_with fail
      refine (begun_any _).mono ?_
      rintro e w4 ⟨rfl, hb4⟩
      go_wp2_with fail
      refine (textIs_yes [] [] 5 _ (Pp.ifc_no (by decide) _).symm).mono ?_
      rintro e w5 ⟨rfl, rfl⟩
      go_wp2
      go_ret
      exact ⟨rfl, below_trans (below_trans (below_trans hb1 hb2) hb3) hb4⟩
  · have HZ : Hid (¬ Pp.chks [p.data.toList, f.data.toList, t.data.toList] = 0) := hz
    have hz2 : (Pp.chks [p.data.toList, f.data.toList, t.data.toList] == 0) = false := by simpa using hz
    have HE : Hid (Pp.mvE p.data.toList f.data.toList t.data.toList = Pp.chks [p.data.toList, f.data.toList, t.data.toList]) := Pp.mvE_no hz
    clear hz
    go_enter Tryd.func7, Tryd.ntmps7
    go_wp2_with fail
    refine (moved_any p f t _ (by omega) (by omega) (by omega)).mono ?_
    rintro e w1 ⟨rfl, hb1⟩
    rw [HE.out, Pp.ifc_no HZ.out]
    go_wp2_with fail
    refine (rCheckPaths3 p f t _ _ (by omega) (by omega) (by omega)).mono ?_
    rintro e w2 ⟨rfl, hb2⟩
    go_wp2_with fail
    refine (begun_any _).mono ?_
    rintro e w4 ⟨rfl, hb4⟩
    go_wp2_with fail
    refine (textIs_yes [] [] _ _ (Pp.ifc_no HZ.out _).symm).mono ?_
    rintro e w5 ⟨rfl, rfl⟩
    go_wp2
    go_ret
    exact ⟨rfl, below_trans (below_trans hb1 hb2) hb4⟩
end Go.Proofs.YtkbcadiiceinaaaDoor
