/- Rows of entries of one's own, and what they hold. What path.checked answers. What path.within, Within and Moved answer, for every text. What tree.not, within and every answer. The order of paths, as a sort asks for it. -/
import Derived.Test.YtchlgpeiombmdaaGreatMD
import Derived.Test.YtchlgpeiombmdaaGreatMC
import Derived.Test.YtchlgpeiombmdaaGreatMA
import Derived.Shelf.SlSortCmp.WholeK
set_option linter.unusedSimpArgs false
set_option linter.unusedVariables false
namespace Go.Proofs.YtchlgpeiombmdaaGreat
open Go.RowKit

namespace Pp
def cells (e : En) : List Value := [.string e.path, .bool e.folder, .string e.text, .int .i64 e.ver]
def flat (L : List En) : List Value := L.flatMap cells
theorem flat_len (L : List En) : (flat L).length = L.length * 4 := by
 induction L with
 | nil => rfl
 | cons a r ih => simp [flat, cells] at ih ⊢; omega
theorem flat_snoc (L : List En) (e : En) : flat L ++ cells e = flat (L ++ [e]) := by simp [flat]
theorem cells_one (e : En) : ∀ u ∈ cells e, u.oneCell' = true := by
 intro u hu
 simp only [cells, List.mem_cons, List.not_mem_nil, or_false] at hu
 rcases hu with rfl | rfl | rfl | rfl <;> rfl
theorem new_cells (w : World) (e : En) (T : TypeId) : ∀ j u, (cells e)[j]? = some u → (w.alloc (.cells #[.string e.path, .bool e.folder, .string e.text, .int .i64 e.ver] T)).cell? ((⟨w.heap.size, 0, none⟩ : Addr).add j) = some u := by
 intro j u hj
 match j, hj with
 | 0, hj => simp [cells] at hj; subst hj; simp [Addr.add]
 | 1, hj => simp [cells] at hj; subst hj; simp [Addr.add]
 | 2, hj => simp [cells] at hj; subst hj; simp [Addr.add]
 | 3, hj => simp [cells] at hj; subst hj; simp [Addr.add]
 | j + 4, hj => simp [cells] at hj
theorem filter_hit {L : List En} {k : Nat} (h : k < L.length) {pr : En → Bool} (hp : pr L[k] = true) : (L.take (k + 1)).filter pr = (L.take k).filter pr ++ [L[k]] := by
 rw [List.take_succ_eq_append_getElem h, List.filter_append]; simp [hp]
theorem filter_miss {L : List En} {k : Nat} (h : k < L.length) {pr : En → Bool} (hp : pr L[k] = false) : (L.take (k + 1)).filter pr = (L.take k).filter pr := by
 rw [List.take_succ_eq_append_getElem h, List.filter_append]; simp [hp]
end Pp

theorem Tryz.infoE : (Tryz.prog.info? 60).map (fun i => (i.zero, i.size, i.bytes)) = some (some (.agg #[.string ⟨#[]⟩, .bool false, .string ⟨#[]⟩, .int .i64 0]), 4, 48) := by kernel_rfl
namespace Pp
theorem flat_at : ∀ (L : List En) (i : Nat) (h : i < L.length) (c : Nat), c < 4 → (flat L)[i * 4 + c]? = (cells L[i])[c]?
 | [], i, h, _, _ => absurd h (by simp)
 | a :: r, 0, _, c, hc => by
  show (cells a ++ flat r)[0 * 4 + c]? = _
  rw [List.getElem?_append_left (by simp [cells]; omega)]
  simp
 | a :: r, i + 1, h, c, hc => by
  show (cells a ++ flat r)[(i + 1) * 4 + c]? = _
  rw [List.getElem?_append_right (by simp [cells]; omega)]
  have e : (i + 1) * 4 + c - (cells a).length = i * 4 + c := by simp [cells]; omega
  rw [e, flat_at r i (by simpa using h) c hc]
  simp
end Pp
theorem lies_row {w : World} {base : Nat} {T : TypeId} {v : Value} {L : List En} (h : w.ownsRow base T 4 v L.length (Pp.flat L)) (hn : L.length ≤ 1000000000000000) : Lies w v L := by
 have h' := h
 obtain ⟨_, h2⟩ := h
 rcases h2 with ⟨rfl, hz⟩ | ⟨g, cap, cur, rfl, hg, hh, hc, hm, hz, htake⟩
 · have : L = [] := List.length_eq_zero_iff.1 hz
   subst this
   exact ⟨none, 0, rfl, Nat.le_refl _, by simp, fun i hi => absurd hi (by simp)⟩
 · have hlt : g < w.heap.size := by
    rcases Nat.lt_or_ge g w.heap.size with h | h
    · exact h
    · rw [Array.getElem?_eq_none h] at hh; cases hh
   refine ⟨some ⟨g, 0, none⟩, cap, rfl, hc, hn, fun i hi => ⟨g, 0, rfl, hlt, ?_⟩⟩
   have k : ∀ c, c < 4 → w.cell? ⟨g, 0 + i * 4 + c, none⟩ = (Pp.cells L[i])[c]? := fun c hc => by
    rw [Nat.zero_add, h'.cellAt (i * 4 + c) (by omega), Pp.flat_at L i hi c hc]
   exact ⟨k 0 (by decide), k 1 (by decide), k 2 (by decide), k 3 (by decide)⟩
end Go.Proofs.YtchlgpeiombmdaaGreat
set_option linter.unusedSimpArgs false
set_option linter.unusedVariables false
namespace Go.Proofs.YtchlgpeiombmdaaGreat
open Go.RowKit

set_option maxHeartbeats 400000 in
theorem checked_ok (s : ByteArray) (w : World) (hs : s.size ≤ 1000000000000000) (h : Pp.chk s.data.toList = 0) :
    Calls Tryz.prog 119 #[.string s] w fun e w' => e = .returned (.tuple #[.string s, .int .i64 0]) ∧ Below w.heap.size w w' := by
 have HZ : Hid (Pp.chk s.data.toList = 0) := h
 clear h
 go_enter Tryz.func119, Tryz.ntmps119
 go_wp2_with fail
 refine (check_any _ _ hs).mono ?_
 rintro e w1 ⟨rfl, hb1⟩
 rw [HZ.out]
 go_wp2
 go_ret2
 exact ⟨rfl, hb1⟩
set_option maxHeartbeats 400000 in
theorem checked_no (s : ByteArray) (w : World) (hs : s.size ≤ 1000000000000000) (h : ¬ Pp.chk s.data.toList = 0) :
    Calls Tryz.prog 119 #[.string s] w fun e w' => e = .returned (.tuple #[.string ⟨#[]⟩, .int .i64 (Pp.chk s.data.toList)]) ∧ Below w.heap.size w w' := by
 have hz : (Pp.chk s.data.toList == 0) = false := by simpa using h
 clear h
 go_enter Tryz.func119, Tryz.ntmps119
 go_wp2_with fail
 refine (check_any _ _ hs).mono ?_
 rintro e w1 ⟨rfl, hb1⟩
 go_wp2
 go_ret2
 exact ⟨rfl, hb1⟩
end Go.Proofs.YtchlgpeiombmdaaGreat
set_option linter.unusedSimpArgs false
set_option linter.unusedVariables false
namespace Go.Proofs.YtchlgpeiombmdaaGreat
open Go.RowKit

theorem checkAll2 (s t : ByteArray) (ty : TypeId) (w : World) (hs : s.size ≤ 1000000000000000) (ht : t.size ≤ 1000000000000000) :
    Calls Tryz.prog 118 #[.slice (some ⟨w.heap.size, 0, none⟩) 2 2] (w.alloc (.cells #[.string s, .string t] ty)) fun e w' => e = .returned (.int .i64 (Pp.chks [s.data.toList, t.data.toList])) ∧ Below w.heap.size w w' := by
 refine (checkAll_any [s, t] w.heap.size 2 _ (by simp) (by simp) (fun i h => ?_) (fun i h => ?_)).mono ?_
 · match i, h with
   | 0, _ => exact hs
   | 1, _ => exact ht
 · match i, h with
   | 0, _ => simp
   | 1, _ => simp
 · rintro e w' ⟨rfl, hb⟩
   exact ⟨rfl, ((Below.refl _ _).alloc (Nat.le_refl _) _).trans (hb.mono (by simp))⟩
theorem checkAll3 (s t u : ByteArray) (ty : TypeId) (w : World) (hs : s.size ≤ 1000000000000000) (ht : t.size ≤ 1000000000000000) (hu : u.size ≤ 1000000000000000) :
    Calls Tryz.prog 118 #[.slice (some ⟨w.heap.size, 0, none⟩) 3 3] (w.alloc (.cells #[.string s, .string t, .string u] ty)) fun e w' => e = .returned (.int .i64 (Pp.chks [s.data.toList, t.data.toList, u.data.toList])) ∧ Below w.heap.size w w' := by
 refine (checkAll_any [s, t, u] w.heap.size 3 _ (by simp) (by simp) (fun i h => ?_) (fun i h => ?_)).mono ?_
 · match i, h with
   | 0, _ => exact hs
   | 1, _ => exact ht
   | 2, _ => exact hu
 · match i, h with
   | 0, _ => simp
   | 1, _ => simp
   | 2, _ => simp
 · rintro e w' ⟨rfl, hb⟩
   exact ⟨rfl, ((Below.refl _ _).alloc (Nat.le_refl _) _).trans (hb.mono (by simp))⟩
set_option maxHeartbeats 400000 in
theorem pwithin_any (s t : ByteArray) (w : World) (hs : s.size ≤ 1000000000000000) (ht : t.size ≤ 1000000000000000) :
    Calls Tryz.prog 189 #[.string s, .string t] w fun e w' => e = .returned (.bool (Pp.isInB s.data.toList t.data.toList)) ∧ w' = w := by
 have HI := Pp.isIn_eq s.data.toList t.data.toList
 cases hc : (s.toList == t.toList) with
 | true =>
  have HR := hid (show true = Pp.isInB s.data.toList t.data.toList from by rw [← HI, ← Lib.toList_data, ← Lib.toList_data, hc]; rfl)
  clear HI
  go_enter Tryz.func189, Tryz.ntmps189
  go_wp2_with fail
  go_ret
  exact ⟨Pp.ret_bool HR.out, rfl⟩
 | false =>
  have HR := hid (show Lib.hasPrefix s.data.toList (t ++ ⟨#[47]⟩).data.toList = Pp.isInB s.data.toList t.data.toList from by
   rw [← HI, Joins.data_append]
   rw [Lib.toList_data, Lib.toList_data] at hc
   rw [hc]; simp)
  clear HI
  go_enter Tryz.func189, Tryz.ntmps189
  go_wp2_with fail
  refine (Tryz.strings_HasPrefix _ _ _).mono ?_
  rintro e w1 ⟨rfl, rfl⟩
  rw [HR.out]
  go_wp2
  go_ret
  exact ⟨rfl, rfl⟩
set_option maxHeartbeats 400000 in
theorem within_any (s t : ByteArray) (w : World) (hs : s.size ≤ 1000000000000000) (ht : t.size ≤ 1000000000000000) :
    Calls Tryz.prog 184 #[.string s, .string t] w fun e w' => e = .returned (.tuple #[.bool (Pp.chks [s.data.toList, t.data.toList] == 0 && Pp.isInB s.data.toList t.data.toList), .int .i64 (Pp.chks [s.data.toList, t.data.toList])]) ∧ Below w.heap.size w w' := by
 cases hz : (Pp.chks [s.data.toList, t.data.toList] == 0) with
 | true =>
  have HZ := hid (show Pp.chks [s.data.toList, t.data.toList] = 0 from by simpa using hz)
  clear hz
  go_enter Tryz.func184, Tryz.ntmps184
  go_wp2_with fail
  refine (checkAll2 s t _ _ hs ht).mono ?_
  rintro e w1 ⟨rfl, hb1⟩
  rw [HZ.out]
  go_wp2_with fail
  refine (pwithin_any s t _ hs ht).mono ?_
  rintro e w2 ⟨rfl, rfl⟩
  go_wp2
  go_ret2
  exact ⟨by rw [HZ.out]; rfl, hb1⟩
 | false =>
  go_enter Tryz.func184, Tryz.ntmps184
  go_wp2_with fail
  refine (checkAll2 s t _ _ hs ht).mono ?_
  rintro e w1 ⟨rfl, hb1⟩
  go_wp2
  go_ret2
  exact ⟨rfl, hb1⟩
namespace Pp
theorem mv_cut (p f t : ByteArray) (h : isInB p.data.toList f.data.toList = true) : f.size ≤ p.size ∧ t ++ p.extract f.size p.size = ⟨(mvT p.data.toList f.data.toList t.data.toList).toArray⟩ := by
 have hle : f.data.toList.length ≤ p.data.toList.length := by
  rcases (isIn_of _ _).1 h with e | ⟨r, e⟩
  · rw [e]; exact Nat.le_refl _
  · rw [e]; simp
 refine ⟨by rw [Lib.size_eq, Lib.size_eq]; exact hle, bytes_eq ?_⟩
 rw [Joins.data_append, Lib.extract_data, mvT, Lib.size_eq f, Lib.size_eq p, List.take_of_length_le (by rw [List.length_drop]; exact Nat.le_refl _)]
theorem len_mv (p f t : List UInt8) : (mvT p f t).length ≤ t.length + p.length := by simp [mvT]
theorem mvE_no {p f t : List UInt8} (h : ¬ chks [p, f, t] = 0) : mvE p f t = chks [p, f, t] := by rw [mvE, if_neg h]
theorem mvE_out {p f t : List UInt8} (h : chks [p, f, t] = 0) (hi : isInB p f = false) : mvE p f t = 5 := by rw [mvE, if_pos h, if_neg (by rw [hi]; decide)]
theorem mvE_in {p f t : List UInt8} (h : chks [p, f, t] = 0) (hi : isInB p f = true) : mvE p f t = chk (mvT p f t) := by rw [mvE, if_pos h, if_pos hi]
end Pp

set_option maxHeartbeats 800000 in
theorem moved_any (p f t : ByteArray) (w : World) (hp : p.size ≤ 200000000000000) (hf : f.size ≤ 200000000000000) (ht : t.size ≤ 200000000000000) :
    Calls Tryz.prog 187 #[.string p, .string f, .string t] w fun e w' => e = .returned (.tuple #[.string ⟨(Pp.ifc (Pp.mvE p.data.toList f.data.toList t.data.toList) (Pp.mvT p.data.toList f.data.toList t.data.toList)).toArray⟩, .int .i64 (Pp.mvE p.data.toList f.data.toList t.data.toList)]) ∧ Below w.heap.size w w' := by
 have hlen := Pp.len_mv p.data.toList f.data.toList t.data.toList
 rw [← Lib.size_eq, ← Lib.size_eq] at hlen
 by_cases hz : Pp.chks [p.data.toList, f.data.toList, t.data.toList] = 0
 · have HZ : Hid (Pp.chks [p.data.toList, f.data.toList, t.data.toList] = 0) := hz
   cases hi : Pp.isInB p.data.toList f.data.toList with
   | false =>
    have HI : Hid (Pp.isInB p.data.toList f.data.toList = false) := hi
    have HE : Hid (Pp.mvE p.data.toList f.data.toList t.data.toList = 5) := Pp.mvE_out hz hi
    clear hz hi
    go_enter Tryz.func187, Tryz.ntmps187
    go_wp2_with fail
    refine (checkAll3 p f t _ _ (by omega) (by omega) (by omega)).mono ?_
    rintro e w1 ⟨rfl, hb1⟩
    rw [HZ.out]
    go_wp2_with fail
    refine (pwithin_any p f _ (by omega) (by omega)).mono ?_
    rintro e w2 ⟨rfl, rfl⟩
    rw [HI.out]
    go_wp2
    go_ret2
    exact ⟨by rw [HE.out, Pp.ifc_no (by decide)]; rfl, hb1⟩
   | true =>
    have HI : Hid (Pp.isInB p.data.toList f.data.toList = true) := hi
    have HE : Hid (Pp.mvE p.data.toList f.data.toList t.data.toList = Pp.chk (Pp.mvT p.data.toList f.data.toList t.data.toList)) := Pp.mvE_in hz hi
    obtain ⟨hle, hcut⟩ := Pp.mv_cut p f t hi
    have HCUT : Hid (t ++ p.extract f.size p.size = ⟨(Pp.mvT p.data.toList f.data.toList t.data.toList).toArray⟩) := hcut
    clear hz hi hcut
    have hle2 : (f.size : Int) ≤ p.size := by omega
    by_cases hq : Pp.chk (Pp.mvT p.data.toList f.data.toList t.data.toList) = 0
    · have HQ : Hid (Pp.chk (Pp.mvT p.data.toList f.data.toList t.data.toList) = 0) := hq
      clear hq
      go_enter Tryz.func187, Tryz.ntmps187
      go_wp2_with fail
      refine (checkAll3 p f t _ _ (by omega) (by omega) (by omega)).mono ?_
      rintro e w1 ⟨rfl, hb1⟩
      rw [HZ.out]
      go_wp2_with fail
      refine (pwithin_any p f _ (by omega) (by omega)).mono ?_
      rintro e w2 ⟨rfl, rfl⟩
      rw [HI.out]
      go_wp2_with fail
      rw [HCUT.out]
      refine (checked_ok ⟨(Pp.mvT p.data.toList f.data.toList t.data.toList).toArray⟩ _ (by rw [Pp.sz]; omega) HQ.out).mono ?_
      rintro e w4 ⟨rfl, hb4⟩
      go_wp2
      go_ret2
      exact ⟨by rw [HE.out, HQ.out, Pp.ifc_yes rfl]; rfl, below_trans hb1 hb4⟩
    · have HQ : Hid (¬ Pp.chk (Pp.mvT p.data.toList f.data.toList t.data.toList) = 0) := hq
      clear hq
      go_enter Tryz.func187, Tryz.ntmps187
      go_wp2_with fail
      refine (checkAll3 p f t _ _ (by omega) (by omega) (by omega)).mono ?_
      rintro e w1 ⟨rfl, hb1⟩
      rw [HZ.out]
      go_wp2_with fail
      refine (pwithin_any p f _ (by omega) (by omega)).mono ?_
      rintro e w2 ⟨rfl, rfl⟩
      rw [HI.out]
      go_wp2_with fail
      rw [HCUT.out]
      refine (checked_no ⟨(Pp.mvT p.data.toList f.data.toList t.data.toList).toArray⟩ _ (by rw [Pp.sz]; omega) HQ.out).mono ?_
      rintro e w4 ⟨rfl, hb4⟩
      go_wp2
      go_ret2
      exact ⟨by rw [HE.out, Pp.ifc_no HQ.out]; rfl, below_trans hb1 hb4⟩
 · have HE : Hid (Pp.mvE p.data.toList f.data.toList t.data.toList = Pp.chks [p.data.toList, f.data.toList, t.data.toList]) := Pp.mvE_no hz
   have HZ : Hid (¬ Pp.chks [p.data.toList, f.data.toList, t.data.toList] = 0) := hz
   have hz2 : (Pp.chks [p.data.toList, f.data.toList, t.data.toList] == 0) = false := by simpa using hz
   clear hz
   go_enter Tryz.func187, Tryz.ntmps187
   go_wp2_with fail
   refine (checkAll3 p f t _ _ (by omega) (by omega) (by omega)).mono ?_
   rintro e w1 ⟨rfl, hb1⟩
   go_wp2
   go_ret2
   exact ⟨by rw [HE.out, Pp.ifc_no HZ.out]; rfl, hb1⟩
end Go.Proofs.YtchlgpeiombmdaaGreat
set_option linter.unusedSimpArgs false
set_option linter.unusedVariables false
namespace Go.Proofs.YtchlgpeiombmdaaGreat
open Go.RowKit

set_option maxHeartbeats 400000 in
theorem not1_any (e : En) (g : Nat) (cb : Array Value) (pr : En → Bool) (b : Nat) (w : World) (hb : b < w.heap.size) (hc : w.cell? ⟨b, 0, none⟩ = some (.func (.func g) #[] cb)) (hg : Tells w g cb pr) (hs : e.path.size ≤ 1000000000000000) :
    Calls Tryz.prog 188 #[.agg #[.string e.path, .bool e.folder, .string e.text, .int .i64 e.ver], .pointer (some ⟨b, 0, none⟩)] w fun r w' => r = .returned (.bool (!pr e)) ∧ Below w.heap.size w w' := by
 have hc2 : ∀ o, (w.alloc o).cell? ⟨b, 0, none⟩ = some (.func (.func g) #[] cb) := fun o => (((Below.refl w.heap.size w).alloc (Nat.le_refl _) o).cell (p := ⟨b, 0, none⟩) hb).trans hc
 have HG : Hid (Tells w g cb pr) := hg
 have eg := hg.1
 clear hg
 go_enter Tryz.func188, Tryz.ntmps188
 go_wp2_with fail
 refine (HG.out.2 _ ((Below.refl _ _).alloc (Nat.le_refl _) _) e hs).mono ?_
 rintro r w1 ⟨rfl, hb1⟩
 obtain ⟨d0, d1, d2, d3, hb1w, hlt1⟩ := box4 hb1
 clear hb1 eg
 go_wp2
 go_ret
 exact ⟨rfl, hb1w⟩
set_option maxHeartbeats 400000 in
theorem not_any (g : Nat) (cb : Array Value) (pr : En → Bool) (w : World) (hg : Tells w g cb pr) :
    Calls Tryz.prog 182 #[.func (.func g) #[] cb] w fun e w' => e = .returned (.func (.func 188) #[] #[.pointer (some ⟨w.heap.size, 0, none⟩)]) ∧ Tells w' 188 #[.pointer (some ⟨w.heap.size, 0, none⟩)] (fun e => !pr e) ∧ Below w.heap.size w w' := by
 have HG : Hid (Tells w g cb pr) := hg
 clear hg
 go_enter Tryz.func182, Tryz.ntmps182
 go_wp2
 go_ret
 refine ⟨rfl, ⟨enters_of Tryz.func188 (by kernel_rfl) rfl, fun W hW e he => ?_⟩, (Below.refl _ _).alloc (Nat.le_refl _) _⟩
 exact not1_any e g cb pr w.heap.size W (Nat.lt_of_lt_of_le (by simp) hW.size) ((hW.cell (p := ⟨w.heap.size, 0, none⟩) (by simp)).trans (by simp)) (HG.out.below (((Below.refl _ _).alloc (Nat.le_refl _) _).trans (hW.mono (by simp)))) he
namespace Pp
def inB (q : List UInt8) (e : En) : Bool := chks [e.path.data.toList, q] == 0 && isInB e.path.data.toList q
end Pp
set_option maxHeartbeats 400000 in
theorem within1_any (e : En) (q : ByteArray) (b : Nat) (w : World) (hb : b < w.heap.size) (hc : w.cell? ⟨b, 0, none⟩ = some (.string q)) (hs : e.path.size ≤ 1000000000000000) (hq : q.size ≤ 1000000000000000) :
    Calls Tryz.prog 185 #[.agg #[.string e.path, .bool e.folder, .string e.text, .int .i64 e.ver], .pointer (some ⟨b, 0, none⟩)] w fun r w' => r = .returned (.bool (Pp.inB q.data.toList e)) ∧ Below w.heap.size w w' := by
 have hc2 : ∀ o, (w.alloc o).cell? ⟨b, 0, none⟩ = some (.string q) := fun o => (((Below.refl w.heap.size w).alloc (Nat.le_refl _) o).cell (p := ⟨b, 0, none⟩) hb).trans hc
 have HI : Hid ((Pp.chks [e.path.data.toList, q.data.toList] == 0 && Pp.isInB e.path.data.toList q.data.toList) = Pp.inB q.data.toList e) := rfl
 go_enter Tryz.func185, Tryz.ntmps185
 go_wp2_with fail
 refine (within_any e.path q _ hs hq).mono ?_
 rintro r w1 ⟨rfl, hb1⟩
 rw [HI.out]
 obtain ⟨d0, d1, d2, d3, hb1w, hlt1⟩ := box4 hb1
 clear hb1
 go_wp2
 go_ret
 exact ⟨rfl, hb1w⟩
set_option maxHeartbeats 400000 in
theorem twithin_any (q : ByteArray) (w : World) (hq : q.size ≤ 1000000000000000) :
    Calls Tryz.prog 178 #[.string q] w fun e w' => e = .returned (.func (.func 185) #[] #[.pointer (some ⟨w.heap.size, 0, none⟩)]) ∧ Tells w' 185 #[.pointer (some ⟨w.heap.size, 0, none⟩)] (Pp.inB q.data.toList) ∧ Below w.heap.size w w' := by
 go_enter Tryz.func178, Tryz.ntmps178
 go_wp2
 go_ret
 refine ⟨rfl, ⟨enters_of Tryz.func185 (by kernel_rfl) rfl, fun W hW e he => ?_⟩, (Below.refl _ _).alloc (Nat.le_refl _) _⟩
 exact within1_any e q w.heap.size W (Nat.lt_of_lt_of_le (by simp) hW.size) ((hW.cell (p := ⟨w.heap.size, 0, none⟩) (by simp)).trans (by simp)) he hq
set_option maxRecDepth 100000 in
set_option maxHeartbeats 1000000 in
theorem every_any (L : List En) (v : Value) (g : Nat) (cb : Array Value) (pr : En → Bool) (w : World) (hv : Lies w v L) (hg : Tells w g cb pr) (hn : L.length ≤ 1000000000) (hs : Sized L) :
    Calls Tryz.prog 150 #[v, .func (.func g) #[] cb] w fun e w' => ∃ u, e = .returned u ∧ w'.ownsRow w.heap.size 60 4 u (L.filter pr).length (Pp.flat (L.filter pr)) ∧ u ≠ .slice none 0 0 ∧ Below w.heap.size w w' := by
 obtain ⟨i0, hi0, hz0, hz1, hz2⟩ := info_parts Tryz.infoE
 obtain ⟨a, cap, rfl, hcap, hcap2, hL⟩ := hv
 have HL : Hid (∀ i (h : i < L.length), ∃ b o, a = some ⟨b, o, none⟩ ∧ b < w.heap.size ∧ EnAt w b (o + i * 4) L[i]) := hL
 have HG : Hid (Tells w g cb pr) := hg
 have HS : Hid (Sized L) := hs
 have eg := hg.1
 clear hL hg hs
 go_enter Tryz.func150, Tryz.ntmps150
 go_wp2_with (at_make; refine wpList_make_own _ rfl _ _ 34 rfl w.heap.size 60 i0 (.agg #[.string ⟨#[]⟩, .bool false, .string ⟨#[]⟩, .int .i64 0]) 4 Tryz.underlying34 hi0 hz0 hz1 .i64 .i64 (L.length : Int) L.length rfl rfl rfl ?m2 ?m3 ?m4 ?_)
 case m2 => rw [hz2]; omega
 case m3 => unfold maxLen; omega
 case m4 => exact Nat.le_refl _
 intro w0 ho0 hgr0
 have hb0 : Below w.heap.size w w0 := (Below.refl _ _).grown hgr0 (Nat.le_refl _) (fun k hk => by cases hk)
 clear hgr0
 go_wp2_with fail
 go_loopw [5, 13] (fun u i wr => ∃ k : Nat, k ≤ L.length ∧ i = .int .i64 k ∧ wr.ownsRow w.heap.size 60 4 u ((L.take k).filter pr).length (Pp.flat ((L.take k).filter pr)) ∧ u ≠ .slice none 0 0 ∧ Below w.heap.size w wr) (fun _ i _ => L.length - (intOf i).toNat)
 case atStart => exact ⟨0, Nat.zero_le _, rfl, ho0, by simp, hb0⟩
 case round =>
  obtain ⟨k, hk, rfl, hown, hnn, hbel⟩ := hrel
  clear ho0 hb0
  have hlenf : ((L.take k).filter pr).length ≤ k := by
   have h1 := List.length_filter_le pr (L.take k)
   have h2 := List.length_take_le k L
   omega
  by_cases hlt : k < L.length
  · obtain ⟨b, o, rfl, hb, he⟩ := HL.out k hlt
    obtain ⟨c0, c1, c2, c3⟩ := he.below hb hbel
    have hsz := HS.out L[k] (List.getElem_mem hlt)
    cases hp : pr L[k] with
    | true =>
     have HF : Hid ((L.take (k + 1)).filter pr = (L.take k).filter pr ++ [L[k]]) := Pp.filter_hit hlt hp
     go_wp2_with fail
     refine (HG.out.2 _ (hbel.alloc hbel.size _) L[k] hsz.1).mono ?_
     rintro e w1 ⟨rfl, hb1⟩
     obtain ⟨d0, d1, d2, d3, hb1w, hlt1⟩ := box4 hb1
     have hbel1 := below_trans hbel hb1w
     have hown1 := Pp.own_below hown hb1w
     rw [hp]
     clear hb1 c0 c1 c2 c3 eg hown hbel hb1w
     go_wp2_with (at_builtin; refine wpList_append_own _ rfl _ _ 34 rfl w.heap.size 60 i0 (.agg #[.string ⟨#[]⟩, .bool false, .string ⟨#[]⟩, .int .i64 0]) 4 48 Tryz.underlying34 hi0 hz0 hz1 hz2 rfl (by decide) _ _ _ rfl (hown1.alloc _) ⟨w1.heap.size, 0, none⟩ 1 1 (Pp.cells L[k]) rfl rfl ?c1 ?c2 ?c3 ?c4 ?c5 ?_)
     case c1 => exact Pp.new_cells w1 L[k] _
     case c2 => exact Pp.cells_one _
     case c3 => unfold maxLen; omega
     case c4 => omega
     case c5 => have := hbel1.size; simp; omega
     intro v2 w2 ho2 hgr2 hnn2
     have hbel2 : Below w.heap.size w w2 := (hbel1.alloc hbel1.size _).grown hgr2 (by have := hbel1.size; simp; omega) (fun q hq => (hown1.lt q hq).1)
     rw [Pp.flat_snoc] at ho2
     have HO : Hid (w2.ownsRow w.heap.size 60 4 v2 (((L.take k).filter pr).length + 1) (Pp.flat ((L.take k).filter pr ++ [L[k]]))) := ho2
     have hnn3 : v2 ≠ .slice none 0 0 := by simpa using hnn2
     clear ho2 hgr2 hnn2 hown1 hbel1 d0 d1 d2 d3 hnn
     go_wp2_with fail
     go_roundw
     case rel => exact ⟨k + 1, by omega, by simp, by rw [HF.out, List.length_append]; exact HO.out, hnn3, hbel2⟩
     case measure => simp [intOf]; omega
    | false =>
     have HF : Hid ((L.take (k + 1)).filter pr = (L.take k).filter pr) := Pp.filter_miss hlt hp
     go_wp2_with fail
     refine (HG.out.2 _ (hbel.alloc hbel.size _) L[k] hsz.1).mono ?_
     rintro e w1 ⟨rfl, hb1⟩
     obtain ⟨d0, d1, d2, d3, hb1w, hlt1⟩ := box4 hb1
     have hbel1 := below_trans hbel hb1w
     have hown1 := Pp.own_below hown hb1w
     rw [hp]
     clear hb1 c0 c1 c2 c3 eg hown hbel hb1w
     go_wp2_with fail
     go_roundw
     case rel => exact ⟨k + 1, by omega, by simp, by rw [HF.out]; exact hown1, hnn, hbel1⟩
     case measure => simp [intOf]; omega
  · go_wp2_with fail
    go_ret
    exact ⟨_, rfl, by have e : L.take k = L := List.take_of_length_le (by omega); rw [e] at hown; exact hown, hnn, hbel⟩
end Go.Proofs.YtchlgpeiombmdaaGreat
set_option linter.unusedSimpArgs false
set_option linter.unusedVariables false
namespace Go.Proofs.YtchlgpeiombmdaaGreat.Pp
theorem ltOf_eq (x y : En) : ltOf cfE x y = lt x y := by rw [lt_cfE]; rfl
theorem swo : Sort.SWO (ltOf cfE) where
 irrefl x := by rw [ltOf_eq]; exact lt_irrefl x
 trans x y z h1 h2 := by rw [ltOf_eq] at *; exact lt_trans x y z h1 h2
 ntrans x y z h1 h2 := by rw [ltOf_eq] at *; exact lt_ntrans x y z h1 h2
end Go.Proofs.YtchlgpeiombmdaaGreat.Pp
