/- What package delta's parts answer of two trees: which paths go, which are made. -/
import Derived.Test.YtogbahkoijkclaaGreatD7
set_option linter.unusedSimpArgs false
set_option linter.unusedVariables false
namespace Go.Proofs.YtogbahkoijkclaaGreat
open Go.RowKit Go.Maps Go.WideMaps

namespace Sp
def wAt (L : List En) (p : List UInt8) : Int := match at_ L p with | some e => wh e | none => 0
def tAt (L : List En) (p : List UInt8) : ByteArray := match at_ L p with | some e => tx e | none => ⟨#[]⟩
def vAt (L : List En) (p : List UInt8) : Int := match at_ L p with | some e => e.ver | none => 0
theorem val_eq (L : List En) (p : List UInt8) : val L p = .agg #[.int .i64 (wAt L p), .string (tAt L p), .int .i64 (vAt L p)] := by
  rw [val, wAt, tAt, vAt]
  cases at_ L p <;> rfl
theorem at_self {L : List En} (h : Apart L) {e : En} (he : e ∈ L) : at_ L e.path.data.toList = some e := by
  induction L with
  | nil => cases he
  | cons a r ih =>
    rw [Apart, List.pairwise_cons] at h
    rcases List.mem_cons.1 he with rfl | he'
    · rw [at_, List.find?_cons_of_pos (atB_iff.2 rfl)]
    · have hne : ¬ Pp.atB e.path.data.toList a = true := fun hh => h.1 e he' (atB_iff.1 hh)
      rw [at_, List.find?_cons_of_neg hne]
      exact ih h.2 he'
theorem wAt_self {L : List En} (h : Apart L) {e : En} (he : e ∈ L) : wAt L e.path.data.toList = wh e := by rw [wAt, at_self h he]
theorem tAt_self {L : List En} (h : Apart L) {e : En} (he : e ∈ L) : tAt L e.path.data.toList = tx e := by rw [tAt, at_self h he]
/-- Is there a folder to be in? -/
def hasP (M : List En) (p : List UInt8) : Bool := (Pp.par p == []) || (wAt M (Pp.par p) == 1)
theorem hasP_eq {M : List En} {p q : List UInt8} {a : Int} (h1 : Pp.par p = q) (h2 : wAt M q = a) : hasP M p = ((q == []) || (a == 1)) := by rw [hasP, h1, h2]
def goes (M : List En) (e : En) : Bool := (wh e != wAt M e.path.data.toList) && hasP M e.path.data.toList
def delC (e : En) : Pp.Ch := ⟨4, e.path, ⟨#[]⟩, ⟨#[]⟩, -1⟩
def dels (L M : List En) : List Pp.Ch := (L.filter (goes M)).map delC
def newB (L : List En) (e : En) : Bool := !((wh e == wAt L e.path.data.toList) && ((tx e).toList == (tAt L e.path.data.toList).toList))
def mkC (e : En) : Pp.Ch := if e.folder = true then ⟨1, e.path, ⟨#[]⟩, ⟨#[]⟩, -1⟩ else ⟨2, e.path, ⟨#[]⟩, e.text, -1⟩
def mks (L M : List En) : List Pp.Ch := (M.filter (newB L)).map mkC
end Sp
theorem ownsRow_low {w : World} {B B' : Nat} {e : TypeId} {size : Nat} {v : Value} {n : Nat} {xs : List Value} (h : w.ownsRow B e size v n xs) (hB : B' ≤ B) : w.ownsRow B' e size v n xs := by
  obtain ⟨h1, h2⟩ := h
  refine ⟨h1, ?_⟩
  rcases h2 with h2 | ⟨g, cap, cur, hv, hg, r⟩
  · exact .inl h2
  · exact .inr ⟨g, cap, cur, hv, Nat.le_trans hB hg, r⟩
theorem _root_.Go.World.ownsRow.kept9 {w w' : World} {B : Nat} {e : TypeId} {size : Nat} {v : Value} {n : Nat} {xs : List Value} (h : w.ownsRow B e size v n xs) (hw : Below w.heap.size w w') : w'.ownsRow B e size v n xs := by
  obtain ⟨h1, h2⟩ := h
  refine ⟨h1, ?_⟩
  rcases h2 with h2 | ⟨g, cap, cur, hv, hg, hh, r⟩
  · exact .inl h2
  · have hlt : g < w.heap.size := by
      rcases Nat.lt_or_ge g w.heap.size with h | h
      · exact h
      · rw [Array.getElem?_eq_none h] at hh; cases hh
    exact .inr ⟨g, cap, cur, hv, hg, (hw.block g hlt).trans hh, r⟩
namespace Pp
def flatC (l : List Ch) : List Value := l.flatMap cellsC
theorem flatC_snoc (l : List Ch) (c : Ch) : flatC l ++ cellsC c = flatC (l ++ [c]) := by simp [flatC]
theorem filter_hitE {L : List En} {k : Nat} (h : k < L.length) {pr : En → Bool} (hp : pr L[k] = true) : (L.take (k + 1)).filter pr = (L.take k).filter pr ++ [L[k]] := by
  rw [List.take_succ_eq_append_getElem h, List.filter_append]; simp [hp]
theorem filter_missE {L : List En} {k : Nat} (h : k < L.length) {pr : En → Bool} (hp : pr L[k] = false) : (L.take (k + 1)).filter pr = (L.take k).filter pr := by
  rw [List.take_succ_eq_append_getElem h, List.filter_append]; simp [hp]
end Pp

theorem Tryz.fieldWhat (a : Int) (s : ByteArray) (n : Int) (W : World) : (Instr.field 49 (.agg #[.int .i64 a, .string s, .int .i64 n]) 0).run Tryz.prog W = .ok (.int .i64 a) W := by
  have h : (Instr.field 49 (.agg #[.int .i64 a, .string s, .int .i64 n]) 0).run Tryz.prog W = .ok (#[Value.int .i64 a, Value.string s, Value.int .i64 n][0]) W := by
    simp [Instr.field, run_underlying Tryz.underlying49, asAgg, part, go_sem]
    try rfl
  exact h

set_option maxHeartbeats 1000000 in
theorem like_any (a b : Int) (s t : ByteArray) (m n : Int) (w : World) :
    Calls Tryz.prog 21 #[.agg #[.int .i64 a, .string s, .int .i64 m], .agg #[.int .i64 b, .string t, .int .i64 n]] w fun e w' => e = .returned (.bool ((a == b) && (s.toList == t.toList))) ∧ Below w.heap.size w w' := by
  cases h : (a == b) with
  | false => exact like_no a b s t m n h w
  | true =>
    go_enter Tryz.func21, Tryz.ntmps21
    go_wp2
    go_ret
    exact ⟨by simp, ((Below.refl _ _).alloc (Nat.le_refl _) _).alloc (by simp) _⟩

theorem made_any (x : En) (w : World) :
    Calls Tryz.prog 22 #[.string x.path, .agg #[.int .i64 (Sp.wh x), .string (Sp.tx x), .int .i64 x.ver]] w fun e w' => e = .returned (.agg #[.int .i64 (Sp.mkC x).k, .string (Sp.mkC x).p, .string (Sp.mkC x).q, .string (Sp.mkC x).t, .int .i64 (Sp.mkC x).b]) ∧ Below w.heap.size w w' := by
  obtain ⟨p, f, t, n⟩ := x
  cases f with
  | false => exact made_file p t n w
  | true =>
    show Calls Tryz.prog 22 #[.string p, .agg #[.int .i64 1, .string ⟨#[]⟩, .int .i64 n]] w fun e w' => e = .returned (.agg #[.int .i64 1, .string p, .string ⟨#[]⟩, .string ⟨#[]⟩, .int .i64 (-1)]) ∧ Below w.heap.size w w'
    go_enter Tryz.func22, Tryz.ntmps22
    go_wp2_with fail
    refine bodyPost_ret (v := .agg #[.int .i64 1, .string p, .string ⟨#[]⟩, .string ⟨#[]⟩, .int .i64 (-1)]) (by simp [results, Tryz.results22, go_sem]) rfl ⟨rfl, ?_⟩
    exact ((Below.refl _ _).alloc (Nat.le_refl _) _).alloc (by simp) _

set_option maxRecDepth 100000 in
set_option maxHeartbeats 1000000 in
theorem hasParent_any {c n : Nat} {w : World} {M : List En} (h : w.ownsMap Tryz.prog 9 Sp.rd c n (Sp.D M)) (hM : Sp.Apart M) (p : ByteArray) (hp : p.size ≤ 1000000000) (hc : Pp.chk p.data.toList = 0) (hl : (Pp.par p.data.toList).length ≤ p.size) :
    Calls Tryz.prog 20 #[.map (some c), .string p] w fun e w' => e = .returned (.bool (Sp.hasP M p.data.toList)) ∧ Below w.heap.size w w' := by
  have hclt := h.lt
  have hsz : (⟨(Pp.par p.data.toList).toArray⟩ : ByteArray).size ≤ maxLen := by
    show (Pp.par p.data.toList).toArray.size ≤ _
    rw [List.size_toArray]; unfold maxLen; omega
  have HLK : Hid (∀ W, Below w.heap.size w W → (Instr.lookup 40 (.map (some c)) (.string ⟨(Pp.par p.data.toList).toArray⟩) false).run Tryz.prog W = .ok (.agg #[.int .i64 (Sp.wAt M (Pp.par p.data.toList)), .string (Sp.tAt M (Pp.par p.data.toList)), .int .i64 (Sp.vAt M (Pp.par p.data.toList))]) W) := (fun W hW => by
    have := spotAt_any (omap_below h hW hclt) hM ⟨(Pp.par p.data.toList).toArray⟩ hsz
    rw [Sp.val_eq] at this
    exact this : ∀ W, Below w.heap.size w W → (Instr.lookup 40 (.map (some c)) (.string ⟨(Pp.par p.data.toList).toArray⟩) false).run Tryz.prog W = .ok (.agg #[.int .i64 (Sp.wAt M (Pp.par p.data.toList)), .string (Sp.tAt M (Pp.par p.data.toList)), .int .i64 (Sp.vAt M (Pp.par p.data.toList))]) W)
  have HC := hid hc
  clear h hc
  have hfd := Tryz.fieldWhat
  go_enter Tryz.func20, Tryz.ntmps20
  go_wp2_with fail
  refine (parent_any p _ (by omega)).mono ?_
  rintro e w1 ⟨rfl, hb1⟩
  rw [HC.out, Pp.ifc_yes rfl]
  have hlk := HLK.out w1 hb1
  generalize hqq : Pp.par p.data.toList = q at *
  generalize haa : Sp.wAt M q = a at *
  have HQQ := hid (Sp.hasP_eq hqq haa)
  clear hqq haa
  cases hq : (q == ([] : List UInt8)) with
  | true =>
    have hq2 : ((⟨q.toArray⟩ : ByteArray).toList == (⟨#[]⟩ : ByteArray).toList) = true := by
      have : q = [] := by simpa using hq
      subst this; simp
    go_wp2
    go_ret
    exact ⟨by rw [HQQ.out, hq]; simp, hb1⟩
  | false =>
    have hq2 : ((⟨q.toArray⟩ : ByteArray).toList == (⟨#[]⟩ : ByteArray).toList) = false := by
      rw [Lib.toList_data, Lib.toList_data]
      simpa using hq
    go_wp2
    go_ret
    exact ⟨by rw [HQQ.out, hq]; simp, hb1⟩

set_option maxRecDepth 100000 in
set_option maxHeartbeats 4000000 in
theorem deletes_any {b c n m : Nat} {w : World} {L M : List En} (h : w.ownsMap Tryz.prog 9 Sp.rd b n (Sp.D L)) (ho : w.ownsMap Tryz.prog 9 Sp.rd c m (Sp.D M)) (hL : L.Pairwise (fun x y => Pp.lt x y = true)) (hM : Sp.Apart M) (hn : L.length ≤ 1000) (hp : ∀ e ∈ L, e.path.size ≤ 1000000000 ∧ Pp.chk e.path.data.toList = 0 ∧ (Pp.par e.path.data.toList).length ≤ e.path.size) :
    Calls Tryz.prog 11 #[.map (some b), .map (some c)] w fun e w' => ∃ v, e = .returned v ∧ w'.ownsRow w.heap.size 37 5 v (Sp.dels L M).length (Pp.flatC (Sp.dels L M)) ∧ Below w.heap.size w w' := by
  obtain ⟨i0, hi0, hz0, hz1, hz2⟩ := info_parts Tryz.infoChg
  have hblt := h.lt
  have hclt := ho.lt
  have hap := Sp.apart_rise hL
  have HB := hid h
  have HLK : Hid (∀ x ∈ L, ∀ W, Below w.heap.size w W → (Instr.lookup 40 (.map (some b)) (.string x.path) false).run Tryz.prog W = .ok (.agg #[.int .i64 (Sp.wh x), .string (Sp.tx x), .int .i64 x.ver]) W ∧ (Instr.lookup 40 (.map (some c)) (.string x.path) false).run Tryz.prog W = .ok (.agg #[.int .i64 (Sp.wAt M x.path.data.toList), .string (Sp.tAt M x.path.data.toList), .int .i64 (Sp.vAt M x.path.data.toList)]) W) := (fun x hx W hW => by
    have hs : x.path.size ≤ maxLen := by have := (hp x hx).1; unfold maxLen; omega
    have h1 := spotAt_any (omap_below h hW hblt) hap x.path hs
    have h2 := spotAt_any (omap_below ho hW hclt) hM x.path hs
    rw [Sp.val, Sp.at_self hap hx] at h1
    rw [Sp.val_eq] at h2
    exact ⟨h1, h2⟩ : ∀ x ∈ L, ∀ W, Below w.heap.size w W → (Instr.lookup 40 (.map (some b)) (.string x.path) false).run Tryz.prog W = .ok (.agg #[.int .i64 (Sp.wh x), .string (Sp.tx x), .int .i64 x.ver]) W ∧ (Instr.lookup 40 (.map (some c)) (.string x.path) false).run Tryz.prog W = .ok (.agg #[.int .i64 (Sp.wAt M x.path.data.toList), .string (Sp.tAt M x.path.data.toList), .int .i64 (Sp.vAt M x.path.data.toList)]) W)
  have HHP : Hid (∀ x ∈ L, ∀ W, Below w.heap.size w W → Calls Tryz.prog 20 #[.map (some c), .string x.path] W fun e w' => e = .returned (.bool (Sp.hasP M x.path.data.toList)) ∧ Below W.heap.size W w') := (fun x hx W hW => hasParent_any (omap_below ho hW hclt) hM x.path (hp x hx).1 (hp x hx).2.1 (hp x hx).2.2 : ∀ x ∈ L, ∀ W, Below w.heap.size w W → Calls Tryz.prog 20 #[.map (some c), .string x.path] W fun e w' => e = .returned (.bool (Sp.hasP M x.path.data.toList)) ∧ Below W.heap.size W w')
  have HL := hid hL
  clear h ho hp hap hL
  have hfd := Tryz.fieldWhat
  go_enter Tryz.func11, Tryz.ntmps11
  go_wp2_with fail
  refine (paths_good HB.out HL.out hn).mono ?_
  rintro e w1 ⟨v1, rfl, ⟨a1, cap1, rfl, hcap1, hcells⟩, hb1⟩
  have HCL := hid hcells
  rw [List.length_map] at hcap1 ⊢
  have hsz1 := hb1.size
  clear hcells
  go_wp2_with fail
  go_loopw [5, 11] (fun x i wr => ∃ k : Nat, k ≤ L.length ∧ i = .int .i64 k ∧ Below w1.heap.size w1 wr ∧ wr.ownsRow w1.heap.size 37 5 x (Sp.dels (L.take k) M).length (Pp.flatC (Sp.dels (L.take k) M))) (fun _ i _ => L.length - (intOf i).toNat)
  case atStart => exact ⟨0, Nat.zero_le _, rfl, Below.refl _ _, World.ownsRow_nil _ _ _ _⟩
  case round =>
    obtain ⟨k, hk, rfl, hbel, hown⟩ := hrel
    have hb0r : Below w.heap.size w wr := hb1.trans (hbel.mono hsz1)
    by_cases hlt : k < L.length
    · obtain ⟨g, rfl, hg1, hg2, hcell⟩ := HCL.out k (by rw [List.length_map]; exact hlt)
      rw [List.getElem_map] at hcell
      have c0 := (hbel.cell (p := ⟨g, k, none⟩) hg2).trans hcell
      have hmem : L[k] ∈ L := List.getElem_mem hlt
      obtain ⟨hl1, hl2⟩ := HLK.out L[k] hmem wr hb0r
      have HHK := hid (HHP.out L[k] hmem)
      have HHIT : Hid (Sp.goes M L[k] = true → Sp.dels (L.take (k + 1)) M = Sp.dels (L.take k) M ++ [Sp.delC L[k]]) := (fun hh => by rw [Sp.dels, Pp.filter_hitE hlt hh, List.map_append]; rfl : Sp.goes M L[k] = true → Sp.dels (L.take (k + 1)) M = Sp.dels (L.take k) M ++ [Sp.delC L[k]])
      have HMISS : Hid (Sp.goes M L[k] = false → Sp.dels (L.take (k + 1)) M = Sp.dels (L.take k) M) := (fun hh => by rw [Sp.dels, Pp.filter_missE hlt hh]; rfl : Sp.goes M L[k] = false → Sp.dels (L.take (k + 1)) M = Sp.dels (L.take k) M)
      have hXl : (Sp.dels (L.take k) M).length ≤ 1000 := by
        have h1 : (Sp.dels (L.take k) M).length ≤ (L.take k).length := by rw [Sp.dels, List.length_map]; exact List.length_filter_le _ _
        have h2 := List.length_take_le k L
        omega
      have hrsz := hbel.size
      have HO := hid hown
      clear hown hcell hmem
      generalize L[k] = x at *
      generalize Sp.dels (L.take k) M = X at *
      cases hne : (Sp.wh x != Sp.wAt M x.path.data.toList) with
      | false =>
        have HX := hid (HMISS.out (by rw [Sp.goes, hne]; rfl))
        clear HHIT HMISS HHK
        generalize Sp.wAt M x.path.data.toList = wm at *
        generalize Sp.wh x = wx at *
        go_wp2_with fail
        go_roundw
        case rel => exact ⟨k + 1, by omega, by simp, hbel, by rw [HX.out]; exact HO.out⟩
        case measure => simp [intOf]; omega
      | true =>
        cases hhp : Sp.hasP M x.path.data.toList with
        | false =>
          have HX := hid (HMISS.out (by rw [Sp.goes, hne, hhp]; rfl))
          have HHPX := hid hhp
          clear HHIT HMISS hhp
          generalize Sp.wAt M x.path.data.toList = wm at *
          generalize Sp.wh x = wx at *
          go_wp2_with fail
          refine (HHK.out _ hb0r).mono ?_
          rintro e w2 ⟨rfl, hb2⟩
          rw [HHPX.out]
          have hbel2 := below_trans hbel hb2
          have HO2 := hid (HO.out.kept9 hb2)
          clear hb2 hl1 hl2 c0
          go_wp2_with fail
          go_roundw
          case rel => exact ⟨k + 1, by omega, by simp, hbel2, by rw [HX.out]; exact HO2.out⟩
          case measure => simp [intOf]; omega
        | true =>
          have HX := hid (HHIT.out (by rw [Sp.goes, hne, hhp]; rfl))
          have HHPX := hid hhp
          clear HHIT HMISS hhp
          generalize Sp.wAt M x.path.data.toList = wm at *
          generalize Sp.wh x = wx at *
          go_wp2_with fail
          refine (HHK.out _ hb0r).mono ?_
          rintro e w2 ⟨rfl, hb2⟩
          rw [HHPX.out]
          have hbel2 := below_trans hbel hb2
          have hO2 := HO.out.kept9 hb2
          have hsz2 := hbel2.size
          clear hb2 hl1 hl2 c0
          go_wp2_with (at_builtin; refine wpList_append_own _ rfl _ _ 24 rfl w1.heap.size 37 i0 (.agg #[.int .i64 0, .string ⟨#[]⟩, .string ⟨#[]⟩, .string ⟨#[]⟩, .int .i64 0]) 5 64 Tryz.underlying24 hi0 hz0 hz1 hz2 rfl (by decide) _ _ _ rfl (hO2.alloc _) ⟨w2.heap.size, 0, none⟩ 1 1 (Pp.cellsC (Sp.delC x)) rfl rfl (new_cellsC w2 (Sp.delC x) _) (Pp.cellsC_one _) (by unfold maxLen; omega) (by omega) (by simp; omega) ?_)
          intro v5 w5 ho5 hgr5 hnn5
          have hbel5 : Below w1.heap.size w1 w5 := (hbel2.alloc hbel2.size _).grown hgr5 (by simp; omega) (fun q hq => (hO2.lt q hq).1)
          rw [Pp.flatC_snoc] at ho5
          have HO5 : Hid (w5.ownsRow w1.heap.size 37 5 v5 (X ++ [Sp.delC x]).length (Pp.flatC (X ++ [Sp.delC x]))) := (by rw [List.length_append]; exact ho5 : w5.ownsRow w1.heap.size 37 5 v5 (X ++ [Sp.delC x]).length (Pp.flatC (X ++ [Sp.delC x])))
          clear ho5 hgr5 hnn5 hO2
          go_wp2_with fail
          go_roundw
          case rel => exact ⟨k + 1, by omega, by simp, hbel5, by rw [HX.out]; exact HO5.out⟩
          case measure => simp [intOf]; omega
    · obtain rfl : k = L.length := by omega
      rw [List.take_length] at hown
      have HO := hid (ownsRow_low hown hsz1)
      clear hown
      go_wp2_with fail
      go_ret
      exact ⟨_, rfl, HO.out, hb0r⟩
end Go.Proofs.YtogbahkoijkclaaGreat
