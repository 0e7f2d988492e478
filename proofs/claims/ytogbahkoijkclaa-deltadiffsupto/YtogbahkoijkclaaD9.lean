/- What delta.makes and delta.Diff answer of two trees. -/
import Derived.Test.YtogbahkoijkclaaD8
set_option linter.unusedSimpArgs false
set_option linter.unusedVariables false
namespace Go.Proofs.Ytogbahkoijkclaa
open Go.RowKit Go.Maps Go.WideMaps

set_option maxRecDepth 100000 in
set_option maxHeartbeats 4000000 in
theorem makes_any {b c n m : Nat} {w : World} {L M : List En} (h : w.ownsMap Try.prog 9 Sp.rd b n (Sp.D L)) (ho : w.ownsMap Try.prog 9 Sp.rd c m (Sp.D M)) (hM : M.Pairwise (fun x y => Pp.lt x y = true)) (hL : Sp.Apart L) (hn : M.length ≤ 1000) (hp : ∀ e ∈ M, e.path.size ≤ 1000000000) :
    Calls Try.prog 16 #[.map (some b), .map (some c)] w fun e w' => ∃ v, e = .returned v ∧ w'.ownsRow w.heap.size 38 5 v (Sp.mks L M).length (Pp.flatC (Sp.mks L M)) ∧ Below w.heap.size w w' := by
  obtain ⟨i0, hi0, hz0, hz1, hz2⟩ := info_parts Try.infoChg
  have hblt := h.lt
  have hclt := ho.lt
  have hap := Sp.apart_rise hM
  have HC := hid ho
  have HLK : Hid (∀ x ∈ M, ∀ W, Below w.heap.size w W → (Instr.lookup 40 (.map (some c)) (.string x.path) false).run Try.prog W = .ok (.agg #[.int .i64 (Sp.wh x), .string (Sp.tx x), .int .i64 x.ver]) W ∧ (Instr.lookup 40 (.map (some b)) (.string x.path) false).run Try.prog W = .ok (.agg #[.int .i64 (Sp.wAt L x.path.data.toList), .string (Sp.tAt L x.path.data.toList), .int .i64 (Sp.vAt L x.path.data.toList)]) W) := (fun x hx W hW => by
    have hs : x.path.size ≤ maxLen := by have := hp x hx; unfold maxLen; omega
    have h1 := spotAt_any (omap_below ho hW hclt) hap x.path hs
    have h2 := spotAt_any (omap_below h hW hblt) hL x.path hs
    rw [Sp.val, Sp.at_self hap hx] at h1
    rw [Sp.val_eq] at h2
    exact ⟨h1, h2⟩ : ∀ x ∈ M, ∀ W, Below w.heap.size w W → (Instr.lookup 40 (.map (some c)) (.string x.path) false).run Try.prog W = .ok (.agg #[.int .i64 (Sp.wh x), .string (Sp.tx x), .int .i64 x.ver]) W ∧ (Instr.lookup 40 (.map (some b)) (.string x.path) false).run Try.prog W = .ok (.agg #[.int .i64 (Sp.wAt L x.path.data.toList), .string (Sp.tAt L x.path.data.toList), .int .i64 (Sp.vAt L x.path.data.toList)]) W)
  have HM := hid hM
  clear h ho hp hap hM
  have hfd := Try.fieldWhat
  go_enter Try.func16, Try.ntmps16
  go_wp2_with fail
  refine (paths_good HC.out HM.out hn).mono ?_
  rintro e w1 ⟨v1, rfl, ⟨a1, cap1, rfl, hcap1, hcells⟩, hb1⟩
  have HCL := hid hcells
  rw [List.length_map] at hcap1 ⊢
  have hsz1 := hb1.size
  clear hcells
  go_wp2_with fail
  go_loopw [5, 11] (fun x i wr => ∃ k : Nat, k ≤ M.length ∧ i = .int .i64 k ∧ Below w1.heap.size w1 wr ∧ wr.ownsRow w1.heap.size 38 5 x (Sp.mks L (M.take k)).length (Pp.flatC (Sp.mks L (M.take k)))) (fun _ i _ => M.length - (intOf i).toNat)
  case atStart => exact ⟨0, Nat.zero_le _, rfl, Below.refl _ _, World.ownsRow_nil _ _ _ _⟩
  case round =>
    obtain ⟨k, hk, rfl, hbel, hown⟩ := hrel
    have hb0r : Below w.heap.size w wr := hb1.trans (hbel.mono hsz1)
    by_cases hlt : k < M.length
    · obtain ⟨g, rfl, hg1, hg2, hcell⟩ := HCL.out k (by rw [List.length_map]; exact hlt)
      rw [List.getElem_map] at hcell
      have c0 := (hbel.cell (p := ⟨g, k, none⟩) hg2).trans hcell
      have hmem : M[k] ∈ M := List.getElem_mem hlt
      obtain ⟨hl1, hl2⟩ := HLK.out M[k] hmem wr hb0r
      have HLX := hid (HLK.out M[k] hmem)
      have HHIT : Hid (Sp.newB L M[k] = true → Sp.mks L (M.take (k + 1)) = Sp.mks L (M.take k) ++ [Sp.mkC M[k]]) := (fun hh => by rw [Sp.mks, Pp.filter_hitE hlt hh, List.map_append]; rfl : Sp.newB L M[k] = true → Sp.mks L (M.take (k + 1)) = Sp.mks L (M.take k) ++ [Sp.mkC M[k]])
      have HMISS : Hid (Sp.newB L M[k] = false → Sp.mks L (M.take (k + 1)) = Sp.mks L (M.take k)) := (fun hh => by rw [Sp.mks, Pp.filter_missE hlt hh]; rfl : Sp.newB L M[k] = false → Sp.mks L (M.take (k + 1)) = Sp.mks L (M.take k))
      have hXl : (Sp.mks L (M.take k)).length ≤ 1000 := by
        have h1 : (Sp.mks L (M.take k)).length ≤ (M.take k).length := by rw [Sp.mks, List.length_map]; exact List.length_filter_le _ _
        have h2 := List.length_take_le k M
        omega
      have hrsz := hbel.size
      have HO := hid hown
      clear hown hcell hmem
      generalize M[k] = x at *
      generalize Sp.mks L (M.take k) = X at *
      cases hlk : ((Sp.wh x == Sp.wAt L x.path.data.toList) && ((Sp.tx x).toList == (Sp.tAt L x.path.data.toList).toList)) with
      | true =>
        have HX := hid (HMISS.out (by rw [Sp.newB, hlk]; rfl))
        have HLI := hid hlk
        clear HHIT HMISS hlk
        go_wp2_with fail
        refine (like_any _ _ _ _ _ _ _).mono ?_
        rintro e w2 ⟨rfl, hb2⟩
        rw [HLI.out]
        have hbel2 := below_trans hbel hb2
        have HO2 := hid (HO.out.kept9 hb2)
        clear hb2 hl1 hl2 c0
        go_wp2_with fail
        go_roundw
        case rel => exact ⟨k + 1, by omega, by simp, hbel2, by rw [HX.out]; exact HO2.out⟩
        case measure => simp [intOf]; omega
      | false =>
        have HX := hid (HHIT.out (by rw [Sp.newB, hlk]; rfl))
        have HLI := hid hlk
        clear HHIT HMISS hlk
        go_wp2_with fail
        refine (like_any _ _ _ _ _ _ _).mono ?_
        rintro e w2 ⟨rfl, hb2⟩
        rw [HLI.out]
        have hbel2 := below_trans hbel hb2
        have hb02 := below_trans hb0r hb2
        have HO2 := hid (HO.out.kept9 hb2)
        clear hb2 hl1 hl2
        obtain ⟨hl1, hl2⟩ := HLX.out w2 hb02
        go_wp2_with fail
        refine (made_any x _).mono ?_
        rintro e w3 ⟨rfl, hb3⟩
        have hbel3 := below_trans hbel2 hb3
        have hO3 := HO2.out.kept9 hb3
        have hsz3 := hbel3.size
        clear hb3 hl1 hl2 c0
        go_wp2_with (at_builtin; refine wpList_append_own _ rfl _ _ 29 rfl w1.heap.size 38 i0 (.agg #[.int .i64 0, .string ⟨#[]⟩, .string ⟨#[]⟩, .string ⟨#[]⟩, .int .i64 0]) 5 64 Try.underlying29 hi0 hz0 hz1 hz2 rfl (by decide) _ _ _ rfl (hO3.alloc _) ⟨w3.heap.size, 0, none⟩ 1 1 (Pp.cellsC (Sp.mkC x)) rfl rfl (new_cellsC w3 (Sp.mkC x) _) (Pp.cellsC_one _) (by unfold maxLen; omega) (by omega) (by simp; omega) ?_)
        intro v5 w5 ho5 hgr5 hnn5
        have hbel5 : Below w1.heap.size w1 w5 := (hbel3.alloc hbel3.size _).grown hgr5 (by simp; omega) (fun q hq => (hO3.lt q hq).1)
        rw [Pp.flatC_snoc] at ho5
        have HO5 : Hid (w5.ownsRow w1.heap.size 38 5 v5 (X ++ [Sp.mkC x]).length (Pp.flatC (X ++ [Sp.mkC x]))) := (by rw [List.length_append]; exact ho5 : w5.ownsRow w1.heap.size 38 5 v5 (X ++ [Sp.mkC x]).length (Pp.flatC (X ++ [Sp.mkC x])))
        clear ho5 hgr5 hnn5 hO3
        go_wp2_with fail
        go_roundw
        case rel => exact ⟨k + 1, by omega, by simp, hbel5, by rw [HX.out]; exact HO5.out⟩
        case measure => simp [intOf]; omega
    · obtain rfl : k = M.length := by omega
      rw [List.take_length] at hown
      have HO := hid (ownsRow_low hown hsz1)
      clear hown
      go_wp2_with fail
      go_ret
      exact ⟨_, rfl, HO.out, hb0r⟩
end Go.Proofs.Ytogbahkoijkclaa
