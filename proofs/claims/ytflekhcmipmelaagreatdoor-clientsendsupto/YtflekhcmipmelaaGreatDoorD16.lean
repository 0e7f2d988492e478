/- What the reference's DiffOf answers of two trees that pass Check, and how each of its rounds goes. -/
import Derived.Test.YtflekhcmipmelaaGreatDoorPT
import Derived.Test.YtflekhcmipmelaaGreatDoorPO
import Derived.BigQuiet
import Derived.Deep.QuietTactic
import Derived.Deep.Cut
set_option linter.unusedSimpArgs false
set_option linter.unusedVariables false
namespace Go.Proofs.YtflekhcmipmelaaGreatDoor
open Go.RowKit

namespace Sp
theorem round1 {A B : List En} (hA : Pp.Good A) (hB : Pp.Good B) {k : Nat} (hk : k < A.length) :
    (Pp.idx (stay A B k) A[k].path.data.toList = -1 ∧ goes B A[k] = false) ∨
    ((∃ j : Nat, Pp.idx (stay A B k) A[k].path.data.toList = (j : Int)) ∧ A[k] ∈ stay A B k ∧
      ((Pp.idx B A[k].path.data.toList = -1 ∧ goes B A[k] = true) ∨
       ∃ j, ∃ h : j < B.length, Pp.idx B A[k].path.data.toList = (j : Int) ∧ goes B A[k] = !(B[j].folder == A[k].folder))) := by
  rcases Pp.idx_cases (stay A B k) A[k].path.data.toList with ⟨h1, h2⟩ | ⟨j, hj, h1, h2⟩
  · refine Or.inl ⟨h1, ?_⟩
    cases hh : hasP B A[k].path.data.toList with
    | false => rw [goes, hh, Bool.and_false]
    | true =>
      have h3 := at_self (apart_rise (stay_good (B := B) hA k).rise) ((stay_mem hA hB hk).2 hh)
      rw [show at_ (stay A B k) A[k].path.data.toList = none from h2] at h3; cases h3
  · obtain ⟨h3, h4⟩ := at_mem (L := stay A B k) h2
    have h5 : (stay A B k)[j] = A[k] := hA.uniq (List.mem_filter.1 h3).1 (List.getElem_mem hk) h4
    rw [h5] at h3
    refine Or.inr ⟨⟨j, h1⟩, h3, ?_⟩
    rw [goes_eq ((stay_mem hA hB hk).1 h3)]
    rcases Pp.idx_cases B A[k].path.data.toList with ⟨h6, h7⟩ | ⟨j2, hj2, h6, h7⟩
    · refine Or.inl ⟨h6, ?_⟩
      rw [wAt, show at_ B A[k].path.data.toList = none from h7]
      rcases wh_cases A[k] with ⟨_, e⟩ | ⟨_, e⟩ <;> rw [e] <;> rfl
    · refine Or.inr ⟨j2, hj2, h6, ?_⟩
      rw [wAt, show at_ B A[k].path.data.toList = some B[j2] from h7]
      show (wh A[k] != wh B[j2]) = _
      rcases wh_cases A[k] with ⟨e1, e2⟩ | ⟨e1, e2⟩ <;> rcases wh_cases B[j2] with ⟨e3, e4⟩ | ⟨e3, e4⟩ <;> rw [e1, e2, e3, e4] <;> rfl
theorem round2 {A B : List En} (hA : Pp.Good A) (hB : Pp.Good B) {b : En} (hb : b ∈ B) :
    (Pp.idx (stay A B A.length) b.path.data.toList = -1 ∧ newB A b = true) ∨
    ∃ j, ∃ h : j < (stay A B A.length).length, Pp.idx (stay A B A.length) b.path.data.toList = (j : Int) ∧ newB A b = !(b.folder || ((stay A B A.length)[j].text.toList == b.text.toList)) := by
  obtain ⟨h1, h2⟩ := stay_at hA hB hb
  rcases Pp.idx_cases (stay A B A.length) b.path.data.toList with ⟨h3, h4⟩ | ⟨j, hj, h3, h4⟩
  · exact Or.inl ⟨h3, newB_none (h2 h4)⟩
  · obtain ⟨h5, h6⟩ := h1 _ h4
    exact Or.inr ⟨j, hj, h3, newB_some h5 h6⟩
theorem dels_le {A B : List En} (k : Nat) : (dels (A.take k) B).length ≤ A.length := by
  rw [dels, List.length_map]
  refine Nat.le_trans (List.length_filter_le _ _) ?_
  rw [List.length_take]; omega
end Sp

set_option maxRecDepth 100000 in
set_option maxHeartbeats 8000000 in
theorem diffOf_any (A B : List En) (va vb : Value) (w : World) (hVA : Lies w va A) (hVB : Lies w vb B) (hA : Pp.Good A) (hB : Pp.Good B) :
    Calls Tryz.prog 38 #[va, vb] w fun e w' => ∃ u, e = .returned u ∧ w'.ownsRow w.heap.size 35 5 u (Sp.dels A B ++ Sp.mks A B).length (Pp.flatC (Sp.dels A B ++ Sp.mks A B)) ∧ Below w.heap.size w w' := by
  obtain ⟨i0, hi0, hz0, hz1, hz2⟩ := info_parts Tryz.infoChg
  have HX0 := hid (liesX_old hVA)
  have HVB := hid hVB
  have HGA := hid hA
  have HGB := hid hB
  have hlA := hA.len
  have hlB := hB.len
  obtain ⟨a, capa, rfl, hcapa, hcapa2, hLA⟩ := hVA
  have HA : Hid (∀ i (h : i < A.length), ∃ b o, a = some ⟨b, o, none⟩ ∧ b < w.heap.size ∧ EnAt w b (o + i * 4) A[i]) := hLA
  obtain ⟨a2, capb, rfl, hcapb, hcapb2, hLB⟩ := hVB
  have HB : Hid (∀ i (h : i < B.length), ∃ b o, a2 = some ⟨b, o, none⟩ ∧ b < w.heap.size ∧ EnAt w b (o + i * 4) B[i]) := hLB
  have HR1 : Hid (∀ k (hk : k < A.length), (Pp.idx (Sp.stay A B k) A[k].path.data.toList = -1 ∧ Sp.goes B A[k] = false) ∨
    ((∃ j : Nat, Pp.idx (Sp.stay A B k) A[k].path.data.toList = (j : Int)) ∧ A[k] ∈ Sp.stay A B k ∧
      ((Pp.idx B A[k].path.data.toList = -1 ∧ Sp.goes B A[k] = true) ∨
       ∃ j, ∃ h : j < B.length, Pp.idx B A[k].path.data.toList = (j : Int) ∧ Sp.goes B A[k] = !(B[j].folder == A[k].folder)))) := (fun k hk => Sp.round1 hA hB hk : ∀ k (hk : k < A.length), (Pp.idx (Sp.stay A B k) A[k].path.data.toList = -1 ∧ Sp.goes B A[k] = false) ∨
    ((∃ j : Nat, Pp.idx (Sp.stay A B k) A[k].path.data.toList = (j : Int)) ∧ A[k] ∈ Sp.stay A B k ∧
      ((Pp.idx B A[k].path.data.toList = -1 ∧ Sp.goes B A[k] = true) ∨
       ∃ j, ∃ h : j < B.length, Pp.idx B A[k].path.data.toList = (j : Int) ∧ Sp.goes B A[k] = !(B[j].folder == A[k].folder))))
  clear hLA hLB hA hB
  go_enter Tryz.func38, Tryz.ntmps38
  go_wp2_with fail
  go_loopw [5, 6, 7] (fun x y i wr => ∃ k : Nat, k ≤ A.length ∧ i = .int .i64 k ∧ Below w.heap.size w wr ∧ Hid (wr.ownsRow w.heap.size 35 5 x (Sp.dels (A.take k) B).length (Pp.flatC (Sp.dels (A.take k) B))) ∧ Hid (LiesX w.heap.size wr y (Sp.stay A B k))) (fun _ _ i _ => A.length - (intOf i).toNat)
  case atStart => exact ⟨0, Nat.zero_le _, rfl, Below.refl _ _, World.ownsRow_nil _ _ _ _, by rw [Sp.stay_zero]; exact HX0⟩
  case round =>
    obtain ⟨k, hk, rfl, hbel, HO, HX⟩ := hrel
    by_cases hlt : k < A.length
    · obtain ⟨b, o, rfl, hb, he⟩ := HA.out k hlt
      obtain ⟨c0, c1, c2, c3⟩ := he.below hb hbel
      have HEN := hid he
      have HR := hid (HR1.out k hlt)
      have hXl : (Sp.dels (A.take k) B).length ≤ 60 := Nat.le_trans (Sp.dels_le k) hlA
      have HHIT : Hid (Sp.goes B A[k] = true → Sp.dels (A.take (k + 1)) B = Sp.dels (A.take k) B ++ [Sp.delC A[k]] ∧ Sp.stay A B (k + 1) = (Sp.stay A B k).filter (fun e => !Pp.wi A[k].path.data.toList e)) := (fun h => ⟨Sp.dels_hit hlt h, Sp.stay_hit hlt h⟩ : Sp.goes B A[k] = true → Sp.dels (A.take (k + 1)) B = Sp.dels (A.take k) B ++ [Sp.delC A[k]] ∧ Sp.stay A B (k + 1) = (Sp.stay A B k).filter (fun e => !Pp.wi A[k].path.data.toList e))
      have HMISS : Hid (Sp.goes B A[k] = false → Sp.dels (A.take (k + 1)) B = Sp.dels (A.take k) B ∧ Sp.stay A B (k + 1) = Sp.stay A B k) := (fun h => ⟨Sp.dels_miss hlt h, Sp.stay_miss hlt h⟩ : Sp.goes B A[k] = false → Sp.dels (A.take (k + 1)) B = Sp.dels (A.take k) B ∧ Sp.stay A B (k + 1) = Sp.stay A B k)
      have HGS := hid (Sp.stay_good (B := B) HGA.out k)
      have hpz : A[k].path.size ≤ 1000000000 := by
        have := Pp.chk_len (Pp.entE_path (HGA.out.ents _ (List.getElem_mem hlt)))
        rw [Lib.size_eq]; omega
      clear he
      generalize A[k] = x at *
      generalize hS : Sp.stay A B k = S at *
      generalize hD : Sp.dels (A.take k) B = X at *
      clear hS hD
      rcases HR.out with ⟨g1, g2⟩ | ⟨⟨j, g1⟩, g3, hrest⟩
      · have HM := hid (HMISS.out g2)
        have HG1 := hid g1
        clear HHIT HMISS HR g1 g2
        go_wp2_with fail
        refine (entryAt_any S _ x.path _ HX.out.lies).mono ?_
        rintro e w1 ⟨rfl, hb1⟩
        rw [HG1.out]
        have hbel1 := below_trans hbel hb1
        have HO1 := hid (HO.out.kept9 hb1)
        have HX1 := hid (HX.out.below hb1)
        clear hb1 c0 c1 c2 c3
        go_wp2_with fail
        go_roundw
        case rel => exact ⟨k + 1, by omega, by simp, hbel1, by rw [HM.out.1]; exact HO1, by rw [HM.out.2]; exact HX1⟩
        case measure => simp [intOf]; omega
      · have HG1 := hid g1
        have HG3 := hid g3
        have HRR := hid hrest
        clear HR g1 g3 hrest
        go_wp2_with fail
        refine (entryAt_any S _ x.path _ HX.out.lies).mono ?_
        rintro e w1 ⟨rfl, hb1⟩
        rw [HG1.out]
        have hbel1 := below_trans hbel hb1
        have HO1 := hid (HO.out.kept9 hb1)
        have HX1 := hid (HX.out.below hb1)
        clear hb1 c0 c1 c2 c3
        obtain ⟨c0, c1, c2, c3⟩ := HEN.out.below hb hbel1
        have hj0 : ¬ (j : Int) < 0 := by omega
        go_wp2_with fail
        refine (entryAt_any B _ x.path _ (HVB.out.below hbel1)).mono ?_
        rintro e w2 ⟨rfl, hb2⟩
        have hbel2 := below_trans hbel1 hb2
        have HO2 := hid (HO1.out.kept9 hb2)
        have HX2 := hid (HX1.out.below hb2)
        clear hb2 c0 c1 c2 c3 hbel1 HO1 HX1
        obtain ⟨c0, c1, c2, c3⟩ := HEN.out.below hb hbel2
        rcases HRR.out with ⟨g4, g5⟩ | ⟨j2, hj2, g4, g5⟩
        · have HH := hid (HHIT.out g5)
          rw [g4]
          clear HHIT HMISS HRR g4 g5
          go_wp2_with fail
          go_quiet (fail)
          generalize hwq : World.drewN w2 _ = wq
          have hbq : Below w2.heap.size w2 wq := hwq ▸ ⟨rfl, rfl, rfl, Nat.le_refl _, fun _ _ => rfl⟩
          clear hwq
          have hbel3 := below_trans hbel2 hbq
          have HO3 := hid (HO2.out.kept9 hbq)
          have HX3 := hid (HX2.out.below hbq)
          clear hbq c0 c1 c2 c3 HO2 HX2
          obtain ⟨c0, c1, c2, c3⟩ := HEN.out.below hb hbel3
          go_upto_region 10 with fail
          generalize hwc : World.alloc wq _ = wc
          have hbc : Below wq.heap.size wq wc := hwc ▸ (Below.refl _ _).alloc (Nat.le_refl _) _
          have hszc : wq.heap.size < wc.heap.size := by rw [← hwc]; simp
          have e0 : wc.cell? ⟨wq.heap.size, 0, none⟩ = some (.int .i64 4) := by rw [← hwc]; simp
          have e1 : wc.cell? ⟨wq.heap.size, 1, none⟩ = some (.string x.path) := by rw [← hwc]; simp
          have e2 : wc.cell? ⟨wq.heap.size, 2, none⟩ = some (.string ⟨#[]⟩) := by rw [← hwc]; simp
          have e3 : wc.cell? ⟨wq.heap.size, 3, none⟩ = some (.string ⟨#[]⟩) := by rw [← hwc]; simp
          have e4 : wc.cell? ⟨wq.heap.size, 4, none⟩ = some (.int .i64 (-1)) := by rw [← hwc]; simp
          clear hwc c0 c1 c2 c3
          have hbel4 := below_trans hbel3 hbc
          have hO4 := HO3.out.kept9 hbc
          have hlt4 : ∀ q, _ = some q → w.heap.size ≤ q ∧ q < wq.heap.size := HO3.out.lt
          have HX4 := hid ((HX3.out.below hbc).below ((Below.refl wc.heap.size wc).alloc (Nat.le_refl _) (.cells #[.int .i64 4, .string x.path, .string ⟨#[]⟩, .string ⟨#[]⟩, .int .i64 (-1)] 35)))
          have hsz4 := hbel4.size
          go_wp2_with (at_builtin; (refine wpList_append_own _ rfl _ _ 23 rfl w.heap.size 35 i0 (.agg #[.int .i64 0, .string ⟨#[]⟩, .string ⟨#[]⟩, .string ⟨#[]⟩, .int .i64 0]) 5 64 Tryz.underlying23 hi0 hz0 hz1 hz2 rfl (by decide) _ _ _ rfl (hO4.alloc _) ⟨wc.heap.size, 0, none⟩ 1 1 (Pp.cellsC (Sp.delC x)) rfl rfl (new_cellsC wc (Sp.delC x) _) (Pp.cellsC_one _) (by unfold maxLen; omega) (by omega) (by simp; omega) ?_))
          intro v5 w5 ho5 hgr5 hnn5
          have hbel5 : Below w.heap.size w w5 := (hbel4.alloc hbel4.size _).grown hgr5 (by simp; omega) (fun q hq => (hO4.lt q hq).1)
          have HX5 := hid (HX4.out.grown (hO4.alloc _) hgr5)
          have far : ∀ j, w5.cell? ⟨wq.heap.size, j, none⟩ = wc.cell? ⟨wq.heap.size, j, none⟩ := fun j => by
            rw [hgr5.cell_far ⟨wq.heap.size, j, none⟩ (by simp; omega) (fun hq => absurd (hlt4 _ hq.symm).2 (Nat.lt_irrefl _))]
            exact ((Below.refl wc.heap.size wc).alloc (Nat.le_refl _) _).cell (p := ⟨wq.heap.size, j, none⟩) (by show wq.heap.size < _; omega)
          have f0 := (far 0).trans e0
          have f1 := (far 1).trans e1
          have f2 := (far 2).trans e2
          have f3 := (far 3).trans e3
          have f4 := (far 4).trans e4
          rw [Pp.flatC_snoc] at ho5
          have HO5 : Hid (w5.ownsRow w.heap.size 35 5 v5 (X ++ [Sp.delC x]).length (Pp.flatC (X ++ [Sp.delC x]))) := (by rw [List.length_append]; exact ho5 : w5.ownsRow w.heap.size 35 5 v5 (X ++ [Sp.delC x]).length (Pp.flatC (X ++ [Sp.delC x])))
          clear ho5 hgr5 hnn5 hO4 far e0 e1 e2 e3 e4 HX4 HO3 HX3 hlt4
          go_wp2_with fail
          refine (changeOf_gone S _ x.path _ HX5.out.lies hpz HGS.out HG3.out rfl).mono ?_
          rintro e w6 ⟨u, rfl, hou, hb6⟩
          have hbel6 := below_trans hbel5 hb6
          have HO6 := hid (HO5.out.kept9 hb6)
          have HX6 := hid (liesX_row (B := w.heap.size) hou (Nat.le_trans (List.length_filter_le _ _) (by have := HGS.out.len; omega)))
          clear hb6 hou f0 f1 f2 f3 f4
          go_wp2_with fail
          go_roundw
          case rel => exact ⟨k + 1, by omega, by simp, hbel6, by rw [HH.out.1]; exact HO6, by rw [HH.out.2]; exact HX6⟩
          case measure => simp [intOf]; omega
        · obtain ⟨b', o', rfl, hb', he'⟩ := HB.out j2 hj2
          obtain ⟨d0, d1, d2, d3⟩ := he'.below hb' hbel2
          rw [g4]
          have hj22 : ¬ (j2 : Int) < 0 := by omega
          cases hf : (B[j2].folder == x.folder) with
          | true =>
            have HM := hid (HMISS.out (by rw [g5, hf]; rfl))
            clear HHIT HMISS HRR g4 g5 he'
            generalize B[j2] = b2 at *
            go_wp2_with fail
            go_quiet (fail)
            generalize hwq : World.drewN w2 _ = wq
            have hbq : Below w2.heap.size w2 wq := hwq ▸ ⟨rfl, rfl, rfl, Nat.le_refl _, fun _ _ => rfl⟩
            clear hwq
            have hbel3 := below_trans hbel2 hbq
            have HO3 := hid (HO2.out.kept9 hbq)
            have HX3 := hid (HX2.out.below hbq)
            clear hbq d0 d1 d2 d3 c0 c1 c2 c3 HO2 HX2
            go_wp2_with fail
            go_roundw
            case rel => exact ⟨k + 1, by omega, by simp, hbel3, by rw [HM.out.1]; exact HO3, by rw [HM.out.2]; exact HX3⟩
            case measure => simp [intOf]; omega
          | false =>
            have HH := hid (HHIT.out (by rw [g5, hf]; rfl))
            clear HHIT HMISS HRR g4 g5 he'
            generalize B[j2] = b2 at *
            go_wp2_with fail
            go_quiet (fail)
            generalize hwq : World.drewN w2 _ = wq
            have hbq : Below w2.heap.size w2 wq := hwq ▸ ⟨rfl, rfl, rfl, Nat.le_refl _, fun _ _ => rfl⟩
            clear hwq
            have hbel3 := below_trans hbel2 hbq
            have HO3 := hid (HO2.out.kept9 hbq)
            have HX3 := hid (HX2.out.below hbq)
            clear hbq d0 d1 d2 d3 c0 c1 c2 c3 HO2 HX2
            obtain ⟨c0, c1, c2, c3⟩ := HEN.out.below hb hbel3
            go_upto_region 10 with fail
            generalize hwc : World.alloc wq _ = wc
            have hbc : Below wq.heap.size wq wc := hwc ▸ (Below.refl _ _).alloc (Nat.le_refl _) _
            have hszc : wq.heap.size < wc.heap.size := by rw [← hwc]; simp
            have e0 : wc.cell? ⟨wq.heap.size, 0, none⟩ = some (.int .i64 4) := by rw [← hwc]; simp
            have e1 : wc.cell? ⟨wq.heap.size, 1, none⟩ = some (.string x.path) := by rw [← hwc]; simp
            have e2 : wc.cell? ⟨wq.heap.size, 2, none⟩ = some (.string ⟨#[]⟩) := by rw [← hwc]; simp
            have e3 : wc.cell? ⟨wq.heap.size, 3, none⟩ = some (.string ⟨#[]⟩) := by rw [← hwc]; simp
            have e4 : wc.cell? ⟨wq.heap.size, 4, none⟩ = some (.int .i64 (-1)) := by rw [← hwc]; simp
            clear hwc c0 c1 c2 c3
            have hbel4 := below_trans hbel3 hbc
            have hO4 := HO3.out.kept9 hbc
            have hlt4 : ∀ q, _ = some q → w.heap.size ≤ q ∧ q < wq.heap.size := HO3.out.lt
            have HX4 := hid ((HX3.out.below hbc).below ((Below.refl wc.heap.size wc).alloc (Nat.le_refl _) (.cells #[.int .i64 4, .string x.path, .string ⟨#[]⟩, .string ⟨#[]⟩, .int .i64 (-1)] 35)))
            have hsz4 := hbel4.size
            go_wp2_with (at_builtin; (refine wpList_append_own _ rfl _ _ 23 rfl w.heap.size 35 i0 (.agg #[.int .i64 0, .string ⟨#[]⟩, .string ⟨#[]⟩, .string ⟨#[]⟩, .int .i64 0]) 5 64 Tryz.underlying23 hi0 hz0 hz1 hz2 rfl (by decide) _ _ _ rfl (hO4.alloc _) ⟨wc.heap.size, 0, none⟩ 1 1 (Pp.cellsC (Sp.delC x)) rfl rfl (new_cellsC wc (Sp.delC x) _) (Pp.cellsC_one _) (by unfold maxLen; omega) (by omega) (by simp; omega) ?_))
            intro v5 w5 ho5 hgr5 hnn5
            have hbel5 : Below w.heap.size w w5 := (hbel4.alloc hbel4.size _).grown hgr5 (by simp; omega) (fun q hq => (hO4.lt q hq).1)
            have HX5 := hid (HX4.out.grown (hO4.alloc _) hgr5)
            have far : ∀ j, w5.cell? ⟨wq.heap.size, j, none⟩ = wc.cell? ⟨wq.heap.size, j, none⟩ := fun j => by
              rw [hgr5.cell_far ⟨wq.heap.size, j, none⟩ (by simp; omega) (fun hq => absurd (hlt4 _ hq.symm).2 (Nat.lt_irrefl _))]
              exact ((Below.refl wc.heap.size wc).alloc (Nat.le_refl _) _).cell (p := ⟨wq.heap.size, j, none⟩) (by show wq.heap.size < _; omega)
            have f0 := (far 0).trans e0
            have f1 := (far 1).trans e1
            have f2 := (far 2).trans e2
            have f3 := (far 3).trans e3
            have f4 := (far 4).trans e4
            rw [Pp.flatC_snoc] at ho5
            have HO5 : Hid (w5.ownsRow w.heap.size 35 5 v5 (X ++ [Sp.delC x]).length (Pp.flatC (X ++ [Sp.delC x]))) := (by rw [List.length_append]; exact ho5 : w5.ownsRow w.heap.size 35 5 v5 (X ++ [Sp.delC x]).length (Pp.flatC (X ++ [Sp.delC x])))
            clear ho5 hgr5 hnn5 hO4 far e0 e1 e2 e3 e4 HX4 HO3 HX3 hlt4
            go_wp2_with fail
            refine (changeOf_gone S _ x.path _ HX5.out.lies hpz HGS.out HG3.out rfl).mono ?_
            rintro e w6 ⟨u, rfl, hou, hb6⟩
            have hbel6 := below_trans hbel5 hb6
            have HO6 := hid (HO5.out.kept9 hb6)
            have HX6 := hid (liesX_row (B := w.heap.size) hou (Nat.le_trans (List.length_filter_le _ _) (by have := HGS.out.len; omega)))
            clear hb6 hou f0 f1 f2 f3 f4
            go_wp2_with fail
            go_roundw
            case rel => exact ⟨k + 1, by omega, by simp, hbel6, by rw [HH.out.1]; exact HO6, by rw [HH.out.2]; exact HX6⟩
            case measure => simp [intOf]; omega
    · obtain rfl : k = A.length := by omega
      obtain ⟨S, hS⟩ : ∃ S, S = Sp.stay A B A.length := ⟨_, rfl⟩
      rw [← hS] at HX
      obtain ⟨D, hD⟩ : ∃ D, D = Sp.dels A B := ⟨_, rfl⟩
      have HO9 : Hid (wr.ownsRow w.heap.size 35 5 u5 (D ++ Sp.mks A (B.take 0)).length (Pp.flatC (D ++ Sp.mks A (B.take 0)))) := (by
        have h := HO.out
        rw [List.take_length, ← hD] at h
        have e : Sp.mks A (B.take 0) = [] := rfl
        rw [e, List.append_nil]
        exact h : wr.ownsRow w.heap.size 35 5 u5 (D ++ Sp.mks A (B.take 0)).length (Pp.flatC (D ++ Sp.mks A (B.take 0))))
      have hDl : D.length ≤ 60 := by rw [hD]; have := Sp.dels_le (A := A) (B := B) A.length; rw [List.take_length] at this; omega
      have HR2 : Hid (∀ b ∈ B, (Pp.idx S b.path.data.toList = -1 ∧ Sp.newB A b = true) ∨ ∃ j, ∃ h : j < S.length, Pp.idx S b.path.data.toList = (j : Int) ∧ Sp.newB A b = !(b.folder || (S[j].text.toList == b.text.toList))) := (by
        subst hS
        exact fun b hb => Sp.round2 HGA.out HGB.out hb : ∀ b ∈ B, (Pp.idx S b.path.data.toList = -1 ∧ Sp.newB A b = true) ∨ ∃ j, ∃ h : j < S.length, Pp.idx S b.path.data.toList = (j : Int) ∧ Sp.newB A b = !(b.folder || (S[j].text.toList == b.text.toList)))
      have HDD := hid hD
      have hSl : S.length ≤ 60 := by rw [hS]; exact (Sp.stay_good (B := B) HGA.out A.length).len
      clear hS hD HO HR1 HA
      obtain ⟨a3, cap3, rfl, hc3, hc3', _⟩ := HX.out
      obtain ⟨wx, hwx⟩ : ∃ wx, wx = wr := ⟨_, rfl⟩
      rw [← hwx]
      rw [← hwx] at hbel HO9 HX
      clear hwx hlt hk
      go_wp2_with fail
      go_loopw [5, 10] (fun x i wr => ∃ k : Nat, k ≤ B.length ∧ i = .int .i64 k ∧ Below w.heap.size w wr ∧ Hid (wr.ownsRow w.heap.size 35 5 x (D ++ Sp.mks A (B.take k)).length (Pp.flatC (D ++ Sp.mks A (B.take k)))) ∧ Hid (LiesX w.heap.size wr (.slice a3 S.length cap3) S)) (fun _ i _ => B.length - (intOf i).toNat)
      case atStart => exact ⟨0, Nat.zero_le _, rfl, hbel, HO9, HX⟩
      case round =>
        clear hbel HO9 HX
        obtain ⟨k, hk, rfl, hbel, HO, HX⟩ := hrel
        by_cases hlt : k < B.length
        · obtain ⟨b, o, rfl, hb, he⟩ := HB.out k hlt
          obtain ⟨c0, c1, c2, c3⟩ := he.below hb hbel
          have HEN := hid he
          have HR := hid (HR2.out B[k] (List.getElem_mem hlt))
          have HENT := hid (Sp.mkC_good (HGB.out.ents _ (List.getElem_mem hlt)))
          have hXl : (D ++ Sp.mks A (B.take k)).length ≤ 120 := by
            have h1 : (Sp.mks A (B.take k)).length ≤ (B.take k).length := by rw [Sp.mks, List.length_map]; exact List.length_filter_le _ _
            have h2 := List.length_take_le k B
            rw [List.length_append]; omega
          have HHIT : Hid (Sp.newB A B[k] = true → D ++ Sp.mks A (B.take (k + 1)) = (D ++ Sp.mks A (B.take k)) ++ [Sp.mkC B[k]]) := (fun h => by rw [Sp.mks_hit hlt h, List.append_assoc] : Sp.newB A B[k] = true → D ++ Sp.mks A (B.take (k + 1)) = (D ++ Sp.mks A (B.take k)) ++ [Sp.mkC B[k]])
          have HMISS : Hid (Sp.newB A B[k] = false → D ++ Sp.mks A (B.take (k + 1)) = D ++ Sp.mks A (B.take k)) := (fun h => by rw [Sp.mks_miss hlt h] : Sp.newB A B[k] = false → D ++ Sp.mks A (B.take (k + 1)) = D ++ Sp.mks A (B.take k))
          clear he
          generalize B[k] = x at *
          generalize D ++ Sp.mks A (B.take k) = X at *
          go_wp2_with fail
          refine (entryAt_any S _ x.path _ HX.out.lies).mono ?_
          rintro e w2 ⟨rfl, hb2⟩
          have hbel2 := below_trans hbel hb2
          have HO2 := hid (HO.out.kept9 hb2)
          have HX2 := hid (HX.out.below hb2)
          clear hb2 c0 c1 c2 c3
          obtain ⟨c0, c1, c2, c3⟩ := HEN.out.below hb hbel2
          rcases HR.out with ⟨g1, g2⟩ | ⟨j, hj, g1, g2⟩
          · rw [g1]
            have HH := hid (HHIT.out g2)
            clear HHIT HMISS HR g1 g2
            cases hfo : x.folder with
            | true =>
              rw [hfo] at c1
              go_wp2_with fail
              go_quiet (fail)
              generalize hwq : World.drewN w2 _ = wq
              have hbq : Below w2.heap.size w2 wq := hwq ▸ ⟨rfl, rfl, rfl, Nat.le_refl _, fun _ _ => rfl⟩
              clear hwq
              have hbel3 := below_trans hbel2 hbq
              have HO3 := hid (HO2.out.kept9 hbq)
              have HX3 := hid (HX2.out.below hbq)
              clear hbq c0 c1 c2 c3 HO2 HX2
              obtain ⟨c0, c1, c2, c3⟩ := HEN.out.below hb hbel3
              rw [hfo] at c1
              have hblt : b < wq.heap.size := Nat.lt_of_lt_of_le hb hbel3.size
              have hbne : ¬ b = wq.heap.size := by omega
              go_wp2_with fail
              go_region
              go_upto_region 20 with fail
              generalize hwc : World.drew (World.alloc wq _) = wc
              have hbc : Below wq.heap.size wq wc := hwc ▸ ((Below.refl _ _).alloc (Nat.le_refl _) _).drew
              have hszc : wq.heap.size < wc.heap.size := by rw [← hwc]; simp [World.drew]
              have e0 : wc.cell? ⟨wq.heap.size, 0, none⟩ = some (.int .i64 1) := by rw [← hwc]; simp
              have e1 : wc.cell? ⟨wq.heap.size, 1, none⟩ = some (.string x.path) := by rw [← hwc]; simp
              have e2 : wc.cell? ⟨wq.heap.size, 2, none⟩ = some (.string ⟨#[]⟩) := by rw [← hwc]; simp
              have e3 : wc.cell? ⟨wq.heap.size, 3, none⟩ = some (.string x.text) := by rw [← hwc]; simp
              have e4 : wc.cell? ⟨wq.heap.size, 4, none⟩ = some (.int .i64 (-1)) := by rw [← hwc]; simp
              clear hwc c0 c1 c2 c3
              have HMK : Hid (Sp.mkC x = ⟨1, x.path, ⟨#[]⟩, x.text, -1⟩) := (by rw [HENT.out, hfo]; rfl : Sp.mkC x = ⟨1, x.path, ⟨#[]⟩, x.text, -1⟩)
              have hbel4 := below_trans hbel3 hbc
              have hO4 := HO3.out.kept9 hbc
              have HX4 := hid ((HX3.out.below hbc).below ((Below.refl wc.heap.size wc).alloc (Nat.le_refl _) (.cells #[.int .i64 1, .string x.path, .string ⟨#[]⟩, .string x.text, .int .i64 (-1)] 35)))
              have hsz4 := hbel4.size
              go_wp2_with (at_builtin; (refine wpList_append_own _ rfl _ _ 23 rfl w.heap.size 35 i0 (.agg #[.int .i64 0, .string ⟨#[]⟩, .string ⟨#[]⟩, .string ⟨#[]⟩, .int .i64 0]) 5 64 Tryz.underlying23 hi0 hz0 hz1 hz2 rfl (by decide) _ _ _ rfl (hO4.alloc _) ⟨wc.heap.size, 0, none⟩ 1 1 (Pp.cellsC ⟨1, x.path, ⟨#[]⟩, x.text, -1⟩) rfl rfl (new_cellsC wc ⟨1, x.path, ⟨#[]⟩, x.text, -1⟩ _) (Pp.cellsC_one _) (by unfold maxLen; omega) (by omega) (by simp; omega) ?_))
              intro v5 w5 ho5 hgr5 hnn5
              have hbel5 : Below w.heap.size w w5 := (hbel4.alloc hbel4.size _).grown hgr5 (by simp; omega) (fun q hq => (hO4.lt q hq).1)
              have HX5 := hid (HX4.out.grown (hO4.alloc _) hgr5)
              rw [Pp.flatC_snoc] at ho5
              have HO5 : Hid (w5.ownsRow w.heap.size 35 5 v5 (X ++ [Sp.mkC x]).length (Pp.flatC (X ++ [Sp.mkC x]))) := (by rw [HMK.out, List.length_append]; exact ho5 : w5.ownsRow w.heap.size 35 5 v5 (X ++ [Sp.mkC x]).length (Pp.flatC (X ++ [Sp.mkC x])))
              clear ho5 hgr5 hnn5 hO4 e0 e1 e2 e3 e4 HX4 HO3 HX3
              go_wp2_with fail
              go_roundw
              case rel => exact ⟨k + 1, by omega, by simp, hbel5, by rw [HH.out]; exact HO5, HX5⟩
              case measure => simp [intOf]; omega
            | false =>
              rw [hfo] at c1
              go_wp2_with fail
              go_quiet (fail)
              generalize hwq : World.drewN w2 _ = wq
              have hbq : Below w2.heap.size w2 wq := hwq ▸ ⟨rfl, rfl, rfl, Nat.le_refl _, fun _ _ => rfl⟩
              clear hwq
              have hbel3 := below_trans hbel2 hbq
              have HO3 := hid (HO2.out.kept9 hbq)
              have HX3 := hid (HX2.out.below hbq)
              clear hbq c0 c1 c2 c3 HO2 HX2
              obtain ⟨c0, c1, c2, c3⟩ := HEN.out.below hb hbel3
              rw [hfo] at c1
              have hblt : b < wq.heap.size := Nat.lt_of_lt_of_le hb hbel3.size
              have hbne : ¬ b = wq.heap.size := by omega
              go_wp2_with fail
              go_region
              go_upto_region 20 with fail
              generalize hwc : World.drew (World.alloc wq _) = wc
              have hbc : Below wq.heap.size wq wc := hwc ▸ ((Below.refl _ _).alloc (Nat.le_refl _) _).drew
              have hszc : wq.heap.size < wc.heap.size := by rw [← hwc]; simp [World.drew]
              have e0 : wc.cell? ⟨wq.heap.size, 0, none⟩ = some (.int .i64 2) := by rw [← hwc]; simp
              have e1 : wc.cell? ⟨wq.heap.size, 1, none⟩ = some (.string x.path) := by rw [← hwc]; simp
              have e2 : wc.cell? ⟨wq.heap.size, 2, none⟩ = some (.string ⟨#[]⟩) := by rw [← hwc]; simp
              have e3 : wc.cell? ⟨wq.heap.size, 3, none⟩ = some (.string x.text) := by rw [← hwc]; simp
              have e4 : wc.cell? ⟨wq.heap.size, 4, none⟩ = some (.int .i64 (-1)) := by rw [← hwc]; simp
              clear hwc c0 c1 c2 c3
              have HMK : Hid (Sp.mkC x = ⟨2, x.path, ⟨#[]⟩, x.text, -1⟩) := (by rw [HENT.out, hfo]; rfl : Sp.mkC x = ⟨2, x.path, ⟨#[]⟩, x.text, -1⟩)
              have hbel4 := below_trans hbel3 hbc
              have hO4 := HO3.out.kept9 hbc
              have HX4 := hid ((HX3.out.below hbc).below ((Below.refl wc.heap.size wc).alloc (Nat.le_refl _) (.cells #[.int .i64 2, .string x.path, .string ⟨#[]⟩, .string x.text, .int .i64 (-1)] 35)))
              have hsz4 := hbel4.size
              go_wp2_with (at_builtin; (refine wpList_append_own _ rfl _ _ 23 rfl w.heap.size 35 i0 (.agg #[.int .i64 0, .string ⟨#[]⟩, .string ⟨#[]⟩, .string ⟨#[]⟩, .int .i64 0]) 5 64 Tryz.underlying23 hi0 hz0 hz1 hz2 rfl (by decide) _ _ _ rfl (hO4.alloc _) ⟨wc.heap.size, 0, none⟩ 1 1 (Pp.cellsC ⟨2, x.path, ⟨#[]⟩, x.text, -1⟩) rfl rfl (new_cellsC wc ⟨2, x.path, ⟨#[]⟩, x.text, -1⟩ _) (Pp.cellsC_one _) (by unfold maxLen; omega) (by omega) (by simp; omega) ?_))
              intro v5 w5 ho5 hgr5 hnn5
              have hbel5 : Below w.heap.size w w5 := (hbel4.alloc hbel4.size _).grown hgr5 (by simp; omega) (fun q hq => (hO4.lt q hq).1)
              have HX5 := hid (HX4.out.grown (hO4.alloc _) hgr5)
              rw [Pp.flatC_snoc] at ho5
              have HO5 : Hid (w5.ownsRow w.heap.size 35 5 v5 (X ++ [Sp.mkC x]).length (Pp.flatC (X ++ [Sp.mkC x]))) := (by rw [HMK.out, List.length_append]; exact ho5 : w5.ownsRow w.heap.size 35 5 v5 (X ++ [Sp.mkC x]).length (Pp.flatC (X ++ [Sp.mkC x])))
              clear ho5 hgr5 hnn5 hO4 e0 e1 e2 e3 e4 HX4 HO3 HX3
              go_wp2_with fail
              go_roundw
              case rel => exact ⟨k + 1, by omega, by simp, hbel5, by rw [HH.out]; exact HO5, HX5⟩
              case measure => simp [intOf]; omega
          · rw [g1]
            obtain ⟨b3, o3, hab, s0, s1, s2, s3⟩ := HX2.out.at j hj
            subst hab
            have hj0 : ¬ (j : Int) < 0 := by omega
            cases hfo : x.folder with
            | true =>
              have HM := hid (HMISS.out (by rw [g2, hfo]; rfl))
              clear HHIT HMISS HR g1 g2
              rw [hfo] at c1
              generalize S[j] = t at *
              go_wp2_with fail
              go_quiet (fail)
              generalize hwq : World.drewN w2 _ = wq
              have hbq : Below w2.heap.size w2 wq := hwq ▸ ⟨rfl, rfl, rfl, Nat.le_refl _, fun _ _ => rfl⟩
              clear hwq
              have hbel3 := below_trans hbel2 hbq
              have HO3 := hid (HO2.out.kept9 hbq)
              have HX3 := hid (HX2.out.below hbq)
              clear hbq s0 s1 s2 s3 c0 c1 c2 c3 HO2 HX2
              go_wp2_with fail
              go_roundw
              case rel => exact ⟨k + 1, by omega, by simp, hbel3, by rw [HM.out]; exact HO3, HX3⟩
              case measure => simp [intOf]; omega
            | false =>
              cases hte : (S[j].text.toList == x.text.toList) with
              | true =>
                have HM := hid (HMISS.out (by rw [g2, hfo, hte]; rfl))
                clear HHIT HMISS HR g1 g2
                rw [hfo] at c1
                generalize S[j] = t at *
                go_wp2_with fail
                go_quiet (fail)
                generalize hwq : World.drewN w2 _ = wq
                have hbq : Below w2.heap.size w2 wq := hwq ▸ ⟨rfl, rfl, rfl, Nat.le_refl _, fun _ _ => rfl⟩
                clear hwq
                have hbel3 := below_trans hbel2 hbq
                have HO3 := hid (HO2.out.kept9 hbq)
                have HX3 := hid (HX2.out.below hbq)
                clear hbq s0 s1 s2 s3 c0 c1 c2 c3 HO2 HX2
                go_wp2_with fail
                go_roundw
                case rel => exact ⟨k + 1, by omega, by simp, hbel3, by rw [HM.out]; exact HO3, HX3⟩
                case measure => simp [intOf]; omega
              | false =>
                have HH := hid (HHIT.out (by rw [g2, hfo, hte]; rfl))
                clear HHIT HMISS HR g1 g2
                rw [hfo] at c1
                generalize S[j] = t at *
                go_wp2_with fail
                go_quiet (fail)
                generalize hwq : World.drewN w2 _ = wq
                have hbq : Below w2.heap.size w2 wq := hwq ▸ ⟨rfl, rfl, rfl, Nat.le_refl _, fun _ _ => rfl⟩
                clear hwq
                have hbel3 := below_trans hbel2 hbq
                have HO3 := hid (HO2.out.kept9 hbq)
                have HX3 := hid (HX2.out.below hbq)
                clear hbq s0 s1 s2 s3 c0 c1 c2 c3 HO2 HX2
                obtain ⟨c0, c1, c2, c3⟩ := HEN.out.below hb hbel3
                rw [hfo] at c1
                have hblt : b < wq.heap.size := Nat.lt_of_lt_of_le hb hbel3.size
                have hbne : ¬ b = wq.heap.size := by omega
                go_wp2_with fail
                go_region
                go_upto_region 20 with fail
                generalize hwc : World.drew (World.alloc wq _) = wc
                have hbc : Below wq.heap.size wq wc := hwc ▸ ((Below.refl _ _).alloc (Nat.le_refl _) _).drew
                have hszc : wq.heap.size < wc.heap.size := by rw [← hwc]; simp [World.drew]
                have e0 : wc.cell? ⟨wq.heap.size, 0, none⟩ = some (.int .i64 2) := by rw [← hwc]; simp
                have e1 : wc.cell? ⟨wq.heap.size, 1, none⟩ = some (.string x.path) := by rw [← hwc]; simp
                have e2 : wc.cell? ⟨wq.heap.size, 2, none⟩ = some (.string ⟨#[]⟩) := by rw [← hwc]; simp
                have e3 : wc.cell? ⟨wq.heap.size, 3, none⟩ = some (.string x.text) := by rw [← hwc]; simp
                have e4 : wc.cell? ⟨wq.heap.size, 4, none⟩ = some (.int .i64 (-1)) := by rw [← hwc]; simp
                clear hwc c0 c1 c2 c3
                have HMK : Hid (Sp.mkC x = ⟨2, x.path, ⟨#[]⟩, x.text, -1⟩) := (by rw [HENT.out, hfo]; rfl : Sp.mkC x = ⟨2, x.path, ⟨#[]⟩, x.text, -1⟩)
                have hbel4 := below_trans hbel3 hbc
                have hO4 := HO3.out.kept9 hbc
                have HX4 := hid ((HX3.out.below hbc).below ((Below.refl wc.heap.size wc).alloc (Nat.le_refl _) (.cells #[.int .i64 2, .string x.path, .string ⟨#[]⟩, .string x.text, .int .i64 (-1)] 35)))
                have hsz4 := hbel4.size
                go_wp2_with (at_builtin; (refine wpList_append_own _ rfl _ _ 23 rfl w.heap.size 35 i0 (.agg #[.int .i64 0, .string ⟨#[]⟩, .string ⟨#[]⟩, .string ⟨#[]⟩, .int .i64 0]) 5 64 Tryz.underlying23 hi0 hz0 hz1 hz2 rfl (by decide) _ _ _ rfl (hO4.alloc _) ⟨wc.heap.size, 0, none⟩ 1 1 (Pp.cellsC ⟨2, x.path, ⟨#[]⟩, x.text, -1⟩) rfl rfl (new_cellsC wc ⟨2, x.path, ⟨#[]⟩, x.text, -1⟩ _) (Pp.cellsC_one _) (by unfold maxLen; omega) (by omega) (by simp; omega) ?_))
                intro v5 w5 ho5 hgr5 hnn5
                have hbel5 : Below w.heap.size w w5 := (hbel4.alloc hbel4.size _).grown hgr5 (by simp; omega) (fun q hq => (hO4.lt q hq).1)
                have HX5 := hid (HX4.out.grown (hO4.alloc _) hgr5)
                rw [Pp.flatC_snoc] at ho5
                have HO5 : Hid (w5.ownsRow w.heap.size 35 5 v5 (X ++ [Sp.mkC x]).length (Pp.flatC (X ++ [Sp.mkC x]))) := (by rw [HMK.out, List.length_append]; exact ho5 : w5.ownsRow w.heap.size 35 5 v5 (X ++ [Sp.mkC x]).length (Pp.flatC (X ++ [Sp.mkC x])))
                clear ho5 hgr5 hnn5 hO4 e0 e1 e2 e3 e4 HX4 HO3 HX3
                go_wp2_with fail
                go_roundw
                case rel => exact ⟨k + 1, by omega, by simp, hbel5, by rw [HH.out]; exact HO5, HX5⟩
                case measure => simp [intOf]; omega
        · obtain rfl : k = B.length := by omega
          have HOE : Hid (wr.ownsRow w.heap.size 35 5 u5 (Sp.dels A B ++ Sp.mks A B).length (Pp.flatC (Sp.dels A B ++ Sp.mks A B))) := (by
            have h := HO.out
            rw [List.take_length, HDD.out] at h
            exact h : wr.ownsRow w.heap.size 35 5 u5 (Sp.dels A B ++ Sp.mks A B).length (Pp.flatC (Sp.dels A B ++ Sp.mks A B)))
          go_wp2_with fail
          go_ret
          exact ⟨_, rfl, HOE.out, hbel⟩
end Go.Proofs.YtflekhcmipmelaaGreatDoor
