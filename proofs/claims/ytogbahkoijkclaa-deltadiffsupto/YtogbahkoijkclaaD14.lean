/- What the reference's ChangeOf answers, of a delete of something that is there, whatever its version. -/
import Derived.Test.YtogbahkoijkclaaT5a
import Derived.Test.YtogbahkoijkclaaT26
import Derived.Test.YtogbahkoijkclaaT12
import Derived.Test.YtogbahkoijkclaaW12
import Derived.Test.YtogbahkoijkclaaD8
import Derived.Deep.RegionHeld3
import Derived.Deep.RegionLaw
import Derived.Deep.DeepCutAuto
import Derived.WalkKit
set_option linter.unusedSimpArgs false
set_option linter.unusedVariables false
namespace Go.Proofs.Ytogbahkoijkclaa
open Go.RowKit

theorem Pp.chg_del {p : ByteArray} (h : Pp.chk p.data.toList = 0) : Pp.chgE ⟨4, p, ⟨#[]⟩, ⟨#[]⟩, -1⟩ = 0 := by
  rw [Pp.chgE, if_neg (show ¬ ((4 : Int) < 1 ∨ 4 < (4 : Int)) by decide), if_neg (fun x => x h), if_neg (fun x => absurd (show (4 : Int) = 3 from x.1) (by decide)), if_neg (by simp), if_neg (show ¬ 300 < (⟨#[]⟩ : ByteArray).size by decide), if_neg (show ¬ ((-1 : Int) < -1 ∨ 1000000 < (-1 : Int)) by decide)]
theorem Pp.idx_some {L : List En} {q : List UInt8} {x : En} (h : L.find? (Pp.atB q) = some x) : ∃ k, ∃ h : k < L.length, Pp.idx L q = (k : Int) ∧ L[k] = x := by
  rcases Pp.idx_cases L q with ⟨_, h2⟩ | ⟨k, hk, h1, h2⟩
  · rw [h] at h2; cases h2
  · rw [h] at h2; exact ⟨k, hk, h1, (Option.some.inj h2).symm⟩

set_option maxRecDepth 100000 in
set_option maxHeartbeats 4000000 in
theorem changeOf_gone (L : List En) (v : Value) (p : ByteArray) (w : World) (hv : Lies w v L) (hp : p.size ≤ 1000000000) (hL : Pp.Good L) {x : En} (hx : x ∈ L) (hxp : x.path.data.toList = p.data.toList) :
    Calls Try.prog 18 #[v, .agg #[.int .i64 4, .string p, .string ⟨#[]⟩, .string ⟨#[]⟩, .int .i64 (-1)], .int .i64 1] w fun e w' => ∃ u, e = .returned (.tuple #[u, .int .i64 0]) ∧ w'.ownsRow w.heap.size 36 4 u (L.filter (fun e => !Pp.wi p.data.toList e)).length (Pp.flat (L.filter (fun e => !Pp.wi p.data.toList e))) ∧ Below w.heap.size w w' := by
  obtain ⟨i0, hi0, hz0, hz1, hz2⟩ := info_parts Try.infoE
  have HV := hid hv
  have HS : Hid (∀ e ∈ L, e.path.size ≤ 1000000000) := (fun e he => by
    have := Pp.chk_len (Pp.entE_path (hL.ents e he))
    rw [Lib.size_eq]; omega : ∀ e ∈ L, e.path.size ≤ 1000000000)
  have HC : Hid (Pp.chgE ⟨4, p, ⟨#[]⟩, ⟨#[]⟩, -1⟩ = 0) := (Pp.chg_del (hxp ▸ Pp.entE_path (hL.ents x hx)) : Pp.chgE ⟨4, p, ⟨#[]⟩, ⟨#[]⟩, -1⟩ = 0)
  have H0 : Hid (Pp.foldE L (Pp.par p.data.toList) = 0) := (by rw [← hxp]; exact hL.pars x hx : Pp.foldE L (Pp.par p.data.toList) = 0)
  obtain ⟨j, hj, hi, _⟩ := Pp.idx_some (Pp.sorted_find hL.rise hx)
  rw [hxp] at hi
  have HI := hid hi
  have hlen : L.length ≤ 60 := hL.len
  have hjj : (j : Int) < L.length := by omega
  obtain ⟨a, cap, rfl, hcap, hcap2, hLL⟩ := hv
  have HL : Hid (∀ i (h : i < L.length), ∃ b o, a = some ⟨b, o, none⟩ ∧ b < w.heap.size ∧ EnAt w b (o + i * 4) L[i]) := hLL
  clear hLL hL hi hx hxp
  go_enter Try.func18, Try.ntmps18
  go_wp2_with fail
  refine (changeForm_any _ p _ _ _ _ hp (by decide) (by decide)).mono ?_
  rintro e w1 ⟨rfl, hb1⟩
  rw [HC.out]
  obtain ⟨c0, c1, c2, c3, c4, hbw, hlt⟩ := bx5 hb1
  go_wp2_with fail
  refine (parentOf_any p _ hp).mono ?_
  rintro e w2 ⟨rfl, hb2⟩
  have hb02 := hb1.trans (hb2.mono hb1.size)
  clear c0 c1 c2 c3 c4 hbw hlt hb1 hb2
  obtain ⟨c0, c1, c2, c3, c4, hbw, hlt⟩ := bx5 hb02
  go_wp2_with fail
  refine (isFolder_any L _ ⟨(Pp.par p.data.toList).toArray⟩ _ (HV.out.below hbw)).mono ?_
  rintro e w3 ⟨rfl, hb3⟩
  rw [show Pp.foldE L _ = 0 from H0.out]
  have hb03 := hb02.trans (hb3.mono hb02.size)
  clear c0 c1 c2 c3 c4 hbw hlt hb02 hb3
  obtain ⟨c0, c1, c2, c3, c4, hbw, hlt⟩ := bx5 hb03
  go_wp2_with fail
  refine (entryAt_any L _ p _ (HV.out.below hbw)).mono ?_
  rintro e w4 ⟨rfl, hb4⟩
  rw [HI.out]
  have hb04 := hb03.trans (hb4.mono hb03.size)
  clear c0 c1 c2 c3 c4 hbw hlt hb03 hb4
  obtain ⟨c0, c1, c2, c3, c4, hbw, hlt⟩ := bx5 hb04
  have HB := hid hb04
  have hpos : 0 < (L.length : Int) := by omega
  go_wp2_with fail
  clear c0 c1 c2 c3 c4 hbw hlt
  go_loopw [11] (fun i wr => i = .int .i64 0 ∧ wr = w4) (fun i _ => 0)
  case atStart => exact ⟨rfl, rfl⟩
  case round =>
    obtain ⟨rfl, rfl⟩ := hrel
    obtain ⟨c0, c1, c2, c3, c4, hbw, hlt⟩ := bx5 HB.out
    go_wp2_with fail
    have HBR := hid HB.out
    have HBW := hid hbw
    have hltr := hlt
    have hbr0 := hbw.size
    clear c0 c1 c2 c3 c4 hlt hbw HB
    obtain ⟨wf, hwf⟩ : ∃ wf, wf = wr := ⟨_, rfl⟩
    rw [← hwf]
    rw [← hwf] at HBR HBW hltr hbr0
    clear hwf
    go_loopw [12, 13] (fun o i wr => ∃ x : Nat, x ≤ L.length ∧ i = .int .i64 x ∧ wr.ownsRow wf.heap.size 36 4 o ((L.take x).filter (fun e => !Pp.wi p.data.toList e)).length (Pp.flat ((L.take x).filter (fun e => !Pp.wi p.data.toList e))) ∧ Below wf.heap.size wf wr) (fun _ i _ => L.length - (intOf i).toNat)
    case atStart => exact ⟨0, Nat.zero_le _, rfl, World.ownsRow_nil _ _ _ _, Below.refl _ _⟩
    case round =>
      obtain ⟨x, hx, rfl, hown, hbel⟩ := hrel
      have hbx := HBR.out.trans (hbel.mono HBR.out.size)
      obtain ⟨c0, c1, c2, c3, c4, hbw, hlt⟩ := bx5 hbx
      by_cases hlx : x < L.length
      · obtain ⟨b1, o1, hab, hb1, he⟩ := HL.out x hlx
        subst hab
        obtain ⟨d0, d1, d2, d3⟩ := he.below hb1 hbw
        have hbr : b1 < wr.heap.size := Nat.lt_of_lt_of_le hb1 hbw.size
        have hfl : ((L.take x).filter (fun e => !Pp.wi p.data.toList e)).length ≤ 60 := Nat.le_trans (List.length_filter_le _ _) (by rw [List.length_take]; omega)
        go_wp2_with fail
        go_region_held3 (fun W => W.cell? ⟨b1, o1 + x * 4, none⟩ = some (.string L[x].path) ∧ W.cell? ⟨w.heap.size, 1, none⟩ = some (.string p)) (go_keep) (first
          | (go_at_call 32; refine (isIn_any L[x].path p _ (HS.out _ (List.getElem_mem hlx)) hp).mono ?_; rintro e wa ⟨rfl, hba⟩; have k1 : wa.cell? ⟨b1, o1 + x * 4, none⟩ = some (.string L[x].path) := (hba.cell (p := ⟨b1, o1 + x * 4, none⟩) hbr).trans d0; have k2 : wa.cell? ⟨w.heap.size, 1, none⟩ = some (.string p) := (hba.cell (p := ⟨w.heap.size, 1, none⟩) hlt).trans c1))
        have hownA := hown.drew.kept9 hba
        have hbelA : Below wf.heap.size wf wa := hbel.drew.trans (hba.mono hbel.drew.size)
        have hbwA : Below w.heap.size w wa := hbw.drew.trans (hba.mono hbw.drew.size)
        clear c0 c1 c2 c3 c4 hbx hown hbel hbw d0 d1 d2 d3 hlt hbr
        cases hin : Pp.wi p.data.toList L[x] with
        | true =>
          have hin2 : Pp.isInB (L[x]).path.data.toList p.data.toList = true := hin
          have HST : Hid ((L.take (x + 1)).filter (fun e => !Pp.wi p.data.toList e) = (L.take x).filter (fun e => !Pp.wi p.data.toList e)) := (Pp.filter_miss hlx (by simp [hin]) : (L.take (x + 1)).filter (fun e => !Pp.wi p.data.toList e) = (L.take x).filter (fun e => !Pp.wi p.data.toList e))
          have HO := hid hownA
          clear hin hownA k1 k2 hba
          rw [hin2]
          clear hin2
          go_wp2_with fail
          go_roundw
          case rel => exact ⟨x + 1, by omega, by simp, by rw [HST.out]; exact HO.out, hbelA⟩
          case measure => simp [intOf]; omega
        | false =>
          have hin2 : Pp.isInB (L[x]).path.data.toList p.data.toList = false := hin
          have HST : Hid ((L.take (x + 1)).filter (fun e => !Pp.wi p.data.toList e) = (L.take x).filter (fun e => !Pp.wi p.data.toList e) ++ [L[x]]) := (Pp.filter_hit hlx (by simp [hin]) : (L.take (x + 1)).filter (fun e => !Pp.wi p.data.toList e) = (L.take x).filter (fun e => !Pp.wi p.data.toList e) ++ [L[x]])
          obtain ⟨d0, d1, d2, d3⟩ := he.below hb1 hbwA
          generalize (L.take x).filter (fun e => !Pp.wi p.data.toList e) = X at *
          clear hin k1 k2 hba
          rw [hin2]
          clear hin2
          go_wp2_with (at_builtin; refine wpList_append_own _ rfl _ _ 22 rfl wf.heap.size 36 i0 (.agg #[.string ⟨#[]⟩, .bool false, .string ⟨#[]⟩, .int .i64 0]) 4 48 Try.underlying22 hi0 hz0 hz1 hz2 rfl (by decide) _ _ _ rfl (hownA.alloc _) ⟨wa.heap.size, 0, none⟩ 1 1 (Pp.cells L[x]) rfl rfl (Pp.new_cells wa L[x] _) (Pp.cells_one _) (by unfold maxLen; omega) (by omega) (by have := hbelA.size; simp at this ⊢; omega) ?_)
          intro v2 w2 ho2 hgr2 hnn2
          have hbel2 : Below wf.heap.size wf w2 := (hbelA.alloc hbelA.size _).grown hgr2 (by have := hbelA.size; simp at this ⊢; omega) (fun g hg => by have := (hownA.lt g hg).1; simp; omega)
          rw [Pp.flat_snoc] at ho2
          have hown2 : w2.ownsRow wf.heap.size 36 4 v2 (X ++ [L[x]]).length (Pp.flat (X ++ [L[x]])) := by rw [List.length_append]; exact ho2
          have HO := hid hown2
          clear ho2 hgr2 hnn2 hown2 hownA hbelA hbwA d0 d1 d2 d3 he
          go_wp2_with fail
          go_roundw
          case rel => exact ⟨x + 1, by omega, by simp, by rw [HST.out]; exact HO.out, hbel2⟩
          case measure => simp [intOf]; omega
      · have eL : L.take x = L := List.take_of_length_le (by omega)
        rw [eL] at hown
        have HO := hid hown
        clear eL hown
        go_wp2_with fail
        go_loopw [12, 14] (fun o i wr => i = .int .i64 0 ∧ wr.ownsRow wf.heap.size 36 4 o (L.filter (fun e => !Pp.wi p.data.toList e)).length (Pp.flat (L.filter (fun e => !Pp.wi p.data.toList e))) ∧ Below wf.heap.size wf wr) (fun _ _ _ => 0)
        case atStart => exact ⟨rfl, HO.out, hbel⟩
        case round =>
          obtain ⟨rfl, hown, hbel⟩ := hrel
          have hbx := HBR.out.trans (hbel.mono HBR.out.size)
          clear c0 c1 c2 c3 c4 hbw hlt
          obtain ⟨c0, c1, c2, c3, c4, hbw, hlt⟩ := bx5 hbx
          have hK : (L.filter (fun e => !Pp.wi p.data.toList e)).length ≤ L.length := List.length_filter_le _ _
          obtain ⟨M, hM⟩ : ∃ M, M = L.filter (fun e => !Pp.wi p.data.toList e) := ⟨_, rfl⟩
          rw [← hM] at hown hK
          have HM := hid hM
          clear hM
          have HLI := hid (lies_row hown (by omega))
          have HOW := hid (ownsRow_low hown hbr0)
          have h60 : ¬ 60 < (M.length : Int) := by omega
          obtain ⟨a6, cap6, rfl, hc6, hc6', _⟩ := HLI.out
          clear hown hK hbel hbx
          go_wp2_with fail
          go_ret2
          exact ⟨_, rfl, by rw [← HM.out]; exact HOW.out, hbw⟩
end Go.Proofs.Ytogbahkoijkclaa
