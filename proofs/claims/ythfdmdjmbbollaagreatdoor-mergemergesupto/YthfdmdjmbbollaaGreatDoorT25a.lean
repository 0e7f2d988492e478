/- What the reference's PutEntry answers: the tree with an entry in its place. -/
import Derived.Test.YthfdmdjmbbollaaGreatDoorPE
import Derived.Test.YthfdmdjmbbollaaGreatDoorMA
set_option linter.unusedSimpArgs false
set_option linter.unusedVariables false
namespace Go.Proofs.YthfdmdjmbbollaaGreatDoor
open Go.RowKit

namespace Pp
def stp (x : En) (s : List En × Bool) (y : En) : List En × Bool :=
  (if y.path.data.toList = x.path.data.toList then (if s.2 = false ∧ lt y x = false then s.1 ++ [x] else s.1) else (if s.2 = false ∧ lt y x = false then s.1 ++ [x] else s.1) ++ [y], s.2 || !(lt y x))
def putS (x : En) (L : List En) : List En × Bool := L.foldl (stp x) ([], false)
def putR (x : En) (L : List En) : List En := if (putS x L).2 = true then (putS x L).1 else (putS x L).1 ++ [x]
theorem putS_snoc (x : En) (A : List En) (y : En) : putS x (A ++ [y]) = stp x (putS x A) y := by rw [putS, List.foldl_append]; rfl
theorem ins_pre {x : En} : ∀ {A : List En}, (∀ y ∈ A, lt y x = true) → ∀ B, ins x (A ++ B) = A ++ ins x B
  | [], _, _ => rfl
  | y :: r, h, B => by
    rw [List.cons_append, ins, if_pos (h y (by simp)), ins_pre (fun z hz => h z (by simp [hz]))]; rfl
theorem ins_snoc {x y : En} (h : lt y x = false) : ∀ K, ins x (K ++ [y]) = ins x K ++ [y]
  | [] => by simp [ins, h]
  | z :: r => by
    rw [List.cons_append, ins, ins]
    split
    · rw [ins_snoc h r]; rfl
    · rfl
theorem at_yes {x y : En} (h : y.path.data.toList = x.path.data.toList) : atB x.path.data.toList y = true := by rw [atB, h]; exact beq_self_eq_true _
theorem at_no {x y : En} (h : ¬ y.path.data.toList = x.path.data.toList) : atB x.path.data.toList y = false := by rw [atB]; exact beq_eq_false_iff_ne.2 h
theorem out_one {x y : En} (h : y.path.data.toList = x.path.data.toList) : outE x [y] = [] := by rw [outE, List.filter_cons, at_yes h]; rfl
theorem out_other {x y : En} (h : ¬ y.path.data.toList = x.path.data.toList) : outE x [y] = [y] := by rw [outE, List.filter_cons, at_no h]; rfl
theorem out_all {x : En} {A : List En} (h : ∀ y ∈ A, lt y x = true) : outE x A = A := by
  rw [outE, List.filter_eq_self]
  intro y hy
  rw [at_no (lt_dif (h y hy))]; rfl
theorem out_app (x : En) (A B : List En) : outE x (A ++ B) = outE x A ++ outE x B := by rw [outE, List.filter_append]; rfl
theorem lt_path {x x' y : En} (h : x.path.data.toList = x'.path.data.toList) : lt y x = lt y x' := by
  rw [lt_cfE, lt_cfE]; unfold cfE; rw [h]
theorem putS_take {x : En} {L : List En} (hL : L.Pairwise (fun x y => lt x y = true)) : ∀ k, k ≤ L.length → putS x (L.take k) = if (L.take k).all (fun y => lt y x) = true then (L.take k, false) else (ins x (outE x (L.take k)), true) := by
  intro k
  induction k with
  | zero => intro _; simp [putS]
  | succ k ih =>
    intro hk
    have hlt : k < L.length := by omega
    have ih := ih (by omega)
    have hpre : ∀ z ∈ L.take k, lt z L[k] = true := fun z hz => by
      obtain ⟨i, hi, rfl⟩ := List.getElem_of_mem hz
      rw [List.length_take] at hi
      rw [List.getElem_take]
      exact List.pairwise_iff_getElem.1 hL i k (by omega) hlt (by omega)
    rw [List.take_succ_eq_append_getElem hlt, putS_snoc, ih]
    generalize L[k] = y at *
    generalize L.take k = A at *
    cases hall : A.all (fun y => lt y x) with
    | true =>
      have hA : ∀ z ∈ A, lt z x = true := fun z hz => List.all_eq_true.1 hall z hz
      cases hy : lt y x with
      | true =>
        have hd := lt_dif hy
        have e1 : (A ++ [y]).all (fun y => lt y x) = true := by rw [List.all_append, hall]; simp [hy]
        rw [if_pos rfl, if_pos e1, stp]
        simp only [hy, if_neg (show ¬ y.path.data.toList = x.path.data.toList from hd)]
        simp
      | false =>
        have e1 : (A ++ [y]).all (fun y => lt y x) = false := by rw [List.all_append, hall]; simp [hy]
        rw [if_pos rfl, if_neg (by rw [e1]; decide), stp, out_app, out_all hA, ins_pre hA]
        by_cases hp : y.path.data.toList = x.path.data.toList
        · have e2 := out_one hp
          rw [e2]; simp only [hp, hy, ins, if_true, if_false, and_self, Bool.false_eq_true, Bool.not_false, Bool.or_true, List.append_assoc, List.cons_append, List.nil_append]
        · have e2 := out_other hp
          rw [e2]; simp only [hp, hy, ins, if_true, if_false, and_self, Bool.false_eq_true, Bool.not_false, Bool.or_true, List.append_assoc, List.cons_append, List.nil_append]
    | false =>
      obtain ⟨z, hz, hzx⟩ : ∃ z ∈ A, lt z x = false := by
        have := List.all_eq_false.1 hall
        simpa using this
      have hzy := hpre z hz
      have hy : lt y x = false := by
        cases hh : lt y x with
        | false => rfl
        | true => rw [lt_trans z y x hzy hh] at hzx; cases hzx
      have hp : ¬ y.path.data.toList = x.path.data.toList := fun e => by
        rw [lt_path e, hzx] at hzy; cases hzy
      have e1 : (A ++ [y]).all (fun y => lt y x) = false := by rw [List.all_append, hall]; rfl
      have e2 := out_other hp
      rw [if_neg (by decide), if_neg (by rw [e1]; decide), stp, out_app, e2, ins_snoc hy]
      simp only [hp, if_false, Bool.true_eq_false, false_and, Bool.true_or]
theorem putR_eq {x : En} {L : List En} (hL : L.Pairwise (fun x y => lt x y = true)) : putR x L = ins x (outE x L) := by
  have h := putS_take (x := x) hL L.length (Nat.le_refl _)
  rw [List.take_length] at h
  rw [putR, h]
  cases hall : L.all (fun y => lt y x) with
  | true =>
    have hA : ∀ z ∈ L, lt z x = true := fun z hz => List.all_eq_true.1 hall z hz
    have e := ins_pre hA []
    rw [List.append_nil] at e
    rw [out_all hA, e]; simp [ins]
  | false => simp
end Pp

set_option maxRecDepth 100000 in
set_option maxHeartbeats 2000000 in
theorem putEntry_any (L : List En) (v : Value) (x : En) (w : World) (hv : Lies w v L) (hn : L.length ≤ 1000000) :
    Calls Tryz.prog 27 #[v, .agg #[.string x.path, .bool x.folder, .string x.text, .int .i64 x.ver]] w fun e w' => ∃ u, e = .returned u ∧ w'.ownsRow w.heap.size 49 4 u (Pp.putR x L).length (Pp.flat (Pp.putR x L)) ∧ Below w.heap.size w w' := by
  obtain ⟨i0, hi0, hz0, hz1, hz2⟩ := info_parts Tryz.infoE
  obtain ⟨a, cap, rfl, hcap, hcap2, hL⟩ := hv
  have HL : Hid (∀ i (h : i < L.length), ∃ b o, a = some ⟨b, o, none⟩ ∧ b < w.heap.size ∧ EnAt w b (o + i * 4) L[i]) := hL
  clear hL
  go_enter Tryz.func27, Tryz.ntmps27
  go_wp2_with fail
  have HX : Hid (∀ k, ∀ h : k < L.length, Pp.putS x (L.take (k + 1)) = Pp.stp x (Pp.putS x (L.take k)) L[k]) := (fun k h => by rw [List.take_succ_eq_append_getElem h, Pp.putS_snoc] : ∀ k, ∀ h : k < L.length, Pp.putS x (L.take (k + 1)) = Pp.stp x (Pp.putS x (L.take k)) L[k])
  go_loopw [5, 6, 7] (fun o pt i wr => ∃ k : Nat, k ≤ L.length ∧ i = .int .i64 k ∧ pt = .bool (Pp.putS x (L.take k)).2 ∧ (Pp.putS x (L.take k)).1.length ≤ 2 * k ∧ wr.ownsRow (w.heap.size + 1) 49 4 o (Pp.putS x (L.take k)).1.length (Pp.flat (Pp.putS x (L.take k)).1) ∧ Below (w.alloc (.cells #[.string x.path, .bool x.folder, .string x.text, .int .i64 x.ver] 49)).heap.size (w.alloc (.cells #[.string x.path, .bool x.folder, .string x.text, .int .i64 x.ver] 49)) wr) (fun _ _ i _ => L.length - (intOf i).toNat)
  case atStart => exact ⟨0, Nat.zero_le _, rfl, rfl, by simp [Pp.putS], World.ownsRow_nil _ _ _ _, Below.refl _ _⟩
  case round =>
    obtain ⟨k, hk, rfl, rfl, hle, hown, hbel⟩ := hrel
    obtain ⟨r0, r1, r2, r3, hbw, hlt0⟩ := box4 hbel
    by_cases hlt : k < L.length
    · obtain ⟨b, o, rfl, hb, he⟩ := HL.out k hlt
      obtain ⟨c0, c1, c2, c3⟩ := he.below hb hbw
      have hstp := HX.out k hlt
      generalize Pp.putS x (L.take k) = S at *
      obtain ⟨X, pb⟩ := S
      simp only at hle hown
      have hownD := hown.drew.drew
      have hbelD := hbel.drew.drew
      have hownE := hown.drew
      have hbelE := hbel.drew
      cases pb with
      | true =>
        cases hp : (L[k].path.toList == x.path.toList) with
        | true =>
          have hp2 : L[k].path.data.toList = x.path.data.toList := by rw [Lib.toList_data, Lib.toList_data] at hp; simpa using hp
          have HST : Hid (Pp.putS x (L.take (k + 1)) = (X, true)) := (by rw [hstp, Pp.stp]; simp only [hp2, if_true, Bool.true_eq_false, false_and, if_false, Bool.true_or] : Pp.putS x (L.take (k + 1)) = (X, true))
          clear hstp hp2
          go_wp2_with fail
          go_region
          go_wp2_with fail
          go_region
          go_wp2_with fail
          go_roundw
          case rel => exact ⟨k + 1, by omega, by simp, by rw [HST.out], by rw [HST.out]; simp only; omega, by rw [HST.out]; exact hownD, hbelD⟩
          case measure => simp [intOf]; omega
        | false =>
          have hp2 : ¬ L[k].path.data.toList = x.path.data.toList := by rw [Lib.toList_data, Lib.toList_data] at hp; simpa using hp
          have HST : Hid (Pp.putS x (L.take (k + 1)) = (X ++ [L[k]], true)) := (by rw [hstp, Pp.stp]; simp only [hp2, if_false, Bool.true_eq_false, false_and, Bool.true_or] : Pp.putS x (L.take (k + 1)) = (X ++ [L[k]], true))
          clear hstp hp2
          go_wp2_with fail
          go_region
          go_wp2_with fail
          go_region
          go_wp2_with (at_builtin; refine wpList_append_own _ rfl _ _ 22 rfl (w.heap.size + 1) 49 i0 (.agg #[.string ⟨#[]⟩, .bool false, .string ⟨#[]⟩, .int .i64 0]) 4 48 Tryz.underlying22 hi0 hz0 hz1 hz2 rfl (by decide) _ _ _ rfl (hownD.alloc _) ⟨wr.heap.size, 0, none⟩ 1 1 (Pp.cells L[k]) rfl rfl (Pp.new_cells wr.drew.drew L[k] _) (Pp.cells_one _) (by unfold maxLen; omega) (by omega) (by have := hbelD.size; simp at this ⊢; omega) ?_)
          intro v2 w2 ho2 hgr2 hnn2
          have hbel2 : Below (w.alloc (.cells #[.string x.path, .bool x.folder, .string x.text, .int .i64 x.ver] 49)).heap.size (w.alloc (.cells #[.string x.path, .bool x.folder, .string x.text, .int .i64 x.ver] 49)) w2 := (hbelD.alloc hbelD.size _).grown hgr2 (by have := hbelD.size; simp at this ⊢; omega) (fun g hg => by have := (hownD.lt g hg).1; simp; omega)
          rw [Pp.flat_snoc] at ho2
          have hown2 : w2.ownsRow (w.heap.size + 1) 49 4 v2 (X ++ [L[k]]).length (Pp.flat (X ++ [L[k]])) := by rw [List.length_append]; exact ho2
          clear ho2 hgr2 hnn2
          have HO := hid hown2
          clear hown2 hown hbel hownD hbelD hownE hbelE c0 c1 c2 c3 r0 r1 r2 r3 he
          go_wp2_with fail
          go_roundw
          case rel => exact ⟨k + 1, by omega, by simp, by rw [HST.out], by rw [HST.out, List.length_append]; simp only [List.length_singleton]; omega, by rw [HST.out]; exact HO.out, hbel2⟩
          case measure => simp [intOf]; omega
      | false =>
        cases hl : Pp.lt L[k] x with
        | true =>
          have hl1 : Op.bytesLess L[k].path.toList x.path.toList = true := hl
          have hl2 : Op.bytesLess x.path.toList L[k].path.toList = false := by
            cases hh : Op.bytesLess x.path.toList L[k].path.toList with
            | false => rfl
            | true => have := Pp.lt_trans L[k] x L[k] hl hh; rw [Pp.lt_irrefl] at this; cases this
          have hp2 : ¬ L[k].path.data.toList = x.path.data.toList := Pp.lt_dif hl
          have hp : (L[k].path.toList == x.path.toList) = false := by rw [Lib.toList_data, Lib.toList_data]; exact beq_eq_false_iff_ne.2 hp2
          have HST : Hid (Pp.putS x (L.take (k + 1)) = (X ++ [L[k]], false)) := (by rw [hstp, Pp.stp, hl]; simp only [hp2, if_false, Bool.true_eq_false, and_false, Bool.not_true, Bool.or_false] : Pp.putS x (L.take (k + 1)) = (X ++ [L[k]], false))
          clear hstp hp2 hl
          go_wp2_with fail
          go_region
          go_wp2_with fail
          go_region
          go_wp2_with (at_builtin; refine wpList_append_own _ rfl _ _ 22 rfl (w.heap.size + 1) 49 i0 (.agg #[.string ⟨#[]⟩, .bool false, .string ⟨#[]⟩, .int .i64 0]) 4 48 Tryz.underlying22 hi0 hz0 hz1 hz2 rfl (by decide) _ _ _ rfl (hownD.alloc _) ⟨wr.heap.size, 0, none⟩ 1 1 (Pp.cells L[k]) rfl rfl (Pp.new_cells wr.drew.drew L[k] _) (Pp.cells_one _) (by unfold maxLen; omega) (by omega) (by have := hbelD.size; simp at this ⊢; omega) ?_)
          intro v2 w2 ho2 hgr2 hnn2
          have hbel2 : Below (w.alloc (.cells #[.string x.path, .bool x.folder, .string x.text, .int .i64 x.ver] 49)).heap.size (w.alloc (.cells #[.string x.path, .bool x.folder, .string x.text, .int .i64 x.ver] 49)) w2 := (hbelD.alloc hbelD.size _).grown hgr2 (by have := hbelD.size; simp at this ⊢; omega) (fun g hg => by have := (hownD.lt g hg).1; simp; omega)
          rw [Pp.flat_snoc] at ho2
          have hown2 : w2.ownsRow (w.heap.size + 1) 49 4 v2 (X ++ [L[k]]).length (Pp.flat (X ++ [L[k]])) := by rw [List.length_append]; exact ho2
          clear ho2 hgr2 hnn2
          have HO := hid hown2
          clear hown2 hown hbel hownD hbelD hownE hbelE c0 c1 c2 c3 r0 r1 r2 r3 he
          go_wp2_with fail
          go_roundw
          case rel => exact ⟨k + 1, by omega, by simp, by rw [HST.out], by rw [HST.out, List.length_append]; simp only [List.length_singleton]; omega, by rw [HST.out]; exact HO.out, hbel2⟩
          case measure => simp [intOf]; omega
        | false =>
          have hl1 : Op.bytesLess L[k].path.toList x.path.toList = false := hl
          cases hp : (L[k].path.toList == x.path.toList) with
          | true =>
            have hp2 : L[k].path.data.toList = x.path.data.toList := by rw [Lib.toList_data, Lib.toList_data] at hp; simpa using hp
            have hl2 : Op.bytesLess x.path.toList L[k].path.toList = false := by
              have := Pp.lt_irrefl x
              rw [← Pp.lt_path (x := L[k]) (x' := x) (y := x) hp2] at this
              exact this
            have HST : Hid (Pp.putS x (L.take (k + 1)) = (X ++ [x], true)) := (by rw [hstp, Pp.stp, hl]; simp only [hp2, if_true, and_self, Bool.not_false, Bool.or_true] : Pp.putS x (L.take (k + 1)) = (X ++ [x], true))
            clear hstp hp2 hl
            go_wp2_with fail
            go_region
            go_wp2_with (at_builtin; refine wpList_append_own _ rfl _ _ 22 rfl (w.heap.size + 1) 49 i0 (.agg #[.string ⟨#[]⟩, .bool false, .string ⟨#[]⟩, .int .i64 0]) 4 48 Tryz.underlying22 hi0 hz0 hz1 hz2 rfl (by decide) _ _ _ rfl (hownE.alloc _) ⟨wr.heap.size, 0, none⟩ 1 1 (Pp.cells x) rfl rfl (Pp.new_cells wr.drew x _) (Pp.cells_one _) (by unfold maxLen; omega) (by omega) (by have := hbelE.size; simp at this ⊢; omega) ?_)
            intro v2 w2 ho2 hgr2 hnn2
            have hbel2 : Below (w.alloc (.cells #[.string x.path, .bool x.folder, .string x.text, .int .i64 x.ver] 49)).heap.size (w.alloc (.cells #[.string x.path, .bool x.folder, .string x.text, .int .i64 x.ver] 49)) w2 := (hbelE.alloc hbelE.size _).grown hgr2 (by have := hbelE.size; simp at this ⊢; omega) (fun g hg => by have := (hownE.lt g hg).1; simp; omega)
            rw [Pp.flat_snoc] at ho2
            have hown2 : w2.ownsRow (w.heap.size + 1) 49 4 v2 (X ++ [x]).length (Pp.flat (X ++ [x])) := by rw [List.length_append]; exact ho2
            clear ho2 hgr2 hnn2
            obtain ⟨s0, s1, s2, s3, hbw2, hlt2⟩ := box4 hbel2
            obtain ⟨d0, d1, d2, d3⟩ := he.below hb hbw2
            have HO := hid hown2
            clear hown2 hown hbel hownD hbelD hownE hbelE c0 c1 c2 c3 r0 r1 r2 r3 he
            go_wp2_with fail
            go_region
            go_wp2_with fail
            go_roundw
            case rel => exact ⟨k + 1, by omega, by simp, by rw [HST.out], by rw [HST.out, List.length_append]; simp only [List.length_singleton]; omega, by rw [HST.out]; exact HO.out.drew, hbel2.drew⟩
            case measure => simp [intOf]; omega
          | false =>
            have hp2 : ¬ L[k].path.data.toList = x.path.data.toList := by rw [Lib.toList_data, Lib.toList_data] at hp; simpa using hp
            have hl2 : Op.bytesLess x.path.toList L[k].path.toList = true := by
              cases hh : Op.bytesLess x.path.toList L[k].path.toList with
              | true => rfl
              | false => exact absurd (Pp.lt_same hl hh) hp2
            have HST : Hid (Pp.putS x (L.take (k + 1)) = (X ++ [x] ++ [L[k]], true)) := (by rw [hstp, Pp.stp, hl]; simp only [hp2, if_true, if_false, and_self, Bool.not_false, Bool.or_true] : Pp.putS x (L.take (k + 1)) = (X ++ [x] ++ [L[k]], true))
            clear hstp hp2 hl
            go_wp2_with fail
            go_region
            go_wp2_with (at_builtin; refine wpList_append_own _ rfl _ _ 22 rfl (w.heap.size + 1) 49 i0 (.agg #[.string ⟨#[]⟩, .bool false, .string ⟨#[]⟩, .int .i64 0]) 4 48 Tryz.underlying22 hi0 hz0 hz1 hz2 rfl (by decide) _ _ _ rfl (hownE.alloc _) ⟨wr.heap.size, 0, none⟩ 1 1 (Pp.cells x) rfl rfl (Pp.new_cells wr.drew x _) (Pp.cells_one _) (by unfold maxLen; omega) (by omega) (by have := hbelE.size; simp at this ⊢; omega) ?_)
            intro v2 w2 ho2 hgr2 hnn2
            have hbel2 : Below (w.alloc (.cells #[.string x.path, .bool x.folder, .string x.text, .int .i64 x.ver] 49)).heap.size (w.alloc (.cells #[.string x.path, .bool x.folder, .string x.text, .int .i64 x.ver] 49)) w2 := (hbelE.alloc hbelE.size _).grown hgr2 (by have := hbelE.size; simp at this ⊢; omega) (fun g hg => by have := (hownE.lt g hg).1; simp; omega)
            rw [Pp.flat_snoc] at ho2
            have hown2 : w2.ownsRow (w.heap.size + 1) 49 4 v2 (X ++ [x]).length (Pp.flat (X ++ [x])) := by rw [List.length_append]; exact ho2
            clear ho2 hgr2 hnn2
            obtain ⟨s0, s1, s2, s3, hbw2, hlt2⟩ := box4 hbel2
            obtain ⟨d0, d1, d2, d3⟩ := he.below hb hbw2
            have hXl : (X ++ [x]).length ≤ X.length + 1 := by simp
            generalize X ++ [x] = Y at *
            clear hown hbel hownD hbelD hownE hbelE c0 c1 c2 c3 r0 r1 r2 r3
            go_wp2_with fail
            go_region
            go_wp2_with (at_builtin; refine wpList_append_own _ rfl _ _ 22 rfl (w.heap.size + 1) 49 i0 (.agg #[.string ⟨#[]⟩, .bool false, .string ⟨#[]⟩, .int .i64 0]) 4 48 Tryz.underlying22 hi0 hz0 hz1 hz2 rfl (by decide) _ _ _ rfl (hown2.drew.alloc _) ⟨w2.heap.size, 0, none⟩ 1 1 (Pp.cells L[k]) rfl rfl (Pp.new_cells w2.drew L[k] _) (Pp.cells_one _) (by unfold maxLen; omega) (by omega) (by have := hbel2.size; simp at this ⊢; omega) ?_)
            intro v3 w3 ho2 hgr2 hnn2
            have hbel3 : Below (w.alloc (.cells #[.string x.path, .bool x.folder, .string x.text, .int .i64 x.ver] 49)).heap.size (w.alloc (.cells #[.string x.path, .bool x.folder, .string x.text, .int .i64 x.ver] 49)) w3 := (hbel2.drew.alloc hbel2.drew.size _).grown hgr2 (by have := hbel2.size; simp at this ⊢; omega) (fun g hg => by have := (hown2.drew.lt g hg).1; simp; omega)
            rw [Pp.flat_snoc] at ho2
            have hown3 : w3.ownsRow (w.heap.size + 1) 49 4 v3 (Y ++ [L[k]]).length (Pp.flat (Y ++ [L[k]])) := by rw [List.length_append]; exact ho2
            clear ho2 hgr2 hnn2
            have HO := hid hown3
            clear hown3 hown2 hbel2 d0 d1 d2 d3 s0 s1 s2 s3 he
            go_wp2_with fail
            go_roundw
            case rel => exact ⟨k + 1, by omega, by simp, by rw [HST.out], by rw [HST.out, List.length_append]; simp only [List.length_singleton]; omega, by rw [HST.out]; exact HO.out, hbel3⟩
            case measure => simp [intOf]; omega
    · have ek : L.take k = L := List.take_of_length_le (by omega)
      rw [ek] at hown hle ⊢
      have hR : Pp.putR x L = if (Pp.putS x L).2 = true then (Pp.putS x L).1 else (Pp.putS x L).1 ++ [x] := rfl
      generalize Pp.putS x L = S at *
      obtain ⟨X, pb⟩ := S
      simp only at hle hown hR
      cases pb with
      | true =>
        rw [if_pos rfl] at hR
        have HR := hid hR
        clear hR
        go_wp2_with fail
        go_ret
        exact ⟨_, rfl, by rw [HR.out]; exact Pp.own_mono hown (by simp), hbw⟩
      | false =>
        rw [if_neg (by decide)] at hR
        have HR := hid hR
        clear hR
        go_wp2_with (at_builtin; refine wpList_append_own _ rfl _ _ 22 rfl (w.heap.size + 1) 49 i0 (.agg #[.string ⟨#[]⟩, .bool false, .string ⟨#[]⟩, .int .i64 0]) 4 48 Tryz.underlying22 hi0 hz0 hz1 hz2 rfl (by decide) _ _ _ rfl (hown.alloc _) ⟨wr.heap.size, 0, none⟩ 1 1 (Pp.cells x) rfl rfl (Pp.new_cells wr x _) (Pp.cells_one _) (by unfold maxLen; omega) (by omega) (by have := hbel.size; simp at this ⊢; omega) ?_)
        intro v2 w2 ho2 hgr2 hnn2
        have hbel2 : Below (w.alloc (.cells #[.string x.path, .bool x.folder, .string x.text, .int .i64 x.ver] 49)).heap.size (w.alloc (.cells #[.string x.path, .bool x.folder, .string x.text, .int .i64 x.ver] 49)) w2 := (hbel.alloc hbel.size _).grown hgr2 (by have := hbel.size; simp at this ⊢; omega) (fun g hg => by have := (hown.lt g hg).1; simp; omega)
        rw [Pp.flat_snoc] at ho2
        have hown2 : w2.ownsRow (w.heap.size + 1) 49 4 v2 (X ++ [x]).length (Pp.flat (X ++ [x])) := by rw [List.length_append]; exact ho2
        clear ho2 hgr2 hnn2
        obtain ⟨s0, s1, s2, s3, hbw2, hlt2⟩ := box4 hbel2
        have HO := hid hown2
        clear hown2 hown hbel r0 r1 r2 r3 s0 s1 s2 s3
        go_wp2_with fail
        go_ret
        exact ⟨_, rfl, by rw [HR.out]; exact Pp.own_mono HO.out (by simp), hbw2⟩
end Go.Proofs.YthfdmdjmbbollaaGreatDoor
