/- A row of changes of one's own, as changes that lie in memory. A tree that lies beside a row of changes that grows; the same changes twice. Which error of two trees comes first. What delta.makes and delta.Diff answer of two trees. Appending what is nil, or lies at an address. What delta.Diff answers, for every two trees. -/
import Derived.Test.YtlllcifehellpaaGreatDoorPG
import Derived.Test.YtlllcifehellpaaGreatDoorMA
import Derived.Test.YtlllcifehellpaaGreatDoorME
import Derived.Test.YtlllcifehellpaaGreatDoorPH
import Derived.Laws.OwnMore
set_option linter.unusedSimpArgs false
set_option linter.unusedVariables false
namespace Go.Proofs.YtlllcifehellpaaGreatDoor
open Go.RowKit

namespace Pp
theorem flatC_at : ∀ (L : List Ch) (i : Nat) (h : i < L.length) (c : Nat), c < 5 → (flatC L)[i * 5 + c]? = (cellsC L[i])[c]?
  | [], i, h, _, _ => absurd h (by simp)
  | a :: r, 0, _, c, hc => by
    show (cellsC a ++ flatC r)[0 * 5 + c]? = _
    rw [List.getElem?_append_left (by simp [cellsC]; omega)]
    simp
  | a :: r, i + 1, h, c, hc => by
    show (cellsC a ++ flatC r)[(i + 1) * 5 + c]? = _
    rw [List.getElem?_append_right (by simp [cellsC]; omega)]
    have e : (i + 1) * 5 + c - (cellsC a).length = i * 5 + c := by simp [cellsC]; omega
    rw [e, flatC_at r i (by simpa using h) c hc]
    simp
end Pp
theorem liesC_row {w : World} {base : Nat} {T : TypeId} {v : Value} {L : List Pp.Ch} (h : w.ownsRow base T 5 v L.length (Pp.flatC L)) (hn : L.length ≤ 1000000000000000) : LiesC w v L := by
  have h' := h
  obtain ⟨_, h2⟩ := h
  rcases h2 with ⟨rfl, hz⟩ | ⟨g, cap, cur, rfl, hg, hh, hc, hm, hz, htake⟩
  · have : L = [] := List.length_eq_zero_iff.1 hz
    subst this
    exact ⟨none, 0, rfl, Nat.le_refl _, by simp, fun i hi => absurd hi (by simp)⟩
  · have hlt : g < w.heap.size := by
      rcases Nat.lt_or_ge g w.heap.size with h | h
      · exact h
      · rw [Array.getElem?_eq_none h] at hh; cases hh
    refine ⟨some ⟨g, 0, none⟩, cap, rfl, hc, hn, fun i hi => ⟨g, 0, rfl, hlt, ?_⟩⟩
    have k : ∀ c, c < 5 → w.cell? ⟨g, 0 + i * 5 + c, none⟩ = (Pp.cellsC L[i])[c]? := fun c hc => by
      rw [Nat.zero_add, h'.cellAt (i * 5 + c) (by omega), Pp.flatC_at L i hi c hc]
    exact ⟨k 0 (by decide), k 1 (by decide), k 2 (by decide), k 3 (by decide), k 4 (by decide)⟩
end Go.Proofs.YtlllcifehellpaaGreatDoor
set_option linter.unusedSimpArgs false
set_option linter.unusedVariables false
namespace Go.Proofs.YtlllcifehellpaaGreatDoor
open Go.RowKit

/-- A tree that lies where it was handed in, or in a block of entries. -/
def LiesX (B : Nat) (w : World) (y : Value) (S : List En) : Prop := ∃ a cap, y = .slice a S.length cap ∧ S.length ≤ cap ∧ S.length ≤ 1000000000000000 ∧ ∀ i (h : i < S.length), ∃ b o, a = some ⟨b, o, none⟩ ∧ b < w.heap.size ∧ (b < B ∨ ∃ cur fz, w.heap[b]? = some (.cells cur 64 fz)) ∧ EnAt w b (o + i * 4) S[i]
theorem LiesX.lies {B : Nat} {w : World} {y : Value} {S : List En} (h : LiesX B w y S) : Lies w y S := by
  obtain ⟨a, cap, h1, h2, h3, h4⟩ := h
  exact ⟨a, cap, h1, h2, h3, fun i hi => by obtain ⟨b, o, k1, k2, _, k3⟩ := h4 i hi; exact ⟨b, o, k1, k2, k3⟩⟩
theorem LiesX.at {B : Nat} {w : World} {a : Option Addr} {n cap : Nat} {S : List En} (h : LiesX B w (.slice a n cap) S) : ∀ i (h : i < S.length), ∃ b o, a = some ⟨b, o, none⟩ ∧ EnAt w b (o + i * 4) S[i] := by
  obtain ⟨a', cap', h1, h2, h3, h4⟩ := h
  intro i hi
  obtain ⟨b, o, k1, _, _, k3⟩ := h4 i hi
  injection h1 with e1
  exact ⟨b, o, e1.trans k1, k3⟩
theorem liesX_old {w : World} {y : Value} {S : List En} (h : Lies w y S) : LiesX w.heap.size w y S := by
  obtain ⟨a, cap, h1, h2, h3, h4⟩ := h
  exact ⟨a, cap, h1, h2, h3, fun i hi => by obtain ⟨b, o, k1, k2, k3⟩ := h4 i hi; exact ⟨b, o, k1, k2, Or.inl k2, k3⟩⟩
theorem LiesX.below {B : Nat} {w w' : World} {y : Value} {S : List En} (h : LiesX B w y S) (hw : Below w.heap.size w w') : LiesX B w' y S := by
  obtain ⟨a, cap, h1, h2, h3, h4⟩ := h
  refine ⟨a, cap, h1, h2, h3, fun i hi => ?_⟩
  obtain ⟨b, o, k1, k2, k4, k3⟩ := h4 i hi
  exact ⟨b, o, k1, Nat.lt_of_lt_of_le k2 hw.size, k4.imp id (fun ⟨cur, fz, hc⟩ => ⟨cur, fz, (hw.block b k2).trans hc⟩), k3.below k2 hw⟩
theorem liesX_row {B B' : Nat} {w : World} {y : Value} {S : List En} (h : w.ownsRow B' 64 4 y S.length (Pp.flat S)) (hn : S.length ≤ 1000000000000000) : LiesX B w y S := by
  obtain ⟨a, cap, h1, h2, h3, h4⟩ := lies_row h hn
  refine ⟨a, cap, h1, h2, h3, fun i hi => ?_⟩
  obtain ⟨b, o, k1, k2, k3⟩ := h4 i hi
  refine ⟨b, o, k1, k2, Or.inr ?_, k3⟩
  subst k1
  obtain ⟨_, h5⟩ := h
  rcases h5 with ⟨h6, _⟩ | ⟨g, cap', cur, h6, _, hh, _⟩
  · rw [h1] at h6; cases h6
  · rw [h1] at h6
    injection h6 with e1
    injection e1 with e1
    injection e1 with e1
    subst e1
    exact ⟨cur, _, hh⟩
theorem LiesX.grown {B : Nat} {w w' : World} {y x : Value} {S : List En} {n : Nat} {xs : List Value} (h : LiesX B w y S) (ho : w.ownsRow B 53 5 x n xs) (hg : w.grownBy w' x.ownBlock) : LiesX B w' y S := by
  obtain ⟨a, cap, h1, h2, h3, h4⟩ := h
  refine ⟨a, cap, h1, h2, h3, fun i hi => ?_⟩
  obtain ⟨b, o, k1, k2, k4, k3⟩ := h4 i hi
  have hne : some b ≠ x.ownBlock := by
    intro e
    obtain ⟨_, h5⟩ := ho
    rcases h5 with ⟨h6, _⟩ | ⟨g, cap', cur, h6, hB, hh, _⟩
    · rw [h6] at e; simp [Value.ownBlock] at e
    · rw [h6] at e
      have e2 : b = g := by simpa [Value.ownBlock] using e
      subst e2
      rcases k4 with h | ⟨cur2, fz, h⟩
      · omega
      · rw [hh] at h
        injection h with h
        injection h with _ h7 _
        exact absurd h7 (by decide)
  exact ⟨b, o, k1, Nat.lt_of_lt_of_le k2 hg.size, k4.imp id (fun ⟨cur, fz, hc⟩ => ⟨cur, fz, (hg.block b k2 hne).trans hc⟩),
    (hg.cell_far ⟨b, _, none⟩ k2 hne).trans k3.1, (hg.cell_far ⟨b, _, none⟩ k2 hne).trans k3.2.1, (hg.cell_far ⟨b, _, none⟩ k2 hne).trans k3.2.2.1, (hg.cell_far ⟨b, _, none⟩ k2 hne).trans k3.2.2.2⟩

set_option maxHeartbeats 1000000 in
theorem sameChg_yes (L : List Pp.Ch) (v u : Value) (w : World) (hv : LiesC w v L) (hu : LiesC w u L) :
    Calls Tryz.prog 45 #[v, u] w fun e w' => e = .returned (.bool true) ∧ Below w.heap.size w w' := by
  obtain ⟨a, cap, rfl, hcap, hcap2, hL⟩ := hv
  have HL : Hid (∀ i (h : i < L.length), ∃ b o, a = some ⟨b, o, none⟩ ∧ b < w.heap.size ∧ ChAt w b (o + i * 5) L[i]) := hL
  obtain ⟨a', cap', rfl, hcap', _, hL'⟩ := hu
  have HL' : Hid (∀ i (h : i < L.length), ∃ b o, a' = some ⟨b, o, none⟩ ∧ b < w.heap.size ∧ ChAt w b (o + i * 5) L[i]) := hL'
  clear hL hL'
  go_enter Tryz.func45, Tryz.ntmps45
  go_wp2_with fail
  go_loopw [5] (fun i wr => ∃ k : Nat, k ≤ L.length ∧ i = .int .i64 k ∧ Below w.heap.size w wr) (fun i _ => L.length - (intOf i).toNat)
  case atStart => exact ⟨0, Nat.zero_le _, rfl, Below.refl _ _⟩
  case round =>
    obtain ⟨k, hk, rfl, hbel⟩ := hrel
    by_cases hlt : k < L.length
    · obtain ⟨b, o, rfl, hb, he⟩ := HL.out k hlt
      obtain ⟨b', o', rfl, hb', he'⟩ := HL'.out k hlt
      obtain ⟨c0, c1, c2, c3, c4⟩ := he.below hb hbel
      obtain ⟨d0, d1, d2, d3, d4⟩ := he'.below hb' hbel
      go_wp2_with fail
      go_region
      go_wp2_with fail
      go_roundw
      case rel => exact ⟨k + 1, by omega, by simp, hbel.drew⟩
      case measure => simp [intOf]; omega
    · go_wp2_with fail
      go_ret
      exact ⟨rfl, hbel⟩
end Go.Proofs.YtlllcifehellpaaGreatDoor
set_option linter.unusedSimpArgs false
set_option linter.unusedVariables false
namespace Go.Proofs.YtlllcifehellpaaGreatDoor
namespace Sp
def dfE (A B : List En) : Int := if Pp.treeE A = 0 then Pp.treeE B else Pp.treeE A
end Sp
end Go.Proofs.YtlllcifehellpaaGreatDoor
set_option linter.unusedSimpArgs false
set_option linter.unusedVariables false
namespace Go.Proofs.YtlllcifehellpaaGreatDoor
open Go.RowKit Go.Maps Go.WideMaps

set_option maxRecDepth 100000 in
set_option maxHeartbeats 4000000 in
theorem makes_any {b c n m : Nat} {w : World} {L M : List En} (h : w.ownsMap Tryz.prog 9 Sp.rd b n (Sp.D L)) (ho : w.ownsMap Tryz.prog 9 Sp.rd c m (Sp.D M)) (hM : M.Pairwise (fun x y => Pp.lt x y = true)) (hL : Sp.Apart L) (hn : M.length ≤ 1000) (hp : ∀ e ∈ M, e.path.size ≤ 1000000000) :
    Calls Tryz.prog 87 #[.map (some b), .map (some c)] w fun e w' => ∃ v, e = .returned v ∧ w'.ownsRow w.heap.size 53 5 v (Sp.mks L M).length (Pp.flatC (Sp.mks L M)) ∧ Below w.heap.size w w' := by
  obtain ⟨i0, hi0, hz0, hz1, hz2⟩ := info_parts Tryz.infoChg
  have hblt := h.lt
  have hclt := ho.lt
  have hap := Sp.apart_rise hM
  have HC := hid ho
  have HLK : Hid (∀ x ∈ M, ∀ W, Below w.heap.size w W → (Instr.lookup 96 (.map (some c)) (.string x.path) false).run Tryz.prog W = .ok (.agg #[.int .i64 (Sp.wh x), .string (Sp.tx x), .int .i64 x.ver]) W ∧ (Instr.lookup 96 (.map (some b)) (.string x.path) false).run Tryz.prog W = .ok (.agg #[.int .i64 (Sp.wAt L x.path.data.toList), .string (Sp.tAt L x.path.data.toList), .int .i64 (Sp.vAt L x.path.data.toList)]) W) := (fun x hx W hW => by
    have hs : x.path.size ≤ maxLen := by have := hp x hx; unfold maxLen; omega
    have h1 := spotAt_any (omap_below ho hW hclt) hap x.path hs
    have h2 := spotAt_any (omap_below h hW hblt) hL x.path hs
    rw [Sp.val, Sp.at_self hap hx] at h1
    rw [Sp.val_eq] at h2
    exact ⟨h1, h2⟩ : ∀ x ∈ M, ∀ W, Below w.heap.size w W → (Instr.lookup 96 (.map (some c)) (.string x.path) false).run Tryz.prog W = .ok (.agg #[.int .i64 (Sp.wh x), .string (Sp.tx x), .int .i64 x.ver]) W ∧ (Instr.lookup 96 (.map (some b)) (.string x.path) false).run Tryz.prog W = .ok (.agg #[.int .i64 (Sp.wAt L x.path.data.toList), .string (Sp.tAt L x.path.data.toList), .int .i64 (Sp.vAt L x.path.data.toList)]) W)
  have HM := hid hM
  clear h ho hp hap hM
  have hfd := Tryz.fieldWhat
  go_enter Tryz.func87, Tryz.ntmps87
  go_wp2_with fail
  refine (paths_good HC.out HM.out hn).mono ?_
  rintro e w1 ⟨v1, rfl, ⟨a1, cap1, rfl, hcap1, hcells⟩, hb1⟩
  have HCL := hid hcells
  rw [List.length_map] at hcap1 ⊢
  have hsz1 := hb1.size
  clear hcells
  go_wp2_with fail
  go_loopw [5, 11] (fun x i wr => ∃ k : Nat, k ≤ M.length ∧ i = .int .i64 k ∧ Below w1.heap.size w1 wr ∧ wr.ownsRow w1.heap.size 53 5 x (Sp.mks L (M.take k)).length (Pp.flatC (Sp.mks L (M.take k)))) (fun _ i _ => M.length - (intOf i).toNat)
  case atStart => exact ⟨0, Nat.zero_le _, rfl, Below.refl _ _, World.ownsRow_nil _ _ _ _⟩
  case round =>
    obtain ⟨k, hk, rfl, hbel, hown⟩ := hrel
    have hb0r : Below w.heap.size w wr := hb1.trans (hbel.mono hsz1)
    by_cases hlt : k < M.length
    · obtain ⟨g, rfl, hg1, hg2, hcell⟩ := HCL.out k (by rw [List.length_map]; exact hlt)
      rw [List.getElem_map] at hcell
      have c0 := (hbel.cell (p := ⟨g, k, none⟩) hg2).trans hcell
      have hmem : M[k] ∈ M := List.getElem_mem hlt
      obtain ⟨hl1, hl2⟩ := HLK.out M[k] hmem wr hb0r
      have HLX := hid (HLK.out M[k] hmem)
      have HHIT : Hid (Sp.newB L M[k] = true → Sp.mks L (M.take (k + 1)) = Sp.mks L (M.take k) ++ [Sp.mkC M[k]]) := (fun hh => by rw [Sp.mks, Pp.filter_hitE hlt hh, List.map_append]; rfl : Sp.newB L M[k] = true → Sp.mks L (M.take (k + 1)) = Sp.mks L (M.take k) ++ [Sp.mkC M[k]])
      have HMISS : Hid (Sp.newB L M[k] = false → Sp.mks L (M.take (k + 1)) = Sp.mks L (M.take k)) := (fun hh => by rw [Sp.mks, Pp.filter_missE hlt hh]; rfl : Sp.newB L M[k] = false → Sp.mks L (M.take (k + 1)) = Sp.mks L (M.take k))
      have hXl : (Sp.mks L (M.take k)).length ≤ 1000 := by
        have h1 : (Sp.mks L (M.take k)).length ≤ (M.take k).length := by rw [Sp.mks, List.length_map]; exact List.length_filter_le _ _
        have h2 := List.length_take_le k M
        omega
      have hrsz := hbel.size
      have HO := hid hown
      clear hown hcell hmem
      generalize M[k] = x at *
      generalize Sp.mks L (M.take k) = X at *
      cases hlk : ((Sp.wh x == Sp.wAt L x.path.data.toList) && ((Sp.tx x).toList == (Sp.tAt L x.path.data.toList).toList)) with
      | true =>
        have HX := hid (HMISS.out (by rw [Sp.newB, hlk]; rfl))
        have HLI := hid hlk
        clear HHIT HMISS hlk
        go_wp2_with fail
        refine (like_any _ _ _ _ _ _ _).mono ?_
        rintro e w2 ⟨rfl, hb2⟩
        rw [HLI.out]
        have hbel2 := below_trans hbel hb2
        have HO2 := hid (HO.out.kept9 hb2)
        clear hb2 hl1 hl2 c0
        go_wp2_with fail
        go_roundw
        case rel => exact ⟨k + 1, by omega, by simp, hbel2, by rw [HX.out]; exact HO2.out⟩
        case measure => simp [intOf]; omega
      | false =>
        have HX := hid (HHIT.out (by rw [Sp.newB, hlk]; rfl))
        have HLI := hid hlk
        clear HHIT HMISS hlk
        go_wp2_with fail
        refine (like_any _ _ _ _ _ _ _).mono ?_
        rintro e w2 ⟨rfl, hb2⟩
        rw [HLI.out]
        have hbel2 := below_trans hbel hb2
        have hb02 := below_trans hb0r hb2
        have HO2 := hid (HO.out.kept9 hb2)
        clear hb2 hl1 hl2
        obtain ⟨hl1, hl2⟩ := HLX.out w2 hb02
        go_wp2_with fail
        refine (made_any x _).mono ?_
        rintro e w3 ⟨rfl, hb3⟩
        have hbel3 := below_trans hbel2 hb3
        have hO3 := HO2.out.kept9 hb3
        have hsz3 := hbel3.size
        clear hb3 hl1 hl2 c0
        go_wp2_with (at_builtin; refine wpList_append_own _ rfl _ _ 23 rfl w1.heap.size 53 i0 (.agg #[.int .i64 0, .string ⟨#[]⟩, .string ⟨#[]⟩, .string ⟨#[]⟩, .int .i64 0]) 5 64 Tryz.underlying23 hi0 hz0 hz1 hz2 rfl (by decide) _ _ _ rfl (hO3.alloc _) ⟨w3.heap.size, 0, none⟩ 1 1 (Pp.cellsC (Sp.mkC x)) rfl rfl (new_cellsC w3 (Sp.mkC x) _) (Pp.cellsC_one _) (by unfold maxLen; omega) (by omega) (by simp; omega) ?_)
        intro v5 w5 ho5 hgr5 hnn5
        have hbel5 : Below w1.heap.size w1 w5 := (hbel3.alloc hbel3.size _).grown hgr5 (by simp; omega) (fun q hq => (hO3.lt q hq).1)
        rw [Pp.flatC_snoc] at ho5
        have HO5 : Hid (w5.ownsRow w1.heap.size 53 5 v5 (X ++ [Sp.mkC x]).length (Pp.flatC (X ++ [Sp.mkC x]))) := (by rw [List.length_append]; exact ho5 : w5.ownsRow w1.heap.size 53 5 v5 (X ++ [Sp.mkC x]).length (Pp.flatC (X ++ [Sp.mkC x])))
        clear ho5 hgr5 hnn5 hO3
        go_wp2_with fail
        go_roundw
        case rel => exact ⟨k + 1, by omega, by simp, hbel5, by rw [HX.out]; exact HO5.out⟩
        case measure => simp [intOf]; omega
    · obtain rfl : k = M.length := by omega
      rw [List.take_length] at hown
      have HO := hid (ownsRow_low hown hsz1)
      clear hown
      go_wp2_with fail
      go_ret
      exact ⟨_, rfl, HO.out, hb0r⟩
end Go.Proofs.YtlllcifehellpaaGreatDoor
set_option linter.unusedSimpArgs false
set_option linter.unusedVariables false
namespace Go.Proofs.YtlllcifehellpaaGreatDoor
open Go.RowKit

/-- What may be appended: nil, or so many records that lie at an address. -/
def SrcC (w : World) (sx : Value) (m size : Nat) (news : List Value) : Prop := (sx = .slice none 0 0 ∧ m = 0 ∧ news = []) ∨ ∃ ad c, sx = .slice (some ad) m c ∧ news.length = m * size ∧ (∀ j u, news[j]? = some u → w.cell? (ad.add j) = some u)
theorem SrcC.own {w : World} {B : Nat} {e : TypeId} {size : Nat} {v : Value} {n : Nat} {xs : List Value} (h : w.ownsRow B e size v n xs) : SrcC w v n size xs := by
  have h' := h
  obtain ⟨hl, h2⟩ := h
  rcases h2 with ⟨rfl, rfl⟩ | ⟨g, cap, cur, rfl, hg, hh, hn, hm, hz, htake⟩
  · exact Or.inl ⟨rfl, rfl, List.length_eq_zero_iff.1 (by rw [hl]; simp)⟩
  · refine Or.inr ⟨⟨g, 0, none⟩, cap, rfl, hl, fun j u hj => ?_⟩
    have hadd : (⟨g, 0, none⟩ : Addr).add j = ⟨g, j, none⟩ := by unfold Addr.add; split <;> simp_all
    have hlt : j < n * size := by
      have := (List.getElem?_eq_some_iff.1 hj).1
      omega
    rw [hadd, h'.cellAt j hlt]
    exact hj
theorem wpList_append_may {P : Program} {w : World} {ops : Array Oper} {rest : List Oper} {o : Oper} {a : Act} {Q : Exit → Act → World → Prop} (hgd : o.guard = none)
    (s x : Operand) (t : TypeId) (hop : o.op = Op.call { callee := Callee.builtin Builtin.append, args := #[s, x], argTypes := #[t, t] })
    (base : Nat) (e : TypeId) (i : TypeInfo) (z : Value) (size bytes : Nat) (ht : P.underlying t = some (.slice e)) (hi : P.info? e = some i) (hz : i.zero = some z)
    (hsize : i.size = size) (hby : i.bytes = bytes) (hzs : z.cells.size = size) (hsz : 0 < size)
    (v : Value) (n : Nat) (xs : List Value) (hs : a.eval s = v) (hown : w.ownsRow base e size v n xs)
    (sx : Value) (m : Nat) (news : List Value) (hx : a.eval x = sx) (hsx : SrcC w sx m size news) (h1 : ∀ u ∈ news, u.oneCell' = true)
    (h63 : n + m ≤ maxLen) (hbytes : (n + m) * bytes ≤ 140737488355328) (hbase : base ≤ w.heap.size)
    (h : ∀ v' w', w'.ownsRow base e size v' (n + m) (xs ++ news) → w.grownBy w' v.ownBlock → wpList P ops Q rest (a.put o.dst v') w') :
    wpList P ops Q (o :: rest) a w := by
  rcases hsx with ⟨rfl, rfl, rfl⟩ | ⟨ad, c, rfl, hl, hnews⟩
  · refine wpList_plain hgd fun K hK => ?_
    have hrun := run_append_owned_none (P := P) (w := w) base t o.type e i size ht hi v n xs hown
    unfold Oper.wp
    simp [execOp, hop, resolve, invoke, builtin, hs, hx, hrun, Result.andThen]
    exact hK _ _ (h v w (by simpa using hown) (World.grownBy.refl _ _))
  · exact wpList_append_own w hgd s x t hop base e i z size bytes ht hi hz hsize hby hzs hsz v n xs hs hown ad m c news hx hl hnews h1 h63 hbytes hbase fun v' w' h1 h2 _ => h v' w' h1 h2
end Go.Proofs.YtlllcifehellpaaGreatDoor
set_option linter.unusedSimpArgs false
set_option linter.unusedVariables false
namespace Go.Proofs.YtlllcifehellpaaGreatDoor
open Go.RowKit Go.Maps Go.WideMaps

namespace Sp
def dfL (A B : List En) : List Pp.Ch := if dfE A B = 0 then dels A B ++ mks A B else []
theorem flatC_one (l : List Pp.Ch) : ∀ u ∈ Pp.flatC l, u.oneCell' = true := by
  intro u hu
  obtain ⟨s, _, hs⟩ := List.mem_flatMap.1 hu
  exact Pp.cellsC_one s u hs
theorem flatC_app (a b : List Pp.Ch) : Pp.flatC (a ++ b) = Pp.flatC a ++ Pp.flatC b := by simp [Pp.flatC]
theorem dels_len (A B : List En) : (dels A B).length ≤ A.length := by rw [dels, List.length_map]; exact List.length_filter_le _ _
theorem mks_len (A B : List En) : (mks A B).length ≤ B.length := by rw [mks, List.length_map]; exact List.length_filter_le _ _
theorem par_le {p : List UInt8} : (Pp.par p).length ≤ p.length := Pp.len_par p
end Sp

set_option maxRecDepth 100000 in
set_option maxHeartbeats 2000000 in
theorem diff_any (A B : List En) (va vb : Value) (w : World) (hA : Lies w va A) (hB : Lies w vb B) (hsA : Sized A) (hsB : Sized B) :
    Calls Tryz.prog 64 #[va, vb] w fun e w' => ∃ u, e = .returned (.tuple #[u, .int .i64 (Sp.dfE A B)]) ∧ w'.ownsRow w.heap.size 53 5 u (Sp.dfL A B).length (Pp.flatC (Sp.dfL A B)) ∧ Below w.heap.size w w' := by
  obtain ⟨i0, hi0, hz0, hz1, hz2⟩ := info_parts Tryz.infoChg
  have HVA := hid hA
  have HVB := hid hB
  have HSA := hid hsA
  have HSB := hid hsB
  clear hA hB hsA hsB
  by_cases ha : Pp.treeE A = 0
  · by_cases hb : Pp.treeE B = 0
    · have hdz : Sp.dfE A B = 0 := by rw [Sp.dfE, if_pos ha, hb]
      have HDL : Hid (Sp.dfL A B = Sp.dels A B ++ Sp.mks A B) := (by rw [Sp.dfL, if_pos hdz] : Sp.dfL A B = Sp.dels A B ++ Sp.mks A B)
      have HDZ := hid hdz
      have hgA := (Pp.good_iff A).1 ha
      have hgB := (Pp.good_iff B).1 hb
      have HGA := hid hgA
      have HGB := hid hgB
      have hlA := hgA.len
      have hlB := hgB.len
      have hdl := Sp.dels_len A B
      have hml := Sp.mks_len A B
      have HPA : Hid (∀ e ∈ A, e.path.size ≤ 1000000000 ∧ Pp.chk e.path.data.toList = 0 ∧ (Pp.par e.path.data.toList).length ≤ e.path.size) := (fun e he => by
        have h1 := Pp.chk_len (Pp.entE_path (hgA.ents e he))
        have h2 : e.path.data.toList.length = e.path.size := by rw [Lib.size_eq]
        exact ⟨by omega, Pp.entE_path (hgA.ents e he), by rw [← h2]; exact Sp.par_le⟩ : ∀ e ∈ A, e.path.size ≤ 1000000000 ∧ Pp.chk e.path.data.toList = 0 ∧ (Pp.par e.path.data.toList).length ≤ e.path.size)
      have HPB : Hid (∀ e ∈ B, e.path.size ≤ 1000000000) := (fun e he => by
        have h1 := Pp.chk_len (Pp.entE_path (hgB.ents e he))
        have h2 : e.path.data.toList.length = e.path.size := by rw [Lib.size_eq]
        omega : ∀ e ∈ B, e.path.size ≤ 1000000000)
      have HTA := hid ha
      have HTB := hid hb
      clear ha hb hdz hgA hgB
      go_enter Tryz.func64, Tryz.ntmps64
      go_wp2_with fail
      refine (tcheck_all A _ _ HVA.out HSA.out).mono ?_
      rintro e w1 ⟨rfl, hb1⟩
      rw [HTA.out]
      go_wp2_with fail
      refine (tcheck_all B _ _ (HVB.out.below hb1) HSB.out).mono ?_
      rintro e w2 ⟨rfl, hb2⟩
      rw [HTB.out]
      have hb02 := below_trans hb1 hb2
      clear hb1 hb2
      go_wp2_with fail
      refine (spotOf_any A _ _ (HVA.out.below hb02) (by omega) (fun e he => by have := (HPA.out e he).1; unfold maxLen; omega)).mono ?_
      rintro e w3 ⟨b, rfl, hbb, hob, hb3⟩
      have HOB := hid hob
      have hb03 := below_trans hb02 hb3
      clear hb3 hob
      go_wp2_with fail
      refine (spotOf_any B _ _ (HVB.out.below hb03) (by omega) (fun e he => by have := HPB.out e he; unfold maxLen; omega)).mono ?_
      rintro e w4 ⟨c, rfl, hcc, hoc, hb4⟩
      have HOC := hid hoc
      have HOB4 := hid (omap_below HOB.out hb4 HOB.out.lt)
      have hb04 := below_trans hb03 hb4
      clear hb4 hoc
      go_wp2_with fail
      refine (deletes_any HOB4.out HOC.out HGA.out.rise (Sp.apart_rise HGB.out.rise) (by omega) HPA.out).mono ?_
      rintro e w5 ⟨v5, rfl, hr5, hb5⟩
      have HOB5 := hid (omap_below HOB4.out hb5 HOB4.out.lt)
      have HOC5 := hid (omap_below HOC.out hb5 HOC.out.lt)
      have HR5 := hid hr5
      have hb05 := below_trans hb04 hb5
      clear hb5 hr5
      go_wp2_with fail
      refine (makes_any HOB5.out HOC5.out HGB.out.rise (Sp.apart_rise HGA.out.rise) (by omega) HPB.out).mono ?_
      rintro e w6 ⟨v6, rfl, hr6, hb6⟩
      have HR56 := hid (HR5.out.kept9 hb6)
      have HR6 := hid (SrcC.own hr6)
      have hb06 := below_trans hb05 hb6
      have hsz6 := hb06.size
      have hsz4 := hb04.size
      clear hb6 hr6
      go_wp2_with (at_builtin; refine wpList_append_may rfl _ _ 23 rfl w.heap.size 53 i0 (.agg #[.int .i64 0, .string ⟨#[]⟩, .string ⟨#[]⟩, .string ⟨#[]⟩, .int .i64 0]) 5 64 Tryz.underlying23 hi0 hz0 hz1 hz2 rfl (by decide) v5 (Sp.dels A B).length (Pp.flatC (Sp.dels A B)) rfl (ownsRow_low HR56.out hsz4) v6 (Sp.mks A B).length (Pp.flatC (Sp.mks A B)) rfl HR6.out (Sp.flatC_one _) (by unfold maxLen; omega) (by omega) hsz6 ?_)
      intro v7 w7 ho7 hgr7
      have hb07 : Below w.heap.size w w7 := hb06.grown hgr7 hsz6 (fun q hq => Nat.le_trans hsz4 (HR56.out.lt q hq).1)
      rw [← Sp.flatC_app] at ho7
      have HO7 : Hid (w7.ownsRow w.heap.size 53 5 v7 (Sp.dfL A B).length (Pp.flatC (Sp.dfL A B))) := (by rw [HDL.out, List.length_append]; exact ho7 : w7.ownsRow w.heap.size 53 5 v7 (Sp.dfL A B).length (Pp.flatC (Sp.dfL A B)))
      clear ho7 hgr7
      go_wp2_with fail
      go_ret2
      exact ⟨_, by rw [HDZ.out]; rfl, HO7.out, hb07⟩
    · have hE : Sp.dfE A B = Pp.treeE B := by rw [Sp.dfE, if_pos ha]
      have HE := hid hE
      have HL : Hid (Sp.dfL A B = []) := (by rw [Sp.dfL, if_neg (by rw [hE]; exact hb)] : Sp.dfL A B = [])
      have HTA := hid ha
      have hz : (Pp.treeE B == 0) = false := by simpa using hb
      clear ha hb hE
      go_enter Tryz.func64, Tryz.ntmps64
      go_wp2_with fail
      refine (tcheck_all A _ _ HVA.out HSA.out).mono ?_
      rintro e w1 ⟨rfl, hb1⟩
      rw [HTA.out]
      go_wp2_with fail
      refine (tcheck_all B _ _ (HVB.out.below hb1) HSB.out).mono ?_
      rintro e w2 ⟨rfl, hb2⟩
      have hb02 := below_trans hb1 hb2
      generalize hy : Pp.treeE B = y at *
      go_wp2_with fail
      go_ret2
      exact ⟨_, by rw [HE.out]; rfl, by rw [HL.out]; exact World.ownsRow_nil _ _ _ _, hb02⟩
  · have hE : Sp.dfE A B = Pp.treeE A := by rw [Sp.dfE, if_neg ha]
    have HE := hid hE
    have HL : Hid (Sp.dfL A B = []) := (by rw [Sp.dfL, if_neg (by rw [hE]; exact ha)] : Sp.dfL A B = [])
    have hz : (Pp.treeE A == 0) = false := by simpa using ha
    clear ha hE
    go_enter Tryz.func64, Tryz.ntmps64
    go_wp2_with fail
    refine (tcheck_all A _ _ HVA.out HSA.out).mono ?_
    rintro e w1 ⟨rfl, hb1⟩
    generalize hy : Pp.treeE A = y at *
    go_wp2_with fail
    go_ret2
    exact ⟨_, by rw [HE.out]; rfl, by rw [HL.out]; exact World.ownsRow_nil _ _ _ _, hb1⟩
end Go.Proofs.YtlllcifehellpaaGreatDoor
