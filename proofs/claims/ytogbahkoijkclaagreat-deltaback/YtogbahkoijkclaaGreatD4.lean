/- What package delta answers of no tree and of a tree with one file; and how it begins. -/
import Derived.Test.YtogbahkoijkclaaGreatD2
set_option linter.unusedSimpArgs false
set_option linter.unusedVariables false
namespace Go.Proofs.YtogbahkoijkclaaGreat
open Go.RowKit Go.Maps Go.WideMaps

set_option maxHeartbeats 1000000 in
theorem like_no (a b : Int) (s t : ByteArray) (m n : Int) (h : (a == b) = false) (w : World) :
    Calls Tryz.prog 21 #[.agg #[.int .i64 a, .string s, .int .i64 m], .agg #[.int .i64 b, .string t, .int .i64 n]] w fun e w' => e = .returned (.bool false) ∧ Below w.heap.size w w' := by
  go_enter Tryz.func21, Tryz.ntmps21
  go_wp2
  go_ret
  exact ⟨rfl, ((Below.refl _ _).alloc (Nat.le_refl _) _).alloc (by simp) _⟩
set_option maxHeartbeats 1000000 in
theorem made_file (p t : ByteArray) (n : Int) (w : World) :
    Calls Tryz.prog 22 #[.string p, .agg #[.int .i64 2, .string t, .int .i64 n]] w fun e w' => e = .returned (.agg #[.int .i64 2, .string p, .string ⟨#[]⟩, .string t, .int .i64 (-1)]) ∧ Below w.heap.size w w' := by
  go_enter Tryz.func22, Tryz.ntmps22
  go_wp2_with fail
  refine bodyPost_ret (v := .agg #[.int .i64 2, .string p, .string ⟨#[]⟩, .string t, .int .i64 (-1)]) (by simp [results, Tryz.results22, go_sem]) rfl ⟨rfl, ?_⟩
  exact ((Below.refl _ _).alloc (Nat.le_refl _) _).alloc (by simp) _

/-- No path, where there is none. -/
theorem paths_none {b n : Nat} {w : World} (h : w.ownsMap Tryz.prog 9 Sp.rd b n (.map [])) :
    Calls Tryz.prog 19 #[.map (some b)] w fun e w' => e = .returned (.slice none 0 0) ∧ Below w.heap.size w w' :=
  (Tryz.paths_any b n _ Sp.rd w h (by simp [Maps.size]) (by simp [Maps.size])).mono fun e w' ⟨v, ss, he, hp, _, hnil, hb⟩ => by
    have : ss = [] := List.Perm.eq_nil hp
    exact ⟨by rw [he, hnil.2 this], hb⟩
/-- The path, where there is one. -/
theorem paths_one {b n : Nat} {w : World} {p t : ByteArray} {a m : Int} (h : w.ownsMap Tryz.prog 9 Sp.rd b n (Sp.one p a t m)) :
    Calls Tryz.prog 19 #[.map (some b)] w fun e w' => ∃ g cap, e = .returned (.slice (some ⟨g, 0, none⟩) 1 cap) ∧ w'.cell? ⟨g, 0, none⟩ = some (.string p) ∧ 1 ≤ cap ∧ w.heap.size ≤ g ∧ g < w'.heap.size ∧ Below w.heap.size w w' :=
  (Tryz.paths_any b n _ Sp.rd w h (by rw [Sp.one_eq]; simp [Maps.size, maxLen]) (by rw [Sp.one_eq]; simp [Maps.size])).mono fun e w' ⟨v, ss, he, hp, hrow, hnil, hb⟩ => by
    rw [Sp.one_keys] at hp
    have hs : ss = [p.data.toList] := List.perm_singleton.1 hp
    subst hs
    have hrow' := hrow
    obtain ⟨hl, h2⟩ := hrow
    rcases h2 with ⟨hv, hz⟩ | ⟨g, cap, cur, hv, hg, hh, hn, hm, hz, htake⟩
    · exact absurd (hnil.1 hv) (by simp)
    · subst hv
      have hc := hrow'.cellAt 0 (by simp)
      refine ⟨g, cap, he, ?_, by simpa using hn, hg, ?_, hb⟩
      · rw [hc]; simp [encStr]
      · rcases Nat.lt_or_ge g w'.heap.size with h | h
        · exact h
        · rw [Array.getElem?_eq_none h] at hh; cases hh

theorem omap_below {b n : Nat} {w w' : World} {D : DataW Unit} {B : Nat} (h : w.ownsMap Tryz.prog 9 Sp.rd b n D) (hw : Below B w w') (hb : b < B) : w'.ownsMap Tryz.prog 9 Sp.rd b n D := by
  obtain ⟨es, clock, hh, F, hs, hD⟩ := h
  exact ⟨es, clock, (hw.block b hb).trans hh, F, hs, hD⟩

set_option maxRecDepth 100000 in
set_option maxHeartbeats 1000000 in
theorem deletes_none {b c n : Nat} {w : World} (h : w.ownsMap Tryz.prog 9 Sp.rd b n (.map [])) :
    Calls Tryz.prog 11 #[.map (some b), .map (some c)] w fun e w' => e = .returned (.slice none 0 0) ∧ Below w.heap.size w w' := by
  have HM := hid h
  clear h
  go_enter Tryz.func11, Tryz.ntmps11
  go_wp2_with fail
  refine (paths_none HM.out).mono ?_
  rintro e w1 ⟨rfl, hb1⟩
  go_wp2_with fail
  go_loopw [5, 11] (fun x i wr => x = .slice none 0 0 ∧ i = .int .i64 0 ∧ wr = w1) (fun _ _ _ => 0)
  case atStart => exact ⟨rfl, rfl, rfl⟩
  case round =>
    obtain ⟨rfl, rfl, rfl⟩ := hrel
    go_wp2_with fail
    go_ret
    exact ⟨rfl, hb1⟩

theorem Tryz.infoChg : (Tryz.prog.info? 37).map (fun i => (i.zero, i.size, i.bytes)) = some (some (.agg #[.int .i64 0, .string ⟨#[]⟩, .string ⟨#[]⟩, .string ⟨#[]⟩, .int .i64 0]), 5, 64) := by kernel_rfl
namespace Pp
def cellsC (c : Ch) : List Value := [.int .i64 c.k, .string c.p, .string c.q, .string c.t, .int .i64 c.b]
theorem cellsC_one (c : Ch) : ∀ u ∈ cellsC c, u.oneCell' = true := by
  intro u hu
  simp only [cellsC, List.mem_cons, List.not_mem_nil, or_false] at hu
  rcases hu with rfl | rfl | rfl | rfl | rfl <;> rfl
end Pp
theorem new_cellsC (w : World) (c : Pp.Ch) (T : TypeId) : ∀ j u, (Pp.cellsC c)[j]? = some u → (w.alloc (.cells #[.int .i64 c.k, .string c.p, .string c.q, .string c.t, .int .i64 c.b] T)).cell? ((⟨w.heap.size, 0, none⟩ : Addr).add j) = some u := by
  intro j u hj
  match j, hj with
  | 0, hj => simp [Pp.cellsC] at hj; subst hj; simp [Addr.add]
  | 1, hj => simp [Pp.cellsC] at hj; subst hj; simp [Addr.add]
  | 2, hj => simp [Pp.cellsC] at hj; subst hj; simp [Addr.add]
  | 3, hj => simp [Pp.cellsC] at hj; subst hj; simp [Addr.add]
  | 4, hj => simp [Pp.cellsC] at hj; subst hj; simp [Addr.add]
  | j + 5, hj => simp [Pp.cellsC] at hj

set_option maxRecDepth 100000 in
set_option maxHeartbeats 2000000 in
theorem makes_one {b c n m : Nat} {w : World} {p t : ByteArray} {k : Int} (h : w.ownsMap Tryz.prog 9 Sp.rd b n (.map [])) (ho : w.ownsMap Tryz.prog 9 Sp.rd c m (Sp.one p 2 t k)) (hp : p.size ≤ maxLen) :
    Calls Tryz.prog 12 #[.map (some b), .map (some c)] w fun e w' => ∃ v, e = .returned v ∧ w'.ownsRow w.heap.size 37 5 v 1 (Pp.cellsC ⟨2, p, ⟨#[]⟩, t, -1⟩) ∧ Below w.heap.size w w' := by
  obtain ⟨i0, hi0, hz0, hz1, hz2⟩ := info_parts Tryz.infoChg
  have HB := hid h
  have HC := hid ho
  have hblt := h.lt
  have hclt := ho.lt
  have HLK : Hid (∀ W, Below w.heap.size w W → (Instr.lookup 40 (.map (some b)) (.string p) false).run Tryz.prog W = .ok (.agg #[.int .i64 0, .string ⟨#[]⟩, .int .i64 0]) W ∧ (Instr.lookup 40 (.map (some c)) (.string p) false).run Tryz.prog W = .ok (.agg #[.int .i64 2, .string t, .int .i64 k]) W) := (fun W hW => ⟨spotAt_none (omap_below h hW hblt) p hp, spotAt_one (omap_below ho hW hclt) hp⟩ : ∀ W, Below w.heap.size w W → (Instr.lookup 40 (.map (some b)) (.string p) false).run Tryz.prog W = .ok (.agg #[.int .i64 0, .string ⟨#[]⟩, .int .i64 0]) W ∧ (Instr.lookup 40 (.map (some c)) (.string p) false).run Tryz.prog W = .ok (.agg #[.int .i64 2, .string t, .int .i64 k]) W)
  clear h ho
  go_enter Tryz.func12, Tryz.ntmps12
  go_wp2_with fail
  refine (paths_one HC.out).mono ?_
  rintro e w1 ⟨g, cap, rfl, hcell, hcap, hg1, hg2, hb1⟩
  have hsz1 := hb1.size
  go_wp2_with fail
  go_loopw [5, 11] (fun x i wr => Below w1.heap.size w1 wr ∧ ((x = .slice none 0 0 ∧ i = .int .i64 0) ∨ (i = .int .i64 1 ∧ Hid (wr.ownsRow w.heap.size 37 5 x 1 (Pp.cellsC ⟨2, p, ⟨#[]⟩, t, -1⟩))))) (fun _ i _ => 2 - (intOf i).toNat)
  case atStart => exact ⟨Below.refl _ _, Or.inl ⟨rfl, rfl⟩⟩
  case round =>
    obtain ⟨hbel, ⟨rfl, rfl⟩ | ⟨rfl, HX⟩⟩ := hrel
    · have hb0r : Below w.heap.size w wr := hb1.trans (hbel.mono hsz1)
      have c0 : wr.cell? ⟨g, 0, none⟩ = some (.string p) := (hbel.cell (p := ⟨g, 0, none⟩) hg2).trans hcell
      obtain ⟨hl1, hl2⟩ := HLK.out wr hb0r
      go_wp2_with fail
      refine (like_no 2 0 t ⟨#[]⟩ k 0 (by decide) _).mono ?_
      rintro e w2 ⟨rfl, hb2⟩
      have hb02 := below_trans hb0r hb2
      have hbel2 := below_trans hbel hb2
      clear hl1 hl2
      obtain ⟨hl1, hl2⟩ := HLK.out w2 hb02
      go_wp2_with fail
      refine (made_file p t k _).mono ?_
      rintro e w3 ⟨rfl, hb3⟩
      have hb03 := below_trans hb02 hb3
      have hbel3 := below_trans hbel2 hb3
      have hsz3 := hb03.size
      clear hl1 hl2
      go_wp2_with (at_builtin; refine wpList_append_own _ rfl _ _ 24 rfl w.heap.size 37 i0 (.agg #[.int .i64 0, .string ⟨#[]⟩, .string ⟨#[]⟩, .string ⟨#[]⟩, .int .i64 0]) 5 64 Tryz.underlying24 hi0 hz0 hz1 hz2 rfl (by decide) (.slice none 0 0) 0 [] rfl (World.ownsRow_nil _ _ _ _) ⟨w3.heap.size, 0, none⟩ 1 1 (Pp.cellsC ⟨2, p, ⟨#[]⟩, t, -1⟩) rfl rfl (new_cellsC w3 ⟨2, p, ⟨#[]⟩, t, -1⟩ _) (Pp.cellsC_one _) (by unfold maxLen; omega) (by omega) (by simp; omega) ?_)
      intro v5 w5 ho5 hgr5 hnn5
      have hbel5 : Below w1.heap.size w1 w5 := (hbel3.alloc hbel3.size _).grown hgr5 (by have := hbel3.size; simp; omega) (fun q hq => by simp [Value.ownBlock] at hq)
      have HO5 : Hid (w5.ownsRow w.heap.size 37 5 v5 1 (Pp.cellsC ⟨2, p, ⟨#[]⟩, t, -1⟩)) := (by simpa using ho5 : w5.ownsRow w.heap.size 37 5 v5 1 (Pp.cellsC ⟨2, p, ⟨#[]⟩, t, -1⟩))
      clear ho5 hgr5 hnn5
      go_wp2_with fail
      go_roundw
      case rel => exact ⟨hbel5, Or.inr ⟨by simp, HO5⟩⟩
      case measure => simp [intOf]
    · go_wp2_with fail
      go_ret
      exact ⟨_, rfl, HX.out, hb1.trans (hbel.mono hsz1)⟩
end Go.Proofs.YtogbahkoijkclaaGreat
