/- What the reference's SameChanges, SameCommits, SameJournal and SamePage answer, of the same ones. A page's box that is written cell by cell. The numbers of a journal's commits, if it passes Check: plain mathematics. What the reference's ReadOf answers, for every journal that passes Check. -/
import Derived.Test.YtmdkecdhgjjceaaGreatHQ
import Derived.Test.YtmdkecdhgjjceaaGreatHV
import Derived.Deep.RegionHeld3
import Derived.Test.YtmdkecdhgjjceaaGreatMB
import Derived.Test.YtmdkecdhgjjceaaGreatHP
set_option linter.unusedSimpArgs false
set_option linter.unusedVariables false
namespace Go.Proofs.YtmdkecdhgjjceaaGreat
open Go.RowKit

set_option maxHeartbeats 1000000 in
theorem sameC_yes (L : List Pp.Ch) (v u : Value) (w : World) (hv : LiesC w v L) (hu : LiesC w u L) :
    Calls Tryz.prog 90 #[v, u] w fun e w' => e = .returned (.bool true) ∧ Below w.heap.size w w' := by
  obtain ⟨a, cap, rfl, hcap, hcap2, hL⟩ := hv
  have HL : Hid (∀ i (h : i < L.length), ∃ b o, a = some ⟨b, o, none⟩ ∧ b < w.heap.size ∧ ChAt w b (o + i * 5) L[i]) := hL
  obtain ⟨a', cap', rfl, hcap', _, hL'⟩ := hu
  have HL' : Hid (∀ i (h : i < L.length), ∃ b o, a' = some ⟨b, o, none⟩ ∧ b < w.heap.size ∧ ChAt w b (o + i * 5) L[i]) := hL'
  clear hL hL'
  go_enter Tryz.func90, Tryz.ntmps90
  go_wp2_with fail
  go_loopw [5] (fun i wr => ∃ k : Nat, k ≤ L.length ∧ i = .int .i64 k ∧ Below w.heap.size w wr) (fun i _ => L.length - (intOf i).toNat)
  case atStart => exact ⟨0, Nat.zero_le _, rfl, Below.refl _ _⟩
  case round =>
    obtain ⟨k, hk, rfl, hbel⟩ := hrel
    by_cases hlt : k < L.length
    · obtain ⟨b, o, rfl, hb, he⟩ := HL.out k hlt
      obtain ⟨b', o', rfl, hb', he'⟩ := HL'.out k hlt
      obtain ⟨c0, c1, c2, c3, c4⟩ := he.below hb hbel
      obtain ⟨d0, d1, d2, d3, d4⟩ := he'.below hb' hbel
      go_wp2_with fail
      go_region
      go_wp2_with fail
      go_roundw
      case rel => exact ⟨k + 1, by omega, by simp, hbel.drew⟩
      case measure => simp [intOf]; omega
    · go_wp2_with fail
      go_ret
      exact ⟨rfl, hbel⟩

set_option maxRecDepth 100000 in
set_option maxHeartbeats 4000000 in
theorem sameO_yes (L : List Co) (v u : Value) (w : World) (hv : LiesO w v L) (hu : LiesO w u L) :
    Calls Tryz.prog 60 #[v, u] w fun e w' => e = .returned (.bool true) ∧ Below w.heap.size w w' := by
  obtain ⟨a, cap, rfl, hcap, hcap2, hL⟩ := hv
  have HL : Hid (∀ i (h : i < L.length), ∃ b o, a = some ⟨b, o, none⟩ ∧ b < w.heap.size ∧ CoAt w b (o + i * 3) L[i]) := hL
  obtain ⟨a', cap', rfl, hcap', _, hL'⟩ := hu
  have HL' : Hid (∀ i (h : i < L.length), ∃ b o, a' = some ⟨b, o, none⟩ ∧ b < w.heap.size ∧ CoAt w b (o + i * 3) L[i]) := hL'
  clear hL hL'
  go_enter Tryz.func60, Tryz.ntmps60
  go_wp2_with fail
  go_loopw [5] (fun i wr => ∃ k : Nat, k ≤ L.length ∧ i = .int .i64 k ∧ Below w.heap.size w wr) (fun i _ => L.length - (intOf i).toNat)
  case atStart => exact ⟨0, Nat.zero_le _, rfl, Below.refl _ _⟩
  case round =>
    obtain ⟨k, hk, rfl, hbel⟩ := hrel
    by_cases hlt : k < L.length
    · obtain ⟨b, o, rfl, hb, he⟩ := HL.out k hlt
      obtain ⟨b', o', rfl, hb', he'⟩ := HL'.out k hlt
      obtain ⟨c0, c1, x, c2, hx⟩ := he.below hb hbel
      obtain ⟨d0, d1, y, d2, hy⟩ := he'.below hb' hbel
      have hsz := hbel.size
      have hbl : b < wr.heap.size := by omega
      have hbl' : b' < wr.heap.size := by omega
      generalize L[k] = ck at *
      obtain ⟨nu, ke, ch⟩ := ck
      simp only at c0 c1 hx d0 d1 hy
      have HX := hid hx
      have HY := hid hy
      clear hx hy he he'
      go_wp2_with fail
      go_region_held3 (fun W => W.cell? ⟨b, o + k * 3, none⟩ = some (.int .i64 nu) ∧ W.cell? ⟨b, o + k * 3 + 1, none⟩ = some (.string ke) ∧ W.cell? ⟨b, o + k * 3 + 2, none⟩ = some x ∧ W.cell? ⟨b', o' + k * 3, none⟩ = some (.int .i64 nu) ∧ W.cell? ⟨b', o' + k * 3 + 1, none⟩ = some (.string ke) ∧ W.cell? ⟨b', o' + k * 3 + 2, none⟩ = some y) (go_keep) (first
        | (go_at_call 90; refine (sameC_yes ch x y _ (HX.out.below (Below.refl _ _).drew) (HY.out.below (Below.refl _ _).drew)).mono ?_; rintro e wa ⟨rfl, hba⟩; have hza : Below wr.heap.size wr wa := ((Below.refl _ _).drew).trans hba; have j0 := (hza.cell (p := ⟨b, o + k * 3, none⟩) hbl).trans c0; have j1 := (hza.cell (p := ⟨b, o + k * 3 + 1, none⟩) hbl).trans c1; have j2 := (hza.cell (p := ⟨b, o + k * 3 + 2, none⟩) hbl).trans c2; have i0 := (hza.cell (p := ⟨b', o' + k * 3, none⟩) hbl').trans d0; have i1 := (hza.cell (p := ⟨b', o' + k * 3 + 1, none⟩) hbl').trans d1; have i2 := (hza.cell (p := ⟨b', o' + k * 3 + 2, none⟩) hbl').trans d2))
      have hb2 := below_tr hbel hza
      go_wp2_with fail
      go_roundw
      case rel => exact ⟨k + 1, by omega, by simp, hb2⟩
      case measure => simp [intOf]; omega
    · go_wp2_with fail
      go_ret
      exact ⟨rfl, hbel⟩

set_option maxRecDepth 100000 in
set_option maxHeartbeats 2000000 in
theorem sameJ_yes (J : Jo) (v u : Value) (w : World) (hv : LiesJ w v J) (hu : LiesJ w u J) :
    Calls Tryz.prog 32 #[v, u] w fun e w' => e = .returned (.bool true) ∧ Below w.heap.size w w' := by
  obtain ⟨vb, vc, rfl, hvb, hvc⟩ := hv
  obtain ⟨ub, uc, rfl, hub, huc⟩ := hu
  have HVB := hid hvb
  have HVC := hid hvc
  have HUB := hid hub
  have HUC := hid huc
  obtain ⟨a1, b1, rfl, _⟩ := hvb
  obtain ⟨a2, b2, rfl, _⟩ := hvc
  obtain ⟨a3, b3, rfl, _⟩ := hub
  obtain ⟨a4, b4, rfl, _⟩ := huc
  obtain ⟨wz, hwz⟩ : ∃ wz, wz = (w.alloc (.cells #[.slice a1 J.base.length b1, .int .i64 J.first, .slice a2 J.cos.length b2] 59)).alloc (.cells #[.slice a3 J.base.length b3, .int .i64 J.first, .slice a4 J.cos.length b4] 59) := ⟨_, rfl⟩
  have hbz : Below w.heap.size w wz := by rw [hwz]; exact ((Below.refl _ _).alloc (Nat.le_refl _) _).alloc (by simp) _
  have HBX : Hid (Cs wz w.heap.size [.slice a1 J.base.length b1, .int .i64 J.first, .slice a2 J.cos.length b2]) := (by rw [hwz]; exact (Cs.new w [.slice a1 J.base.length b1, .int .i64 J.first, .slice a2 J.cos.length b2] _).below ((Below.refl _ _).alloc (Nat.le_refl _) _) : Cs wz w.heap.size [.slice a1 J.base.length b1, .int .i64 J.first, .slice a2 J.cos.length b2])
  have HBY : Hid (Cs wz (w.heap.size + 1) [.slice a3 J.base.length b3, .int .i64 J.first, .slice a4 J.cos.length b4]) := (by
    have := Cs.new (w.alloc (.cells #[.slice a1 J.base.length b1, .int .i64 J.first, .slice a2 J.cos.length b2] 59)) [.slice a3 J.base.length b3, .int .i64 J.first, .slice a4 J.cos.length b4] 59
    rw [hwz]; simpa using this : Cs wz (w.heap.size + 1) [.slice a3 J.base.length b3, .int .i64 J.first, .slice a4 J.cos.length b4])
  go_enter Tryz.func32, Tryz.ntmps32
  go_wp2_with fail
  rw [← hwz]
  clear hwz
  refine (same_yes J.base _ _ _ (HVB.out.below hbz) (HUB.out.below hbz)).mono ?_
  rintro e w1 ⟨rfl, hb1⟩
  have x1 := (HBX.out.below hb1).cell 1 rfl
  have x2 := (HBX.out.below hb1).cell 2 rfl
  have y1 := (HBY.out.below hb1).cell 1 rfl
  have y2 := (HBY.out.below hb1).cell 2 rfl
  have hb01 := below_tr hbz hb1
  go_wp2_with fail
  refine (sameO_yes J.cos _ _ _ (HVC.out.below hb01) (HUC.out.below hb01)).mono ?_
  rintro e w2 ⟨rfl, hb2⟩
  have hb02 := below_tr hb01 hb2
  go_wp2_with fail
  go_ret
  exact ⟨rfl, hb02⟩

set_option maxRecDepth 100000 in
set_option maxHeartbeats 2000000 in
theorem samePg_yes (P : Pg) (v u : Value) (w : World) (hv : LiesPg w v P) (hu : LiesPg w u P) :
    Calls Tryz.prog 49 #[v, u] w fun e w' => e = .returned (.bool true) ∧ Below w.heap.size w w' := by
  obtain ⟨vb, vc, rfl, hvb, hvc⟩ := hv
  obtain ⟨ub, uc, rfl, hub, huc⟩ := hu
  have HVB := hid hvb
  have HVC := hid hvc
  have HUB := hid hub
  have HUC := hid huc
  obtain ⟨a1, b1, rfl, _⟩ := hvb
  obtain ⟨a2, b2, rfl, _⟩ := hvc
  obtain ⟨a3, b3, rfl, _⟩ := hub
  obtain ⟨a4, b4, rfl, _⟩ := huc
  obtain ⟨wz, hwz⟩ : ∃ wz, wz = (w.alloc (.cells #[.bool P.reset, .slice a1 P.tree.length b1, .slice a2 P.cos.length b2, .int .i64 P.cur, .bool P.more] 44)).alloc (.cells #[.bool P.reset, .slice a3 P.tree.length b3, .slice a4 P.cos.length b4, .int .i64 P.cur, .bool P.more] 44) := ⟨_, rfl⟩
  have hbz : Below w.heap.size w wz := by rw [hwz]; exact ((Below.refl _ _).alloc (Nat.le_refl _) _).alloc (by simp) _
  have HBX : Hid (Cs wz w.heap.size [.bool P.reset, .slice a1 P.tree.length b1, .slice a2 P.cos.length b2, .int .i64 P.cur, .bool P.more]) := (by rw [hwz]; exact (Cs.new w [.bool P.reset, .slice a1 P.tree.length b1, .slice a2 P.cos.length b2, .int .i64 P.cur, .bool P.more] _).below ((Below.refl _ _).alloc (Nat.le_refl _) _) : Cs wz w.heap.size [.bool P.reset, .slice a1 P.tree.length b1, .slice a2 P.cos.length b2, .int .i64 P.cur, .bool P.more])
  have HBY : Hid (Cs wz (w.heap.size + 1) [.bool P.reset, .slice a3 P.tree.length b3, .slice a4 P.cos.length b4, .int .i64 P.cur, .bool P.more]) := (by
    have := Cs.new (w.alloc (.cells #[.bool P.reset, .slice a1 P.tree.length b1, .slice a2 P.cos.length b2, .int .i64 P.cur, .bool P.more] 44)) [.bool P.reset, .slice a3 P.tree.length b3, .slice a4 P.cos.length b4, .int .i64 P.cur, .bool P.more] 44
    rw [hwz]; simpa using this : Cs wz (w.heap.size + 1) [.bool P.reset, .slice a3 P.tree.length b3, .slice a4 P.cos.length b4, .int .i64 P.cur, .bool P.more])
  go_enter Tryz.func49, Tryz.ntmps49
  go_wp2_with fail
  rw [← hwz]
  clear hwz
  refine (same_yes P.tree _ _ _ (HVB.out.below hbz) (HUB.out.below hbz)).mono ?_
  rintro e w1 ⟨rfl, hb1⟩
  have HX1 := hid (HBX.out.below hb1)
  have HY1 := hid (HBY.out.below hb1)
  have x2 := HX1.out.cell 2 rfl
  have y2 := HY1.out.cell 2 rfl
  have hb01 := below_tr hbz hb1
  go_wp2_with fail
  refine (sameO_yes P.cos _ _ _ (HVC.out.below hb01) (HUC.out.below hb01)).mono ?_
  rintro e w2 ⟨rfl, hb2⟩
  have x3 := (HX1.out.below hb2).cell 3 rfl
  have y3 := (HY1.out.below hb2).cell 3 rfl
  have x4 := (HX1.out.below hb2).cell 4 rfl
  have y4 := (HY1.out.below hb2).cell 4 rfl
  have hb02 := below_tr hb01 hb2
  go_wp2_with fail
  go_ret
  exact ⟨rfl, hb02⟩
end Go.Proofs.YtmdkecdhgjjceaaGreat
set_option linter.unusedSimpArgs false
set_option linter.unusedVariables false
namespace Go.Proofs.YtmdkecdhgjjceaaGreat
open Go.RowKit

theorem LiesPg.nb {W W' : World} {v : Value} {P : Pg} {g : Nat} (h : LiesPg W v P) (hw : W.grownBy W' (some g)) (hn : NoStr W g) : LiesPg W' v P := by
  obtain ⟨vt, vc, rfl, h1, h2⟩ := h
  exact ⟨vt, vc, rfl, h1.nb hw hn, h2.nb hw hn⟩
/-- A page's box that is written cell by cell. -/
theorem page_set {W : World} {g : Nat} {v : Value} {P : Pg} {r m r0 m0 : Bool} {x1 x2 z1 z2 : Option Addr} {n1 n2 y1 y2 p1 p2 q1 q2 : Nat} {c k0 : Int} (h : Cs W g [.bool r0, .slice z1 p1 q1, .slice z2 p2 q2, .int .i64 k0, .bool m0]) (hp : LiesPg W v P) :
    Cs (((((W.setCell ⟨g, 0, none⟩ (.bool r)).setCell ⟨g, 1, none⟩ (.slice x1 n1 y1)).setCell ⟨g, 2, none⟩ (.slice x2 n2 y2)).setCell ⟨g, 3, none⟩ (.int .i64 c)).setCell ⟨g, 4, none⟩ (.bool m)) g [.bool r, .slice x1 n1 y1, .slice x2 n2 y2, .int .i64 c, .bool m] ∧
    LiesPg (((((W.setCell ⟨g, 0, none⟩ (.bool r)).setCell ⟨g, 1, none⟩ (.slice x1 n1 y1)).setCell ⟨g, 2, none⟩ (.slice x2 n2 y2)).setCell ⟨g, 3, none⟩ (.int .i64 c)).setCell ⟨g, 4, none⟩ (.bool m)) v P := by
  have h1 := h.set 0 (.bool r)
  have h2 := h1.set 1 (.slice x1 n1 y1)
  have h3 := h2.set 2 (.slice x2 n2 y2)
  have h4 := h3.set 3 (.int .i64 c)
  have h5 := h4.set 4 (.bool m)
  exact ⟨h5, ((((hp.nb (nb_set _ _ _ _) (h.noStr (by intro s hs; simp at hs))).nb (nb_set _ _ _ _) (h1.noStr (by intro s hs; simp at hs))).nb (nb_set _ _ _ _) (h2.noStr (by intro s hs; simp at hs))).nb (nb_set _ _ _ _) (h3.noStr (by intro s hs; simp at hs))).nb (nb_set _ _ _ _) (h4.noStr (by intro s hs; simp at hs))⟩


end Go.Proofs.YtmdkecdhgjjceaaGreat
set_option linter.unusedSimpArgs false
set_option linter.unusedVariables false
namespace Go.Proofs.YtmdkecdhgjjceaaGreat
open Go.RowKit

namespace Jn
theorem run_nums : ∀ {n : Int} {T : List En} {l : List Co}, (runJ n T l).1 = 0 → ∀ (i : Nat) (h : i < l.length), l[i].nu = n + i
  | n, T, [], _, i, h => absurd h (by simp)
  | n, T, c :: r, h, i, hi => by
    rw [runJ] at h
    by_cases h0 : coE c n = 0
    · rw [if_neg (fun x => x h0)] at h
      by_cases h1 : Pp.allE T c.ch c.nu = 0
      · rw [if_neg (fun x => x h1)] at h
        cases i with
        | zero =>
          rw [coE] at h0
          by_cases a : c.nu = n
          · simp [a]
          · rw [if_pos a] at h0; cases h0
        | succ j =>
          have := run_nums h j (by simpa using hi)
          simp only [List.getElem_cons_succ]
          omega
      · rw [if_pos h1] at h; exact absurd h h1
    · rw [if_pos h0] at h; exact absurd h h0
theorem chk_nums {J : Jo} (h : chkE J = 0) (i : Nat) (hi : i < J.cos.length) : J.cos[i].nu = J.first + i := by
  obtain ⟨_, _, _, h4, _⟩ := chk_parts h
  exact run_nums (n := J.first) (T := J.base) (by rw [h4]) i hi
end Jn
end Go.Proofs.YtmdkecdhgjjceaaGreat
set_option linter.unusedSimpArgs false
set_option linter.unusedVariables false
namespace Go.Proofs.YtmdkecdhgjjceaaGreat
open Go.RowKit

theorem ownsRow_shape {w : World} {base : Nat} {e : TypeId} {size : Nat} {v : Value} {n : Nat} {xs : List Value} (h : w.ownsRow base e size v n xs) : ∃ a cap, v = .slice a n cap := by
  obtain ⟨_, h2⟩ := h
  rcases h2 with ⟨rfl, hz⟩ | ⟨g, cap, cur, rfl, _⟩
  · exact ⟨none, 0, by rw [hz]⟩
  · exact ⟨_, cap, rfl⟩
theorem ownsRow_nb {w w' : World} {base : Nat} {e : TypeId} {size : Nat} {v : Value} {n : Nat} {xs : List Value} {g : Nat} (h : w.ownsRow base e size v n xs) (hw : w.grownBy w' (some g)) (hg : g < base) : w'.ownsRow base e size v n xs :=
  h.kept (row := some g) hw (by
    cases hv : v.ownBlock with
    | none => exact Or.inl rfl
    | some q => exact Or.inr (fun he => by injection he with he; have := (h.lt q hv).1; omega))
theorem rowsO_snoc {l : List Co} {us : List Value} (h : us.length = l.length) (c : Co) (u : Value) : rowsO (l ++ [c]) (us ++ [u]) = rowsO l us ++ [rowO c u] := by
  rw [rowsO, rowsO, List.zipWith_append (by omega)]; rfl
theorem ChsAt.snoc {w : World} {l : List Co} {us : List Value} {c : Co} {u : Value} (h : ChsAt w l us) (hu : LiesC w u c.ch) : ChsAt w (l ++ [c]) (us ++ [u]) := by
  obtain ⟨h1, h2⟩ := h
  refine ⟨by simp [h1], fun i d x hd hx => ?_⟩
  by_cases hi : i < l.length
  · rw [List.getElem?_append_left hi] at hd
    rw [List.getElem?_append_left (by omega)] at hx
    exact h2 i d x hd hx
  · rw [List.getElem?_append_right (by omega)] at hd hx
    rw [h1] at hx
    rcases Nat.lt_or_ge (i - l.length) 1 with h3 | h3
    · have : i - l.length = 0 := by omega
      rw [this] at hd hx
      injection hd with hd
      injection hx with hx
      rw [← hd, ← hx]; exact hu
    · rw [List.getElem?_eq_none (by simpa using h3)] at hd; cases hd
theorem rowsO_one {w : World} {l : List Co} {us : List Value} (h : ChsAt w l us) : ∀ r ∈ rowsO l us, r.length = 3 ∧ ∀ u ∈ r, u.oneCell' = true := by
  intro r hr
  obtain ⟨i, hi⟩ := List.getElem?_of_mem hr
  have hil : i < l.length := by
    have := (List.getElem?_eq_some_iff.1 hi).1
    rw [rowsO_len h.1] at this; exact this
  rw [rowsO_at h.1 hil] at hi
  injection hi with hi
  rw [← hi]
  refine ⟨rfl, fun u hu => ?_⟩
  simp only [rowO, List.mem_cons, List.not_mem_nil, or_false] at hu
  rcases hu with rfl | rfl | rfl
  · rfl
  · rfl
  · obtain ⟨_, _, hs, _⟩ := h.2 i _ _ (List.getElem?_eq_getElem hil) (List.getElem?_eq_getElem (by have := h.1; omega))
    rw [hs]; rfl
theorem liesO_owned {w w0 : World} {base : Nat} {T : TypeId} {v : Value} {l : List Co} {us : List Value} {n : Nat} (h : w.ownsRow base T 3 v n (rowsO l us).flatten) (hn : n = l.length) (hl : l.length ≤ 1000000000) (hc : ChsAt w l us) : LiesO w v l := by
  have hr := rowsO_len hc.1
  subst hn
  rw [← hr] at h
  exact liesO_of hc (liesR_own h (by rw [hr]; omega) (rowsO_one hc))
namespace Jn
/-- The first k commits behind the i0 first ones. -/
def pc (J : Jo) (i0 k : Nat) : List Co := (J.cos.drop i0).take (k - i0)
theorem pc_len {J : Jo} {i0 k : Nat} (hk : k ≤ J.cos.length) : (pc J i0 k).length = k - i0 := by rw [pc, List.length_take, List.length_drop]; omega
theorem pc_early {J : Jo} {i0 k : Nat} (h : k < i0) : pc J i0 (k + 1) = pc J i0 k := by rw [pc, pc, show k + 1 - i0 = k - i0 by omega]
theorem pc_snoc {J : Jo} {i0 k : Nat} (h : ¬ k < i0) (hk : k < J.cos.length) : pc J i0 (k + 1) = pc J i0 k ++ [J.cos[k]] := by
  rw [pc, pc, show k + 1 - i0 = k - i0 + 1 by omega, List.take_succ_eq_append_getElem (by rw [List.length_drop]; omega), List.getElem_drop]
  congr 3
  simp only [show i0 + (k - i0) = k by omega]
end Jn

theorem liesP_zero (w : World) : LiesPg w (.agg #[.bool false, .slice none 0 0, .slice none 0 0, .int .i64 0, .bool false]) Jn.zeroP := ⟨_, _, rfl, lies_nil _, liesO_nil _⟩

set_option maxRecDepth 100000 in
set_option maxHeartbeats 16000000 in
theorem readOf_any (J : Jo) (v : Value) (c m : Int) (w : World) (hv : LiesJ w v J) (hp : ∀ e ∈ J.base, e.path.size ≤ 1000000000) (hcs : SizedO 1000000000 J.cos) (h0 : Jn.chkE J = 0) :
    Calls Tryz.prog 42 #[v, .int .i64 c, .int .i64 m] w fun e w' => ∃ r, e = .returned (.tuple #[r, .int .i64 (Jn.rdE J c m)]) ∧ LiesPg w' r (Jn.rdR J c m) ∧ Below w.heap.size w w' := by
  have HV := hid hv
  have HP := hid hp
  have HCS := hid hcs
  obtain ⟨i0, hi0, hz0, hz1, hz2⟩ := info_parts Tryz.infoCo
  obtain ⟨vb, vc, rfl, hvb, hvc⟩ := hv
  obtain ⟨ba, bcap, rfl, _⟩ := hvb
  obtain ⟨ca, ccap, rfl, hccap, hccap2, hC⟩ := hvc
  have HC : Hid (∀ i (h : i < J.cos.length), ∃ b o, ca = some ⟨b, o, none⟩ ∧ b < w.heap.size ∧ CoAt w b (o + i * 3) J.cos[i]) := hC
  clear hp hcs hC
  obtain ⟨wz, hwz⟩ : ∃ wz, wz = (w.alloc (.cells #[.slice ba J.base.length bcap, .int .i64 J.first, .slice ca J.cos.length ccap] 59)).alloc (.cells #[.bool false, .slice none 0 0, .slice none 0 0, .int .i64 0, .bool false] 44) := ⟨_, rfl⟩
  have hbz : Below w.heap.size w wz := by rw [hwz]; exact ((Below.refl _ _).alloc (Nat.le_refl _) _).alloc (by simp) _
  have HBX : Hid (Cs wz w.heap.size [.slice ba J.base.length bcap, .int .i64 J.first, .slice ca J.cos.length ccap]) := (by rw [hwz]; exact (Cs.new w [.slice ba J.base.length bcap, .int .i64 J.first, .slice ca J.cos.length ccap] _).below ((Below.refl _ _).alloc (Nat.le_refl _) _) : Cs wz w.heap.size [.slice ba J.base.length bcap, .int .i64 J.first, .slice ca J.cos.length ccap])
  have HBY : Hid (Cs wz (w.heap.size + 1) [.bool false, .slice none 0 0, .slice none 0 0, .int .i64 0, .bool false]) := (by
    have := Cs.new (w.alloc (.cells #[.slice ba J.base.length bcap, .int .i64 J.first, .slice ca J.cos.length ccap] 59)) [.bool false, .slice none 0 0, .slice none 0 0, .int .i64 0, .bool false] 44
    rw [hwz]; simpa using this : Cs wz (w.heap.size + 1) [.bool false, .slice none 0 0, .slice none 0 0, .int .i64 0, .bool false])
  have hNz := HBY.out.lt
  have H0 := hid h0
  have hpp := Jn.chk_parts h0
  obtain ⟨f1, f2⟩ := Jn.ver_iff.1 hpp.2.1
  have h30 := hpp.2.2.1
  have HNU := hid (Jn.chk_nums h0)
  have hlj : Jn.last J = J.first - 1 + J.cos.length := rfl
  have e1 : IntKind.i64.wrap (J.first + (J.cos.length : Int)) = J.first + J.cos.length := by rw [IntKind.wrap_i64]; omega
  have e2 : IntKind.i64.wrap (J.first + (J.cos.length : Int) - 1) = J.first + J.cos.length - 1 := by rw [IntKind.wrap_i64]; omega
  clear hpp
  by_cases m1 : m < 1
  · have hE := Jn.rd_range (c := c) h0 (Or.inl m1)
    have HE := hid hE
    have HR := hid (Jn.rd_bad hE (by decide))
    clear hE h0
    have y0 := HBY.out.cell 0 rfl
    have y1 := HBY.out.cell 1 rfl
    have y2 := HBY.out.cell 2 rfl
    have y3 := HBY.out.cell 3 rfl
    have y4 := HBY.out.cell 4 rfl
    have g0 := HBY.out.fr 0
    have g1 := HBY.out.fr 1
    have g2 := HBY.out.fr 2
    have g3 := HBY.out.fr 3
    have g4 := HBY.out.fr 4
    go_enter Tryz.func42, Tryz.ntmps42
    go_wp2_with fail
    rw [← hwz]
    clear hwz
    refine bodyPost_ret (v := .tuple #[.agg #[.bool false, .slice none 0 0, .slice none 0 0, .int .i64 0, .bool false], .int .i64 3]) (by simp [results, Tryz.results42, go_sem, y0, y1, y2, y3, y4]) rfl ⟨_, by rw [HE.out], ?_, ?_⟩
    · rw [HR.out]
      exact liesP_zero _
    · exact hbz
  by_cases m2 : 10 < m
  · have hE := Jn.rd_range (c := c) h0 (Or.inr (Or.inl m2))
    have HE := hid hE
    have HR := hid (Jn.rd_bad hE (by decide))
    clear hE h0
    have y0 := HBY.out.cell 0 rfl
    have y1 := HBY.out.cell 1 rfl
    have y2 := HBY.out.cell 2 rfl
    have y3 := HBY.out.cell 3 rfl
    have y4 := HBY.out.cell 4 rfl
    have g0 := HBY.out.fr 0
    have g1 := HBY.out.fr 1
    have g2 := HBY.out.fr 2
    have g3 := HBY.out.fr 3
    have g4 := HBY.out.fr 4
    go_enter Tryz.func42, Tryz.ntmps42
    go_wp2_with fail
    rw [← hwz]
    clear hwz
    refine bodyPost_ret (v := .tuple #[.agg #[.bool false, .slice none 0 0, .slice none 0 0, .int .i64 0, .bool false], .int .i64 3]) (by simp [results, Tryz.results42, go_sem, y0, y1, y2, y3, y4]) rfl ⟨_, by rw [HE.out], ?_, ?_⟩
    · rw [HR.out]
      exact liesP_zero _
    · exact hbz
  by_cases c1 : c < 0
  · have hE := Jn.rd_range (m := m) h0 (Or.inr (Or.inr c1))
    have HE := hid hE
    have HR := hid (Jn.rd_bad hE (by decide))
    clear hE h0
    have y0 := HBY.out.cell 0 rfl
    have y1 := HBY.out.cell 1 rfl
    have y2 := HBY.out.cell 2 rfl
    have y3 := HBY.out.cell 3 rfl
    have y4 := HBY.out.cell 4 rfl
    have g0 := HBY.out.fr 0
    have g1 := HBY.out.fr 1
    have g2 := HBY.out.fr 2
    have g3 := HBY.out.fr 3
    have g4 := HBY.out.fr 4
    go_enter Tryz.func42, Tryz.ntmps42
    go_wp2_with fail
    rw [← hwz]
    clear hwz
    refine bodyPost_ret (v := .tuple #[.agg #[.bool false, .slice none 0 0, .slice none 0 0, .int .i64 0, .bool false], .int .i64 3]) (by simp [results, Tryz.results42, go_sem, y0, y1, y2, y3, y4]) rfl ⟨_, by rw [HE.out], ?_, ?_⟩
    · rw [HR.out]
      exact liesP_zero _
    · exact hbz
  have hok : ¬ (m < 1 ∨ 10 < m ∨ c < 0) := by omega
  by_cases c2 : Jn.last J < c
  · have hE := Jn.rd_none h0 hok c2
    have c2' : J.first + (J.cos.length : Int) - 1 < c := by omega
    clear c2 hlj
    have HE := hid hE
    have HR := hid (Jn.rd_bad hE (by decide))
    clear hE h0
    have y0 := HBY.out.cell 0 rfl
    have y1 := HBY.out.cell 1 rfl
    have y2 := HBY.out.cell 2 rfl
    have y3 := HBY.out.cell 3 rfl
    have y4 := HBY.out.cell 4 rfl
    have g0 := HBY.out.fr 0
    have g1 := HBY.out.fr 1
    have g2 := HBY.out.fr 2
    have g3 := HBY.out.fr 3
    have g4 := HBY.out.fr 4
    go_enter Tryz.func42, Tryz.ntmps42
    go_wp2_with fail
    rw [← hwz]
    clear hwz
    refine bodyPost_ret (v := .tuple #[.agg #[.bool false, .slice none 0 0, .slice none 0 0, .int .i64 0, .bool false], .int .i64 5]) (by simp [results, Tryz.results42, go_sem, y0, y1, y2, y3, y4]) rfl ⟨_, by rw [HE.out], ?_, ?_⟩
    · rw [HR.out]
      exact liesP_zero _
    · exact hbz
  have hE := Jn.rd_ok h0 hok c2
  have c2' : ¬ J.first + (J.cos.length : Int) - 1 < c := by omega
  have e3 : IntKind.i64.wrap (c + 1) = c + 1 := by rw [IntKind.wrap_i64]; omega
  by_cases c3 : c < J.first - 1
  · have HE := hid hE
    have HR : Hid (Jn.rdR J c m = ⟨true, Jn.tree J, [], J.first + J.cos.length - 1, false⟩) := (by rw [Jn.rd_reset hE c3, hlj]; congr 1; omega : Jn.rdR J c m = ⟨true, Jn.tree J, [], J.first + J.cos.length - 1, false⟩)
    have c3' : c + 1 < J.first := by omega
    clear hE h0 hok hlj c2 c3
    go_enter Tryz.func42, Tryz.ntmps42
    go_wp2_with fail
    rw [← hwz]
    clear hwz
    refine (treeOf_any J _ _ (HV.out.below hbz) HP.out HCS.out H0.out).mono ?_
    rintro e w3 ⟨u, rfl, hu, hb3⟩
    have HU := hid hu
    have HY1 := hid (HBY.out.below hb3)
    obtain ⟨ua, ucap, rfl, _⟩ := hu
    have hb03 := below_tr hbz hb3
    have y0 := HY1.out.cell 0 rfl
    have y1 := HY1.out.cell 1 rfl
    have y2 := HY1.out.cell 2 rfl
    have y3 := HY1.out.cell 3 rfl
    have y4 := HY1.out.cell 4 rfl
    have g0 := HY1.out.fr 0
    have g1 := HY1.out.fr 1
    have g2 := HY1.out.fr 2
    have g3 := HY1.out.fr 3
    have g4 := HY1.out.fr 4
    go_wp2_with fail
    refine bodyPost_ret (v := .tuple #[.agg #[.bool true, .slice ua (Jn.tree J).length ucap, .slice none 0 0, .int .i64 (J.first + J.cos.length - 1), .bool false], .int .i64 0]) (by simp [results, Tryz.results42, go_sem, y0, y1, y2, y3, y4]) rfl ⟨_, by rw [HE.out], ?_, ?_⟩
    · rw [HR.out]
      exact (page_set HY1.out (P := ⟨true, Jn.tree J, [], J.first + J.cos.length - 1, false⟩) ⟨_, _, rfl, HU.out, liesO_nil _⟩).2
    · exact (((((hb03.setCell (p := ⟨w.heap.size + 1, 0, none⟩) (Nat.le_succ _) _).setCell (p := ⟨w.heap.size + 1, 1, none⟩) (Nat.le_succ _) _).setCell (p := ⟨w.heap.size + 1, 2, none⟩) (Nat.le_succ _) _).setCell (p := ⟨w.heap.size + 1, 3, none⟩) (Nat.le_succ _) _).setCell (p := ⟨w.heap.size + 1, 4, none⟩) (Nat.le_succ _) _)
  obtain ⟨i, hi⟩ : ∃ i : Nat, c = J.first - 1 + i := ⟨(c - (J.first - 1)).toNat, by omega⟩
  have hil : i ≤ J.cos.length := by omega
  obtain ⟨mm, hmm⟩ : ∃ mm : Nat, m = mm := ⟨m.toNat, by omega⟩
  have c3' : ¬ c + 1 < J.first := by omega
  have HE := hid hE
  have HR : Hid (∀ k : Nat, k ≤ J.cos.length → (k = J.cos.length ∨ k - i = mm) → k - i ≤ mm → Jn.rdR J c m = ⟨false, [], Jn.pc J i k, c + (k - i : Nat), decide (c + (k - i : Nat) < J.first + J.cos.length - 1)⟩) := (by
    intro k hk h1 h2
    have hb : Jn.behind J c = J.cos.drop i := by rw [Jn.behind]; congr 1; omega
    have hf : Jn.few m (J.cos.drop i).length = k - i := by rw [Jn.few, List.length_drop]; omega
    rw [Jn.rd_page hE c3, hb, hf, Jn.pc]
    congr 1
    rw [List.length_drop]
    exact decide_eq_decide.2 (by omega) : ∀ k : Nat, k ≤ J.cos.length → (k = J.cos.length ∨ k - i = mm) → k - i ≤ mm → Jn.rdR J c m = ⟨false, [], Jn.pc J i k, c + (k - i : Nat), decide (c + (k - i : Nat) < J.first + J.cos.length - 1)⟩)
  have HI := hid hi
  have HM := hid hmm
  clear hE h0 hok hlj c2 c3 hi hmm
  obtain ⟨wq, hwq⟩ : ∃ wq, wq = wz.alloc (.cells #[.bool false, .slice none 0 0, .slice none 0 0, .int .i64 c, .bool false] 44) := ⟨_, rfl⟩
  have hbq : Below wz.heap.size wz wq := by rw [hwq]; exact (Below.refl _ _).alloc (Nat.le_refl _) _
  have hsz : wz.heap.size = w.heap.size + 1 + 1 := by rw [hwz]; simp
  have HPX : Hid (Cs wq (w.heap.size + 1 + 1) [.bool false, .slice none 0 0, .slice none 0 0, .int .i64 c, .bool false]) := (by
    have := Cs.new wz [.bool false, .slice none 0 0, .slice none 0 0, .int .i64 c, .bool false] 44
    rw [hsz] at this
    rw [hwq]; exact this : Cs wq (w.heap.size + 1 + 1) [.bool false, .slice none 0 0, .slice none 0 0, .int .i64 c, .bool false])
  have HBX1 := hid (HBX.out.below hbq)
  have HBY1 := hid (HBY.out.below hbq)
  have hb0q := below_tr hbz hbq
  have hszq := HPX.out.lt
  go_enter Tryz.func42, Tryz.ntmps42
  go_wp2_with fail
  rw [← hwz, ← hwq]
  clear hwz hwq hbq hsz
  go_loopw [10] (fun x wr => ∃ (k : Nat) (us : List Value) (va : Value), k ≤ J.cos.length ∧ k - i ≤ mm ∧ x = .int .i64 k ∧ Hid (Cs wr (w.heap.size + 1 + 1) [.bool false, .slice none 0 0, va, .int .i64 (c + (k - i : Nat)), .bool false]) ∧ Hid (wr.ownsRow (w.heap.size + 3) 126 3 va (k - i) (rowsO (Jn.pc J i k) us).flatten) ∧ Hid (ChsAt w (Jn.pc J i k) us) ∧ Hid (Cs wr w.heap.size [.slice ba J.base.length bcap, .int .i64 J.first, .slice ca J.cos.length ccap]) ∧ Hid (Cs wr (w.heap.size + 1) [.bool false, .slice none 0 0, .slice none 0 0, .int .i64 0, .bool false]) ∧ Below w.heap.size w wr) (fun x _ => J.cos.length - (intOf x).toNat)
  case atStart =>
    have hp0 : Jn.pc J i 0 = [] := by rw [Jn.pc, Nat.zero_sub, List.take_zero]
    refine ⟨0, [], .slice none 0 0, Nat.zero_le _, by omega, rfl, ?_, ?_, ?_, HBX1, HBY1, hb0q⟩
    · rw [show c + ((0 - i : Nat) : Int) = c by omega]; exact HPX
    · rw [hp0, Nat.zero_sub]; exact ⟨rfl, Or.inl ⟨rfl, rfl⟩⟩
    · rw [hp0]; exact ⟨rfl, fun i c u hc => by simp at hc⟩
  case round =>
    obtain ⟨k, us, va, hk, hkm, rfl, HPK, HOW, HCH, HBK, HYK, hbel⟩ := hrel
    clear HBX1 HBY1 hb0q HPX HBX HBY
    obtain ⟨pa, pcap, rfl⟩ := ownsRow_shape HOW.out
    have c1' := HBK.out.cell 1 rfl
    have c2'' := HBK.out.cell 2 rfl
    have p2 := HPK.out.cell 2 rfl
    have p3 := HPK.out.cell 3 rfl
    have hszr := HPK.out.lt
    have q2 := HPK.out.fr 2
    have q3 := HPK.out.fr 3
    by_cases hlt : k < J.cos.length
    · obtain ⟨b, o, rfl, hb, he⟩ := HC.out k hlt
      obtain ⟨d0', d1', u, d2', hu⟩ := he
      have d0 := (hbel.cell (p := ⟨b, o + k * 3, none⟩) hb).trans d0'
      have d1 := (hbel.cell (p := ⟨b, o + k * 3 + 1, none⟩) hb).trans d1'
      have d2 := (hbel.cell (p := ⟨b, o + k * 3 + 2, none⟩) hb).trans d2'
      have HU := hid hu
      obtain ⟨ua, ucap, rfl, _⟩ := hu
      by_cases hkm2 : k - i < mm
      · have hltm : ((k - i : Nat) : Int) < m := by rw [HM.out]; omega
        by_cases hki : k < i
        · have hno : ¬ c < J.cos[k].nu := by rw [HNU.out k hlt, HI.out]; omega
          have HK1 : Hid (k + 1 - i = k - i) := (by omega : k + 1 - i = k - i)
          have HPE := hid (Jn.pc_early (J := J) hki)
          generalize J.cos[k] = ck at *
          obtain ⟨nu, ke, ch⟩ := ck
          simp only at d0 d1 d2 hno
          go_wp2_with fail
          go_roundw
          case rel => exact ⟨k + 1, us, _, by omega, by omega, by simp, by rw [HK1.out]; exact HPK, by rw [HK1.out, HPE.out]; exact HOW, by rw [HPE.out]; exact HCH, HBK, HYK, hbel⟩
          case measure => simp [intOf]; omega
        · have hno : c < J.cos[k].nu := by rw [HNU.out k hlt, HI.out]; omega
          have HNK : Hid (J.cos[k].nu = c + (k + 1 - i : Nat)) := (by rw [HNU.out k hlt, HI.out]; omega : J.cos[k].nu = c + (k + 1 - i : Nat))
          have HK1 : Hid (k + 1 - i = k - i + 1) := (by omega : k + 1 - i = k - i + 1)
          have HPE := hid (Jn.pc_snoc (J := J) hki hlt)
          have HPL := hid (Jn.pc_len (J := J) (i0 := i) hk)
          have HD0 := hid d0'
          clear d0' d1' d2'
          generalize J.cos[k] = ck at *
          obtain ⟨nu, ke, ch⟩ := ck
          simp only at d0 d1 d2 hno
          have hbw : b < wr.heap.size := Nat.lt_of_lt_of_le hb hbel.size
          have hbn : Below wr.heap.size wr (wr.drew.alloc (.cells #[.int .i64 nu, .string ke, .slice ua ch.length ucap] 126)) := ((Below.refl _ _).drew).alloc (Nat.le_refl _) _
          have HOW2 := hid (ownsRow_below HOW.out hbn)
          have HNE : Hid (∀ j y, [.int .i64 nu, .string ke, .slice ua ch.length ucap][j]? = some y → (wr.drew.alloc (.cells #[.int .i64 nu, .string ke, .slice ua ch.length ucap] 126)).cell? ((⟨wr.heap.size, 0, none⟩ : Addr).add j) = some y) := (fun j y hj => by
            rw [Addr.add_lit, Nat.zero_add]
            exact (Cs.new wr.drew [.int .i64 nu, .string ke, .slice ua ch.length ucap] 126).cell j hj : _)
          have HON : Hid (∀ u ∈ [Value.int .i64 nu, .string ke, .slice ua ch.length ucap], u.oneCell' = true) := (fun u hu => by simp at hu; rcases hu with rfl | rfl | rfl <;> rfl : ∀ u ∈ [Value.int .i64 nu, .string ke, .slice ua ch.length ucap], u.oneCell' = true)
          have hki10 : k - i ≤ 30 := by omega
          go_wp2_with fail
          go_region_law (refine step_append_own rfl (.tmp 67) (.tmp 73) 42 rfl (w.heap.size + 3) 126 i0 (.agg #[.int .i64 0, .string ⟨#[]⟩, .slice none 0 0]) 3 48 Tryz.underlying42 hi0 hz0 hz1 hz2 rfl (by decide) (.slice pa (k - i) pcap) (k - i) _ (by simp [Act.eval, Act.put]) HOW2.out ⟨wr.heap.size, 0, none⟩ 1 1 [.int .i64 nu, .string ke, .slice ua ch.length ucap] (by simp [Act.eval, Act.put]) rfl HNE.out HON.out (by unfold maxLen; omega) (by omega) (by simp; omega) ?_; intro v2 w2 ho2 hgr2 _; obtain ⟨a2, cap2, rfl⟩ := ownsRow_shape ho2; have HO3 := hid ho2; have HPK2 := hid ((HPK.out.below hbn).row hgr2 (fun g hg => by have := (HOW2.out.lt g hg).1; omega)); have HBK2 := hid ((HBK.out.below hbn).row hgr2 (fun g hg => by have := (HOW2.out.lt g hg).1; omega)); have HYK2 := hid ((HYK.out.below hbn).row hgr2 (fun g hg => by have := (HOW2.out.lt g hg).1; omega)); have hb02 : Below w.heap.size w w2 := ((below_tr hbel hbn).grown hgr2 (by simp; omega) (fun g hg => by have := (HOW2.out.lt g hg).1; omega)); have s2 := HPK2.out.cell 2 rfl; have s3 := HPK2.out.cell 3 rfl; have t2 := HPK2.out.fr 2; have t3 := HPK2.out.fr 3; have r2 := HBK2.out.cell 2 rfl; clear d0 d1 d2; have d0 := (hb02.cell (p := ⟨b, o + k * 3, none⟩) hb).trans HD0.out; clear ho2 hgr2)
          all_goals
            go_wp2_with fail
            go_roundw
            case rel =>
              have hne0 : w.heap.size ≠ w.heap.size + 1 + 1 := by omega
              have hne1 : w.heap.size + 1 ≠ w.heap.size + 1 + 1 := by omega
              have hle : w.heap.size ≤ w.heap.size + 1 + 1 := by omega
              refine ⟨k + 1, us ++ [.slice ua ch.length ucap], .slice a2 (k - i + 1) cap2, by omega, by omega, by simp, ?_, ?_, ?_, (HBK2.out.nb (nb_set _ _ _ _) hne0).nb (nb_set _ _ _ _) hne0, (HYK2.out.nb (nb_set _ _ _ _) hne1).nb (nb_set _ _ _ _) hne1, (hb02.setCell (p := ⟨w.heap.size + 1 + 1, 2, none⟩) hle _).setCell (p := ⟨w.heap.size + 1 + 1, 3, none⟩) hle _⟩
              · rw [← HNK.out]; exact (HPK2.out.set 2 _).set 3 _
              · have h5 := ownsRow_nb (ownsRow_nb HO3.out (nb_set w2 (w.heap.size + 1 + 1) 2 (.slice a2 (k - i + 1) cap2)) (by omega)) (nb_set _ (w.heap.size + 1 + 1) 3 (.int .i64 nu)) (by omega)
                rw [HK1.out, HPE.out, rowsO_snoc HCH.out.1, List.flatten_append]
                exact hid (by simpa [rowO] using h5)
              · rw [HPE.out]; exact HCH.out.snoc HU.out
            case measure => simp [intOf]; omega
      · have hltm : ¬ ((k - i : Nat) : Int) < m := by rw [HM.out]; omega
        clear d0' d1' d2' d0 d1 d2 HU
        have p0 := HPK.out.cell 0 rfl
        have p1 := HPK.out.cell 1 rfl
        have p4 := HPK.out.cell 4 rfl
        have q4 := HPK.out.fr 4
        have y0 := HYK.out.cell 0 rfl
        have y1 := HYK.out.cell 1 rfl
        have y2 := HYK.out.cell 2 rfl
        have y3 := HYK.out.cell 3 rfl
        have y4 := HYK.out.cell 4 rfl
        have g0 := HYK.out.fr 0
        have g1 := HYK.out.fr 1
        have g2 := HYK.out.fr 2
        have g3 := HYK.out.fr 3
        have g4 := HYK.out.fr 4
        have HRK := hid (HR.out k hk (Or.inr (by omega)) hkm)
        have HPL := hid (Jn.pc_len (J := J) (i0 := i) hk)
        go_wp2_with fail
        have hle11 : w.heap.size ≤ w.heap.size + 1 + 1 := by omega
        have HOF := hid (ownsRow_nb (ownsRow_nb (ownsRow_nb (ownsRow_nb (ownsRow_nb (ownsRow_nb HOW.out (nb_set wr (w.heap.size + 1 + 1) 4 (.bool (decide (c + ((k - i : Nat) : Int) < J.first + (J.cos.length : Int) - 1)))) (by omega)) (nb_set _ (w.heap.size + 1) 0 (.bool false)) (by omega)) (nb_set _ (w.heap.size + 1) 1 (.slice none 0 0)) (by omega)) (nb_set _ (w.heap.size + 1) 2 (.slice pa (k - i) pcap)) (by omega)) (nb_set _ (w.heap.size + 1) 3 (.int .i64 (c + ((k - i : Nat) : Int)))) (by omega)) (nb_set _ (w.heap.size + 1) 4 (.bool (decide (c + ((k - i : Nat) : Int) < J.first + (J.cos.length : Int) - 1)))) (by omega))
        have hbf := (((((hbel.setCell (p := ⟨w.heap.size + 1 + 1, 4, none⟩) hle11 (.bool (decide (c + ((k - i : Nat) : Int) < J.first + (J.cos.length : Int) - 1)))).setCell (p := ⟨w.heap.size + 1, 0, none⟩) (Nat.le_succ _) (.bool false)).setCell (p := ⟨w.heap.size + 1, 1, none⟩) (Nat.le_succ _) (.slice none 0 0)).setCell (p := ⟨w.heap.size + 1, 2, none⟩) (Nat.le_succ _) (.slice pa (k - i) pcap)).setCell (p := ⟨w.heap.size + 1, 3, none⟩) (Nat.le_succ _) (.int .i64 (c + ((k - i : Nat) : Int)))).setCell (p := ⟨w.heap.size + 1, 4, none⟩) (Nat.le_succ _) (.bool (decide (c + ((k - i : Nat) : Int) < J.first + (J.cos.length : Int) - 1)))
        refine bodyPost_ret (v := .tuple #[.agg #[.bool false, .slice none 0 0, .slice pa (k - i) pcap, .int .i64 (c + ((k - i : Nat) : Int)), .bool (decide (c + ((k - i : Nat) : Int) < J.first + (J.cos.length : Int) - 1))], .int .i64 0]) (by simp [results, Tryz.results42, go_sem, y0, y1, y2, y3, y4]) rfl ⟨_, by rw [HE.out], ?_, hbf⟩
        rw [HRK.out]
        exact ⟨_, _, rfl, lies_nil _, liesO_owned (w0 := w) HOF.out HPL.out.symm (by rw [HPL.out]; omega) (HCH.out.below hbf)⟩
    · have HK2 : Hid (k = J.cos.length) := (by omega : k = J.cos.length)
      have hlt2 : ¬ (k : Int) < (J.cos.length : Int) := by omega
      have p0 := HPK.out.cell 0 rfl
      have p1 := HPK.out.cell 1 rfl
      have p4 := HPK.out.cell 4 rfl
      have q4 := HPK.out.fr 4
      have y0 := HYK.out.cell 0 rfl
      have y1 := HYK.out.cell 1 rfl
      have y2 := HYK.out.cell 2 rfl
      have y3 := HYK.out.cell 3 rfl
      have y4 := HYK.out.cell 4 rfl
      have g0 := HYK.out.fr 0
      have g1 := HYK.out.fr 1
      have g2 := HYK.out.fr 2
      have g3 := HYK.out.fr 3
      have g4 := HYK.out.fr 4
      have HRK := hid (HR.out k hk (Or.inl HK2.out) hkm)
      have HPL := hid (Jn.pc_len (J := J) (i0 := i) hk)
      go_wp2_with fail
      have hle11 : w.heap.size ≤ w.heap.size + 1 + 1 := by omega
      have HOF := hid (ownsRow_nb (ownsRow_nb (ownsRow_nb (ownsRow_nb (ownsRow_nb (ownsRow_nb HOW.out (nb_set wr (w.heap.size + 1 + 1) 4 (.bool (decide (c + ((k - i : Nat) : Int) < J.first + (J.cos.length : Int) - 1)))) (by omega)) (nb_set _ (w.heap.size + 1) 0 (.bool false)) (by omega)) (nb_set _ (w.heap.size + 1) 1 (.slice none 0 0)) (by omega)) (nb_set _ (w.heap.size + 1) 2 (.slice pa (k - i) pcap)) (by omega)) (nb_set _ (w.heap.size + 1) 3 (.int .i64 (c + ((k - i : Nat) : Int)))) (by omega)) (nb_set _ (w.heap.size + 1) 4 (.bool (decide (c + ((k - i : Nat) : Int) < J.first + (J.cos.length : Int) - 1)))) (by omega))
      have hbf := (((((hbel.setCell (p := ⟨w.heap.size + 1 + 1, 4, none⟩) hle11 (.bool (decide (c + ((k - i : Nat) : Int) < J.first + (J.cos.length : Int) - 1)))).setCell (p := ⟨w.heap.size + 1, 0, none⟩) (Nat.le_succ _) (.bool false)).setCell (p := ⟨w.heap.size + 1, 1, none⟩) (Nat.le_succ _) (.slice none 0 0)).setCell (p := ⟨w.heap.size + 1, 2, none⟩) (Nat.le_succ _) (.slice pa (k - i) pcap)).setCell (p := ⟨w.heap.size + 1, 3, none⟩) (Nat.le_succ _) (.int .i64 (c + ((k - i : Nat) : Int)))).setCell (p := ⟨w.heap.size + 1, 4, none⟩) (Nat.le_succ _) (.bool (decide (c + ((k - i : Nat) : Int) < J.first + (J.cos.length : Int) - 1)))
      refine bodyPost_ret (v := .tuple #[.agg #[.bool false, .slice none 0 0, .slice pa (k - i) pcap, .int .i64 (c + ((k - i : Nat) : Int)), .bool (decide (c + ((k - i : Nat) : Int) < J.first + (J.cos.length : Int) - 1))], .int .i64 0]) (by simp [results, Tryz.results42, go_sem, y0, y1, y2, y3, y4]) rfl ⟨_, by rw [HE.out], ?_, hbf⟩
      rw [HRK.out]
      exact ⟨_, _, rfl, lies_nil _, liesO_owned (w0 := w) HOF.out HPL.out.symm (by rw [HPL.out]; omega) (HCH.out.below hbf)⟩
end Go.Proofs.YtmdkecdhgjjceaaGreat
