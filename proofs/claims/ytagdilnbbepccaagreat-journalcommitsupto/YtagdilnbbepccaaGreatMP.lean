/- What the reference's SameChanges, SameCommits, SameJournal and SamePage answer, of the same ones. Follow as plain mathematics. -/
import Derived.Test.YtagdilnbbepccaaGreatMN
import Derived.Deep.RegionHeld3
set_option linter.unusedSimpArgs false
set_option linter.unusedVariables false
namespace Go.Proofs.YtagdilnbbepccaaGreat
open Go.RowKit

set_option maxHeartbeats 1000000 in
theorem sameC_yes (L : List Pp.Ch) (v u : Value) (w : World) (hv : LiesC w v L) (hu : LiesC w u L) :
    Calls Tryz.prog 54 #[v, u] w fun e w' => e = .returned (.bool true) ∧ Below w.heap.size w w' := by
  obtain ⟨a, cap, rfl, hcap, hcap2, hL⟩ := hv
  have HL : Hid (∀ i (h : i < L.length), ∃ b o, a = some ⟨b, o, none⟩ ∧ b < w.heap.size ∧ ChAt w b (o + i * 5) L[i]) := hL
  obtain ⟨a', cap', rfl, hcap', _, hL'⟩ := hu
  have HL' : Hid (∀ i (h : i < L.length), ∃ b o, a' = some ⟨b, o, none⟩ ∧ b < w.heap.size ∧ ChAt w b (o + i * 5) L[i]) := hL'
  clear hL hL'
  go_enter Tryz.func54, Tryz.ntmps54
  go_wp2_with fail
  go_loopw [5] (fun i wr => ∃ k : Nat, k ≤ L.length ∧ i = .int .i64 k ∧ Below w.heap.size w wr) (fun i _ => L.length - (intOf i).toNat)
  case atStart => exact ⟨0, Nat.zero_le _, rfl, Below.refl _ _⟩
  case round =>
    obtain ⟨k, hk, rfl, hbel⟩ := hrel
    by_cases hlt : k < L.length
    · obtain ⟨b, o, rfl, hb, he⟩ := HL.out k hlt
      obtain ⟨b', o', rfl, hb', he'⟩ := HL'.out k hlt
      obtain ⟨c0, c1, c2, c3, c4⟩ := he.below hb hbel
      obtain ⟨d0, d1, d2, d3, d4⟩ := he'.below hb' hbel
      go_wp2_with fail
      go_region
      go_wp2_with fail
      go_roundw
      case rel => exact ⟨k + 1, by omega, by simp, hbel.drew⟩
      case measure => simp [intOf]; omega
    · go_wp2_with fail
      go_ret
      exact ⟨rfl, hbel⟩

set_option maxRecDepth 100000 in
set_option maxHeartbeats 4000000 in
theorem sameO_yes (L : List Co) (v u : Value) (w : World) (hv : LiesO w v L) (hu : LiesO w u L) :
    Calls Tryz.prog 35 #[v, u] w fun e w' => e = .returned (.bool true) ∧ Below w.heap.size w w' := by
  obtain ⟨a, cap, rfl, hcap, hcap2, hL⟩ := hv
  have HL : Hid (∀ i (h : i < L.length), ∃ b o, a = some ⟨b, o, none⟩ ∧ b < w.heap.size ∧ CoAt w b (o + i * 3) L[i]) := hL
  obtain ⟨a', cap', rfl, hcap', _, hL'⟩ := hu
  have HL' : Hid (∀ i (h : i < L.length), ∃ b o, a' = some ⟨b, o, none⟩ ∧ b < w.heap.size ∧ CoAt w b (o + i * 3) L[i]) := hL'
  clear hL hL'
  go_enter Tryz.func35, Tryz.ntmps35
  go_wp2_with fail
  go_loopw [5] (fun i wr => ∃ k : Nat, k ≤ L.length ∧ i = .int .i64 k ∧ Below w.heap.size w wr) (fun i _ => L.length - (intOf i).toNat)
  case atStart => exact ⟨0, Nat.zero_le _, rfl, Below.refl _ _⟩
  case round =>
    obtain ⟨k, hk, rfl, hbel⟩ := hrel
    by_cases hlt : k < L.length
    · obtain ⟨b, o, rfl, hb, he⟩ := HL.out k hlt
      obtain ⟨b', o', rfl, hb', he'⟩ := HL'.out k hlt
      obtain ⟨c0, c1, x, c2, hx⟩ := he.below hb hbel
      obtain ⟨d0, d1, y, d2, hy⟩ := he'.below hb' hbel
      have hsz := hbel.size
      have hbl : b < wr.heap.size := by omega
      have hbl' : b' < wr.heap.size := by omega
      generalize L[k] = ck at *
      obtain ⟨nu, ke, ch⟩ := ck
      simp only at c0 c1 hx d0 d1 hy
      have HX := hid hx
      have HY := hid hy
      clear hx hy he he'
      go_wp2_with fail
      go_region_held3 (fun W => W.cell? ⟨b, o + k * 3, none⟩ = some (.int .i64 nu) ∧ W.cell? ⟨b, o + k * 3 + 1, none⟩ = some (.string ke) ∧ W.cell? ⟨b, o + k * 3 + 2, none⟩ = some x ∧ W.cell? ⟨b', o' + k * 3, none⟩ = some (.int .i64 nu) ∧ W.cell? ⟨b', o' + k * 3 + 1, none⟩ = some (.string ke) ∧ W.cell? ⟨b', o' + k * 3 + 2, none⟩ = some y) (go_keep) (first
        | (go_at_call 54; refine (sameC_yes ch x y _ (HX.out.below (Below.refl _ _).drew) (HY.out.below (Below.refl _ _).drew)).mono ?_; rintro e wa ⟨rfl, hba⟩; have hza : Below wr.heap.size wr wa := ((Below.refl _ _).drew).trans hba; have j0 := (hza.cell (p := ⟨b, o + k * 3, none⟩) hbl).trans c0; have j1 := (hza.cell (p := ⟨b, o + k * 3 + 1, none⟩) hbl).trans c1; have j2 := (hza.cell (p := ⟨b, o + k * 3 + 2, none⟩) hbl).trans c2; have i0 := (hza.cell (p := ⟨b', o' + k * 3, none⟩) hbl').trans d0; have i1 := (hza.cell (p := ⟨b', o' + k * 3 + 1, none⟩) hbl').trans d1; have i2 := (hza.cell (p := ⟨b', o' + k * 3 + 2, none⟩) hbl').trans d2))
      have hb2 := below_tr hbel hza
      go_wp2_with fail
      go_roundw
      case rel => exact ⟨k + 1, by omega, by simp, hb2⟩
      case measure => simp [intOf]; omega
    · go_wp2_with fail
      go_ret
      exact ⟨rfl, hbel⟩

set_option maxRecDepth 100000 in
set_option maxHeartbeats 2000000 in
theorem sameJ_yes (J : Jo) (v u : Value) (w : World) (hv : LiesJ w v J) (hu : LiesJ w u J) :
    Calls Tryz.prog 17 #[v, u] w fun e w' => e = .returned (.bool true) ∧ Below w.heap.size w w' := by
  obtain ⟨vb, vc, rfl, hvb, hvc⟩ := hv
  obtain ⟨ub, uc, rfl, hub, huc⟩ := hu
  have HVB := hid hvb
  have HVC := hid hvc
  have HUB := hid hub
  have HUC := hid huc
  obtain ⟨a1, b1, rfl, _⟩ := hvb
  obtain ⟨a2, b2, rfl, _⟩ := hvc
  obtain ⟨a3, b3, rfl, _⟩ := hub
  obtain ⟨a4, b4, rfl, _⟩ := huc
  obtain ⟨wz, hwz⟩ : ∃ wz, wz = (w.alloc (.cells #[.slice a1 J.base.length b1, .int .i64 J.first, .slice a2 J.cos.length b2] 25)).alloc (.cells #[.slice a3 J.base.length b3, .int .i64 J.first, .slice a4 J.cos.length b4] 25) := ⟨_, rfl⟩
  have hbz : Below w.heap.size w wz := by rw [hwz]; exact ((Below.refl _ _).alloc (Nat.le_refl _) _).alloc (by simp) _
  have HBX : Hid (Cs wz w.heap.size [.slice a1 J.base.length b1, .int .i64 J.first, .slice a2 J.cos.length b2]) := (by rw [hwz]; exact (Cs.new w [.slice a1 J.base.length b1, .int .i64 J.first, .slice a2 J.cos.length b2] _).below ((Below.refl _ _).alloc (Nat.le_refl _) _) : Cs wz w.heap.size [.slice a1 J.base.length b1, .int .i64 J.first, .slice a2 J.cos.length b2])
  have HBY : Hid (Cs wz (w.heap.size + 1) [.slice a3 J.base.length b3, .int .i64 J.first, .slice a4 J.cos.length b4]) := (by
    have := Cs.new (w.alloc (.cells #[.slice a1 J.base.length b1, .int .i64 J.first, .slice a2 J.cos.length b2] 25)) [.slice a3 J.base.length b3, .int .i64 J.first, .slice a4 J.cos.length b4] 25
    rw [hwz]; simpa using this : Cs wz (w.heap.size + 1) [.slice a3 J.base.length b3, .int .i64 J.first, .slice a4 J.cos.length b4])
  go_enter Tryz.func17, Tryz.ntmps17
  go_wp2_with fail
  rw [← hwz]
  clear hwz
  refine (same_yes J.base _ _ _ (HVB.out.below hbz) (HUB.out.below hbz)).mono ?_
  rintro e w1 ⟨rfl, hb1⟩
  have x1 := (HBX.out.below hb1).cell 1 rfl
  have x2 := (HBX.out.below hb1).cell 2 rfl
  have y1 := (HBY.out.below hb1).cell 1 rfl
  have y2 := (HBY.out.below hb1).cell 2 rfl
  have hb01 := below_tr hbz hb1
  go_wp2_with fail
  refine (sameO_yes J.cos _ _ _ (HVC.out.below hb01) (HUC.out.below hb01)).mono ?_
  rintro e w2 ⟨rfl, hb2⟩
  have hb02 := below_tr hb01 hb2
  go_wp2_with fail
  go_ret
  exact ⟨rfl, hb02⟩

set_option maxRecDepth 100000 in
set_option maxHeartbeats 2000000 in
theorem samePg_yes (P : Pg) (v u : Value) (w : World) (hv : LiesP w v P) (hu : LiesP w u P) :
    Calls Tryz.prog 20 #[v, u] w fun e w' => e = .returned (.bool true) ∧ Below w.heap.size w w' := by
  obtain ⟨vb, vc, rfl, hvb, hvc⟩ := hv
  obtain ⟨ub, uc, rfl, hub, huc⟩ := hu
  have HVB := hid hvb
  have HVC := hid hvc
  have HUB := hid hub
  have HUC := hid huc
  obtain ⟨a1, b1, rfl, _⟩ := hvb
  obtain ⟨a2, b2, rfl, _⟩ := hvc
  obtain ⟨a3, b3, rfl, _⟩ := hub
  obtain ⟨a4, b4, rfl, _⟩ := huc
  obtain ⟨wz, hwz⟩ : ∃ wz, wz = (w.alloc (.cells #[.bool P.reset, .slice a1 P.tree.length b1, .slice a2 P.cos.length b2, .int .i64 P.cur, .bool P.more] 40)).alloc (.cells #[.bool P.reset, .slice a3 P.tree.length b3, .slice a4 P.cos.length b4, .int .i64 P.cur, .bool P.more] 40) := ⟨_, rfl⟩
  have hbz : Below w.heap.size w wz := by rw [hwz]; exact ((Below.refl _ _).alloc (Nat.le_refl _) _).alloc (by simp) _
  have HBX : Hid (Cs wz w.heap.size [.bool P.reset, .slice a1 P.tree.length b1, .slice a2 P.cos.length b2, .int .i64 P.cur, .bool P.more]) := (by rw [hwz]; exact (Cs.new w [.bool P.reset, .slice a1 P.tree.length b1, .slice a2 P.cos.length b2, .int .i64 P.cur, .bool P.more] _).below ((Below.refl _ _).alloc (Nat.le_refl _) _) : Cs wz w.heap.size [.bool P.reset, .slice a1 P.tree.length b1, .slice a2 P.cos.length b2, .int .i64 P.cur, .bool P.more])
  have HBY : Hid (Cs wz (w.heap.size + 1) [.bool P.reset, .slice a3 P.tree.length b3, .slice a4 P.cos.length b4, .int .i64 P.cur, .bool P.more]) := (by
    have := Cs.new (w.alloc (.cells #[.bool P.reset, .slice a1 P.tree.length b1, .slice a2 P.cos.length b2, .int .i64 P.cur, .bool P.more] 40)) [.bool P.reset, .slice a3 P.tree.length b3, .slice a4 P.cos.length b4, .int .i64 P.cur, .bool P.more] 40
    rw [hwz]; simpa using this : Cs wz (w.heap.size + 1) [.bool P.reset, .slice a3 P.tree.length b3, .slice a4 P.cos.length b4, .int .i64 P.cur, .bool P.more])
  go_enter Tryz.func20, Tryz.ntmps20
  go_wp2_with fail
  rw [← hwz]
  clear hwz
  refine (same_yes P.tree _ _ _ (HVB.out.below hbz) (HUB.out.below hbz)).mono ?_
  rintro e w1 ⟨rfl, hb1⟩
  have HX1 := hid (HBX.out.below hb1)
  have HY1 := hid (HBY.out.below hb1)
  have x2 := HX1.out.cell 2 rfl
  have y2 := HY1.out.cell 2 rfl
  have hb01 := below_tr hbz hb1
  go_wp2_with fail
  refine (sameO_yes P.cos _ _ _ (HVC.out.below hb01) (HUC.out.below hb01)).mono ?_
  rintro e w2 ⟨rfl, hb2⟩
  have x3 := (HX1.out.below hb2).cell 3 rfl
  have y3 := (HY1.out.below hb2).cell 3 rfl
  have x4 := (HX1.out.below hb2).cell 4 rfl
  have y4 := (HY1.out.below hb2).cell 4 rfl
  have hb02 := below_tr hb01 hb2
  go_wp2_with fail
  go_ret
  exact ⟨rfl, hb02⟩
end Go.Proofs.YtagdilnbbepccaaGreat
set_option linter.unusedSimpArgs false
set_option linter.unusedVariables false
namespace Go.Proofs.YtagdilnbbepccaaGreat
open Go.RowKit

namespace Jn
def curE (c : Int) : Int := if c < 0 ∨ 1000000 < c then 3 else 0
def knE (T : List En) (c : Int) : Int := if ¬ Pp.treeE T = 0 then Pp.treeE T else curE c
/-- Are the numbers of commits one more each than a cursor? -/
def numsB : Int → List Co → Bool
  | _, [] => true
  | c, x :: r => x.nu == c + 1 && numsB (c + 1) r
def onE (P : Pg) (c : Int) : Int := if ¬ P.tree = [] then 1 else if 10 < P.cos.length then 2 else if numsB c P.cos = true then (if P.cur = c + P.cos.length then 0 else 4) else 4
/-- Commit by commit. -/
def folF : List En → List Co → Int × List En
  | T, [] => (0, T)
  | T, x :: r => if Pp.allE T x.ch x.nu = 0 then folF (Pp.allR T x.ch x.nu) r else (Pp.allE T x.ch x.nu, [])
def rstE (P : Pg) : Int := if ¬ knE P.tree P.cur = 0 then knE P.tree P.cur else if 0 < P.cos.length ∨ P.more = true then 1 else 0
def folE (T : List En) (c : Int) (P : Pg) : Int := if ¬ knE T c = 0 then knE T c else if P.reset = true then rstE P else if ¬ onE P c = 0 then onE P c else (folF T P.cos).1
def folR (T : List En) (c : Int) (P : Pg) : List En := if ¬ folE T c P = 0 then [] else if P.reset = true then P.tree else (folF T P.cos).2
def folN (T : List En) (c : Int) (P : Pg) : Int := if ¬ folE T c P = 0 then 0 else P.cur
theorem kn_tree {T : List En} {c : Int} (h : ¬ Pp.treeE T = 0) : knE T c = Pp.treeE T := if_pos h
theorem kn_cur {T : List En} {c : Int} (h : Pp.treeE T = 0) : knE T c = curE c := if_neg (fun x => x h)
theorem kn_zero {T : List En} {c : Int} (h : knE T c = 0) : Pp.treeE T = 0 ∧ 0 ≤ c ∧ c ≤ 1000000 := by
  by_cases ht : Pp.treeE T = 0
  · rw [kn_cur ht, curE] at h
    split at h
    · cases h
    · exact ⟨ht, by omega⟩
  · rw [kn_tree ht] at h; exact absurd h ht
theorem fol_bad {T : List En} {c e : Int} {P : Pg} (h : folE T c P = e) (he : ¬ e = 0) : folR T c P = [] ∧ folN T c P = 0 := ⟨by rw [folR, h, if_pos he], by rw [folN, h, if_pos he]⟩
theorem fol_kn {T : List En} {c : Int} {P : Pg} (h : ¬ knE T c = 0) : folE T c P = knE T c := if_pos h
theorem fol_reset {T : List En} {c : Int} {P : Pg} (h : knE T c = 0) (hr : P.reset = true) : folE T c P = rstE P := by rw [folE, if_neg (fun x => x h), if_pos hr]
theorem fol_on {T : List En} {c : Int} {P : Pg} (h : knE T c = 0) (hr : P.reset = false) (ho : ¬ onE P c = 0) : folE T c P = onE P c := by rw [folE, if_neg (fun x => x h), if_neg (by simp [hr]), if_pos ho]
theorem fol_run {T : List En} {c : Int} {P : Pg} (h : knE T c = 0) (hr : P.reset = false) (ho : onE P c = 0) : folE T c P = (folF T P.cos).1 := by rw [folE, if_neg (fun x => x h), if_neg (by simp [hr]), if_neg (fun x => x ho)]
theorem fol_okR {T : List En} {c : Int} {P : Pg} (h : folE T c P = 0) (hr : P.reset = true) : folR T c P = P.tree ∧ folN T c P = P.cur := ⟨by rw [folR, if_neg (fun x => x h), if_pos hr], by rw [folN, if_neg (fun x => x h)]⟩
theorem fol_okF {T : List En} {c : Int} {P : Pg} (h : folE T c P = 0) (hr : P.reset = false) : folR T c P = (folF T P.cos).2 ∧ folN T c P = P.cur := ⟨by rw [folR, if_neg (fun x => x h), if_neg (by simp [hr])], by rw [folN, if_neg (fun x => x h)]⟩
theorem rst_kn {P : Pg} (h : ¬ knE P.tree P.cur = 0) : rstE P = knE P.tree P.cur := if_pos h
theorem rst_form {P : Pg} (h : knE P.tree P.cur = 0) (h1 : 0 < P.cos.length ∨ P.more = true) : rstE P = 1 := by rw [rstE, if_neg (fun x => x h), if_pos h1]
theorem rst_ok {P : Pg} (h : knE P.tree P.cur = 0) (h1 : ¬ (0 < P.cos.length ∨ P.more = true)) : rstE P = 0 := by rw [rstE, if_neg (fun x => x h), if_neg h1]
/-- What is left of the numbers. -/
def NumsAt (c : Int) (l : List Co) (k : Nat) : Prop := numsB c l = numsB (c + k) (l.drop k)
theorem nums_zero (c : Int) (l : List Co) : NumsAt c l 0 := by simp [NumsAt]
theorem nums_step {c : Int} {l : List Co} {k : Nat} (h : NumsAt c l k) (hk : k < l.length) : numsB c l = ((l[k].nu == c + k + 1) && numsB (c + (k + 1 : Nat)) (l.drop (k + 1))) := by
  rw [NumsAt, List.drop_eq_getElem_cons hk, numsB] at h
  rw [h, show c + (k : Int) + 1 = c + ((k + 1 : Nat) : Int) by omega]
theorem nums_next {c : Int} {l : List Co} {k : Nat} (h : NumsAt c l k) (hk : k < l.length) (h1 : l[k].nu = c + k + 1) : NumsAt c l (k + 1) := by
  rw [NumsAt, nums_step h hk]; simp [h1]
theorem nums_bad {c : Int} {l : List Co} {k : Nat} (h : NumsAt c l k) (hk : k < l.length) (h1 : ¬ l[k].nu = c + k + 1) : numsB c l = false := by
  rw [nums_step h hk]; simp [h1]
theorem nums_end {c : Int} {l : List Co} (h : NumsAt c l l.length) : numsB c l = true := by
  rw [NumsAt, List.drop_length] at h; exact h
theorem on_tree {P : Pg} {c : Int} (h : ¬ P.tree = []) : onE P c = 1 := if_pos h
theorem on_many {P : Pg} {c : Int} (h : P.tree = []) (h1 : 10 < P.cos.length) : onE P c = 2 := by rw [onE, if_neg (fun x => x h), if_pos h1]
theorem on_nums {P : Pg} {c : Int} (h : P.tree = []) (h1 : ¬ 10 < P.cos.length) (h2 : numsB c P.cos = false) : onE P c = 4 := by rw [onE, if_neg (fun x => x h), if_neg h1, if_neg (by simp [h2])]
theorem on_cur {P : Pg} {c : Int} (h : P.tree = []) (h1 : ¬ 10 < P.cos.length) (h2 : numsB c P.cos = true) (h3 : ¬ P.cur = c + P.cos.length) : onE P c = 4 := by rw [onE, if_neg (fun x => x h), if_neg h1, if_pos h2, if_neg h3]
theorem on_ok {P : Pg} {c : Int} (h : P.tree = []) (h1 : ¬ 10 < P.cos.length) (h2 : numsB c P.cos = true) (h3 : P.cur = c + P.cos.length) : onE P c = 0 := by rw [onE, if_neg (fun x => x h), if_neg h1, if_pos h2, if_pos h3]
theorem on_zero {P : Pg} {c : Int} (h : onE P c = 0) : P.tree = [] ∧ ¬ 10 < P.cos.length ∧ numsB c P.cos = true ∧ P.cur = c + P.cos.length := by
  by_cases h1 : P.tree = []
  · by_cases h2 : 10 < P.cos.length
    · rw [on_many h1 h2] at h; cases h
    · cases h3 : numsB c P.cos with
      | false => rw [on_nums h1 h2 h3] at h; cases h
      | true =>
        by_cases h4 : P.cur = c + P.cos.length
        · exact ⟨h1, h2, rfl, h4⟩
        · rw [on_cur h1 h2 h3 h4] at h; cases h
  · rw [on_tree h1] at h; cases h
/-- What is left to do behind the first commits. -/
def LeftF (T : List En) (l : List Co) (S : List En) (k : Nat) : Prop := folF T l = folF S (l.drop k)
theorem leftF_zero (T : List En) (l : List Co) : LeftF T l T 0 := by simp [LeftF]
theorem leftF_next {T S : List En} {l : List Co} {k : Nat} (h : LeftF T l S k) (hk : k < l.length) (h0 : Pp.allE S l[k].ch l[k].nu = 0) : LeftF T l (Pp.allR S l[k].ch l[k].nu) (k + 1) := by
  rw [LeftF, List.drop_eq_getElem_cons hk, folF, if_pos h0] at h
  exact h
theorem leftF_stop {T S : List En} {l : List Co} {k : Nat} (h : LeftF T l S k) (hk : k < l.length) (h0 : ¬ Pp.allE S l[k].ch l[k].nu = 0) : folF T l = (Pp.allE S l[k].ch l[k].nu, []) := by
  rw [LeftF, List.drop_eq_getElem_cons hk, folF, if_neg h0] at h
  exact h
theorem leftF_end {T S : List En} {l : List Co} (h : LeftF T l S l.length) : folF T l = (0, S) := by
  rw [LeftF, List.drop_length, folF] at h
  exact h
end Jn
end Go.Proofs.YtagdilnbbepccaaGreat
