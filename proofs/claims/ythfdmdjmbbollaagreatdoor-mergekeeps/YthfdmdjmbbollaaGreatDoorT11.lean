/- What tree.All answers of one change, and what the laws' treeBegun answers. -/
import Derived.Test.YthfdmdjmbbollaaGreatDoorT10
import Derived.Test.YthfdmdjmbbollaaGreatDoorT11b
set_option linter.unusedSimpArgs false
set_option linter.unusedVariables false
namespace Go.Proofs.YthfdmdjmbbollaaGreatDoor
open Go.RowKit

set_option maxHeartbeats 1000000 in
theorem all_one (L : List En) (v : Value) (k : Int) (p t : ByteArray) (b n : Int) (g : Nat) (w : World) (hv : Lies w v L) (hs : Sized L) (hc : Pp.treeE L = 0) (h : Fits L k p t b n) (hg : g < w.heap.size)
    (h0 : w.cell? ⟨g, 0, none⟩ = some (.int .i64 k)) (h1 : w.cell? ⟨g, 1, none⟩ = some (.string p)) (h2 : w.cell? ⟨g, 2, none⟩ = some (.string ⟨#[]⟩)) (h3 : w.cell? ⟨g, 3, none⟩ = some (.string t)) (h4 : w.cell? ⟨g, 4, none⟩ = some (.int .i64 b)) :
    Calls Tryz.prog 36 #[v, .slice (some ⟨g, 0, none⟩) 1 1, .int .i64 n] w fun e w' => ∃ u, e = .returned (.tuple #[u, .int .i64 1, .int .i64 0]) ∧ Lies w' u (after L k p t n) ∧ Below w.heap.size w w' := by
  have HV : Hid (Lies w v L) := hv
  have HS : Hid (Sized L) := hs
  have HF : Hid (Fits L k p t b n) := h
  have HC : Hid (Pp.treeE L = 0) := hc
  have H0 : Hid (w.cell? ⟨g, 0, none⟩ = some (.int .i64 k)) := h0
  have H1 : Hid (w.cell? ⟨g, 1, none⟩ = some (.string p)) := h1
  have H2 : Hid (w.cell? ⟨g, 2, none⟩ = some (.string ⟨#[]⟩)) := h2
  have H3 : Hid (w.cell? ⟨g, 3, none⟩ = some (.string t)) := h3
  have H4 : Hid (w.cell? ⟨g, 4, none⟩ = some (.int .i64 b)) := h4
  clear hv hs h hc h0 h1 h2 h3 h4
  go_enter Tryz.func36, Tryz.ntmps36
  go_wp2_with fail
  refine (tcheck_any L v _ HV.out (Nat.le_trans HF.out.room (by decide)) HS.out).mono ?_
  rintro e w1 ⟨rfl, hb1⟩
  rw [HC.out]
  go_wp2_with fail
  refine (every_any L v _ _ (fun _ => true) _ (HV.out.below hb1) (yes_tells _) (Nat.le_trans HF.out.room (by decide)) HS.out).mono ?_
  rintro e w2 ⟨u, rfl, hou, hnu, hb2⟩
  rw [show L.filter (fun _ => true) = L by simp] at hou
  have HU : Hid (Lies w2 u L) := lies_own hou (Nat.le_trans HF.out.room (by decide))
  have hb02 := hb1.trans (hb2.mono hb1.size)
  clear hou hnu hb1 hb2
  go_wp2_with fail
  go_loopw [10, 26] (fun x i wr => ((i = .int .i64 0 ∧ Hid (Lies wr x L)) ∨ (i = .int .i64 1 ∧ Hid (Lies wr x (after L k p t n)))) ∧ Below w.heap.size w wr) (fun _ i _ => 1 - (intOf i).toNat)
  case atStart => exact ⟨Or.inl ⟨rfl, HU⟩, hb02⟩
  case round =>
    obtain ⟨⟨rfl, HX⟩ | ⟨rfl, HX⟩, hbel⟩ := hrel
    · have c0 := (hbel.cell (p := ⟨g, 0, none⟩) hg).trans H0.out
      have c1 := (hbel.cell (p := ⟨g, 1, none⟩) hg).trans H1.out
      have c2 := (hbel.cell (p := ⟨g, 2, none⟩) hg).trans H2.out
      have c3 := (hbel.cell (p := ⟨g, 3, none⟩) hg).trans H3.out
      have c4 := (hbel.cell (p := ⟨g, 4, none⟩) hg).trans H4.out
      clear hb02
      go_wp2_with fail
      refine (apply_ok L _ k p t b n _ (HX.out.below ((Below.refl _ _).alloc (Nat.le_refl _) _)) HS.out HF.out).mono ?_
      rintro e w3 ⟨u3, rfl, hli, hb3⟩
      obtain ⟨d0, d1, d2, d3, d4, hbw, hlt⟩ := box5 hb3
      have HLI : Hid (Lies w3 u3 (after L k p t n)) := hli
      have hbel3 := below_trans hbel hbw
      clear hb3 hli d0 d1 d2 d3 d4 c0 c1 c2 c3 c4 hbel hbw
      go_wp2_with fail
      go_roundw
      case rel => exact ⟨Or.inr ⟨by simp, HLI⟩, hbel3⟩
      case measure => simp [intOf]
    · clear hb02
      go_wp2_with fail
      go_ret3
      exact ⟨_, rfl, HX.out, hbel⟩

def La : ByteArray := ⟨#[97]⟩
def Lab : ByteArray := ⟨#[97, 47, 98]⟩
def Lx : ByteArray := ⟨#[120]⟩
def T1 : List En := [made 1 La ⟨#[]⟩ 5]
theorem fitsOne1 : Fits [] 1 La ⟨#[]⟩ 0 5 := ⟨Or.inl ⟨rfl, rfl⟩, by decide, by decide, by decide, by decide, by decide, by decide, by decide, rfl, Or.inr rfl, by decide, by decide, List.Pairwise.nil⟩
theorem after1 : after [] 1 La ⟨#[]⟩ 5 = T1 := rfl
theorem fitsOne2 : Fits T1 2 Lab Lx (-1) 6 := ⟨Or.inr rfl, by decide, by decide, by decide, by decide, by decide, by decide, by decide, by decide, Or.inl rfl, by decide, by decide, by simp [T1]⟩
def T2 : List En := [made 1 La ⟨#[]⟩ 5, made 2 Lab Lx 6]
theorem after2 : after T1 2 Lab Lx 6 = T2 := by
  have h1 : Pp.out (made 2 Lab Lx 6) T1 = T1 := by rfl
  have h2 : Pp.lt (made 1 La ⟨#[]⟩ 5) (made 2 Lab Lx 6) = true := by rw [Pp.lt_cfE]; decide
  rw [after, h1, T1, Pp.ins, h2]; rfl
theorem sized0 : Sized [] := fun e he => by cases he
theorem sized1 : Sized T1 := fun e he => by
  rw [T1, List.mem_singleton] at he
  subst he
  exact ⟨by decide, by decide⟩
theorem tree1 : Pp.treeE T1 = 0 := by decide

set_option maxHeartbeats 1000000 in
theorem begun_yes (w : World) : Calls Tryz.prog 17 #[] w fun e w' => e = .returned (.bool true) ∧ Below w.heap.size w w' := by
  go_enter Tryz.func17, Tryz.ntmps17
  go_wp2_with fail
  refine (tapply_ok [] _ 1 La ⟨#[]⟩ 0 5 _ ⟨none, 0, rfl, Nat.le_refl _, by simp, fun i hi => absurd hi (by simp)⟩ sized0 rfl fitsOne1).mono ?_
  rintro e w1 ⟨u, rfl, hli, hb1⟩
  rw [after1] at hli
  have HU : Hid (Lies w1 u T1) := hli
  clear hli
  go_wp2_with fail
  refine (all_one T1 u 2 Lab Lx (-1) 6 w1.heap.size _ (HU.out.below ((Below.refl _ _).alloc (Nat.le_refl _) _)) sized1 tree1 fitsOne2 (by simp) (by simp) (by simp; rfl) (by simp) (by simp; rfl) (by simp)).mono ?_
  rintro e w2 ⟨u2, rfl, hli, hb2⟩
  rw [after2] at hli
  obtain ⟨c0, c1, c2, c3, c4, hbw, hlt⟩ := box5 hb2
  have hbel := hb1.trans (hbw.mono hb1.size)
  obtain ⟨a, cap, rfl, hcap, hcap2, hL⟩ := hli
  obtain ⟨b, o, rfl, hb, he⟩ := hL 0 (by decide)
  obtain ⟨b', o', e', hb', he'⟩ := hL 1 (by decide)
  cases e'
  have k0 : w2.cell? ⟨b, o + 1, none⟩ = some (.bool true) := by have := he.2.1; simpa [T2, made] using this
  have k1 : w2.cell? ⟨b, o + 7, none⟩ = some (.int .i64 6) := by have := he'.2.2.2; simpa [T2, made] using this
  have hlen : T2.length = 2 := rfl
  clear he he' hL hb1 hb2 hbw hlt c0 c1 c2 c3 c4
  rw [hlen] at hcap ⊢
  go_wp2_with fail
  go_ret
  exact ⟨rfl, hbel⟩
end Go.Proofs.YthfdmdjmbbollaaGreatDoor
