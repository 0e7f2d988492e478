/- What Clean answers; the reference's SameCopies of the same copies. A tree beside an error. What the reference's SameEntries and the laws' treeIs answer, of the same trees. -/
import Derived.Test.YthfdmdjmbbollaaGreatDoorPD
import Derived.Test.YthfdmdjmbbollaaGreatDoorMA
import Derived.Test.YthfdmdjmbbollaaGreatDoorPH
set_option linter.unusedSimpArgs false
set_option linter.unusedVariables false
namespace Go.Proofs.YthfdmdjmbbollaaGreatDoor
open Go.RowKit Go.Maps

set_option maxRecDepth 100000 in
set_option maxHeartbeats 2000000 in
theorem clean_any (B M T : List En) (vb vm vt : Value) (w : World) (hB : Lies w vb B) (hM : Lies w vm M) (hT : Lies w vt T) (sB : Sized B) (sM : Sized M) (sT : Sized T) :
    Calls Tryz.prog 9 #[vb, vm, vt] w fun e w' => e = .returned (.tuple #[.bool (decide (Mg.mE B M T = 0) && decide ((Mg.mC B M T).length = 0)), .int .i64 (Mg.mE B M T)]) ∧ Below w.heap.size w w' := by
  have HB := hid hB
  have HM := hid hM
  have HT := hid hT
  have HSB := hid sB
  have HSM := hid sM
  have HST := hid sT
  obtain ⟨ab, cb, rfl, _⟩ := hB
  obtain ⟨am, cm, rfl, _⟩ := hM
  obtain ⟨at1, ct, rfl, _⟩ := hT
  clear sB sM sT
  go_enter Tryz.func9, Tryz.ntmps9
  go_wp2_with fail
  refine (merge_any B M T _ _ _ _ HB.out HM.out HT.out HSB.out HSM.out HST.out).mono ?_
  rintro e w2 ⟨v2, c2, rfl, hl2, hk2, hb2⟩
  obtain ⟨a2, p2, rfl, _⟩ := hl2
  obtain ⟨b2, q2, rfl, _⟩ := hk2
  by_cases e1 : Mg.mE B M T = 0
  · by_cases e2 : (Mg.mC B M T).length = 0
    · have HE : Hid ((decide (Mg.mE B M T = 0) && decide ((Mg.mC B M T).length = 0)) = true ∧ Mg.mE B M T = 0) := (⟨by simp [e1, e2], e1⟩ : (decide (Mg.mE B M T = 0) && decide ((Mg.mC B M T).length = 0)) = true ∧ Mg.mE B M T = 0)
      rw [e1, e2]
      clear e1 e2
      go_wp2_with fail
      refine bodyPost_ret (v := .tuple #[.bool true, .int .i64 0]) (by simp [results, Tryz.results9, go_sem]) rfl ⟨by rw [HE.out.1, HE.out.2], hb2⟩
    · have HE : Hid ((decide (Mg.mE B M T = 0) && decide ((Mg.mC B M T).length = 0)) = false ∧ Mg.mE B M T = 0) := (⟨by simp [e2], e1⟩ : (decide (Mg.mE B M T = 0) && decide ((Mg.mC B M T).length = 0)) = false ∧ Mg.mE B M T = 0)
      have z1 : (((Mg.mC B M T).length : Int) == 0) = false := by simpa using (by omega : ¬ ((Mg.mC B M T).length : Int) = 0)
      rw [e1]
      clear e1 e2
      generalize (Mg.mC B M T).length = n at z1 ⊢
      go_wp2_with fail
      refine bodyPost_ret (v := .tuple #[.bool false, .int .i64 0]) (by simp [results, Tryz.results9, go_sem]) rfl ⟨by rw [HE.out.1, HE.out.2], hb2⟩
  · have HE : Hid ((decide (Mg.mE B M T = 0) && decide ((Mg.mC B M T).length = 0)) = false) := (by simp [e1] : (decide (Mg.mE B M T = 0) && decide ((Mg.mC B M T).length = 0)) = false)
    have z1 : (Mg.mE B M T == 0) = false := by simpa using e1
    clear e1
    go_wp2_with fail
    refine bodyPost_ret (v := .tuple #[.bool false, .int .i64 (Mg.mE B M T)]) (by simp [results, Tryz.results9, go_sem]) rfl ⟨by rw [HE.out], hb2⟩

set_option maxRecDepth 100000 in
set_option maxHeartbeats 1000000 in
theorem sameCopies_yes (C : Mg.CC) (v u : Value) (w : World) (hv : LiesK w v C) (hu : LiesK w u C) :
    Calls Tryz.prog 14 #[v, u] w fun e w' => e = .returned (.bool true) ∧ Below w.heap.size w w' := by
  obtain ⟨a, cap, rfl, hcap, hcap2, hL⟩ := hv
  have HL := hid hL
  obtain ⟨a', cap', rfl, hcap', _, hL'⟩ := hu
  have HL' := hid hL'
  clear hL hL'
  go_enter Tryz.func14, Tryz.ntmps14
  go_wp2_with fail
  go_loopw [5] (fun i wr => ∃ k : Nat, k ≤ C.length ∧ i = .int .i64 k ∧ Below w.heap.size w wr) (fun i _ => C.length - (intOf i).toNat)
  case atStart => exact ⟨0, Nat.zero_le _, rfl, Below.refl _ _⟩
  case round =>
    obtain ⟨k, hk, rfl, hbel⟩ := hrel
    by_cases hlt : k < C.length
    · obtain ⟨b, o, rfl, hb, c0, c1⟩ := HL.out k hlt
      obtain ⟨b', o', rfl, hb', d0, d1⟩ := HL'.out k hlt
      have hlt' : (k : Int) < C.length := by omega
      have x0 := (hbel.cell (p := ⟨b, o + k * 2, none⟩) hb).trans c0
      have x1 := (hbel.cell (p := ⟨b, o + k * 2 + 1, none⟩) hb).trans c1
      have y0 := (hbel.cell (p := ⟨b', o' + k * 2, none⟩) hb').trans d0
      have y1 := (hbel.cell (p := ⟨b', o' + k * 2 + 1, none⟩) hb').trans d1
      clear c0 c1 d0 d1
      go_wp2_with fail
      go_region
      go_wp2_with fail
      go_roundw
      case rel => exact ⟨k + 1, by omega, by simp, hbel.drew⟩
      case measure => simp [intOf]; omega
    · go_wp2_with fail
      go_ret
      exact ⟨rfl, hbel⟩
end Go.Proofs.YthfdmdjmbbollaaGreatDoor
set_option linter.unusedSimpArgs false
set_option linter.unusedVariables false
namespace Go.Proofs.YthfdmdjmbbollaaGreatDoor
namespace Pp
def ifz (e : Int) (L : List En) : List En := if e = 0 then L else []
theorem ifz_yes {e : Int} (h : e = 0) (L : List En) : ifz e L = L := if_pos h
theorem ifz_no {e : Int} (h : ¬ e = 0) (L : List En) : ifz e L = [] := if_neg h
end Pp
end Go.Proofs.YthfdmdjmbbollaaGreatDoor
set_option linter.unusedSimpArgs false
set_option linter.unusedVariables false
namespace Go.Proofs.YthfdmdjmbbollaaGreatDoor
open Go.RowKit

set_option maxHeartbeats 1000000 in
theorem treeIs_yes (L M : List En) (v u : Value) (r : Int) (w : World) (hv : Lies w v (Pp.ifz r L)) (hu : r = 0 → Lies w u L) :
    Calls Tryz.prog 13 #[v, .int .i64 r, .int .i64 r, u] w fun e w' => e = .returned (.bool true) ∧ Below w.heap.size w w' := by
  by_cases hr : r = 0
  · rw [Pp.ifz_yes hr] at hv
    have HV := hid hv
    have HU := hid (hu hr)
    clear hv hu
    subst hr
    go_enter Tryz.func13, Tryz.ntmps13
    go_wp2_with fail
    refine (same_yes L v u _ HV.out HU.out).mono ?_
    rintro e w1 ⟨rfl, hb1⟩
    go_wp2
    go_ret
    exact ⟨rfl, hb1⟩
  · rw [Pp.ifz_no hr] at hv
    have HV := hid hv
    have hz : (r == 0) = false := by simpa using hr
    clear hv hu
    go_enter Tryz.func13, Tryz.ntmps13
    go_wp2_with fail
    refine (same_yes [] v _ _ HV.out (lies_nil _)).mono ?_
    rintro e w1 ⟨rfl, hb1⟩
    go_wp2
    go_ret
    exact ⟨rfl, hb1⟩
end Go.Proofs.YthfdmdjmbbollaaGreatDoor
