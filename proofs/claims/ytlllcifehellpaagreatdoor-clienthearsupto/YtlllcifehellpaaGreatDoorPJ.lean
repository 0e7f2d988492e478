/- Clients: a record that lies in memory; what checkNames, checkAsked and Check answer. A client in memory of its own: what own.Client and checked answer. What client.checked and New answer. -/
import Derived.Test.YtlllcifehellpaaGreatDoorQR
import Derived.Test.YtlllcifehellpaaGreatDoorG0
import Derived.Test.YtlllcifehellpaaGreatDoorMA
import Derived.Test.YtlllcifehellpaaGreatDoorPH
import Derived.Test.YtlllcifehellpaaGreatDoorPI
set_option linter.unusedSimpArgs false
set_option linter.unusedVariables false
namespace Go.Proofs.YtlllcifehellpaaGreatDoor
open Go.RowKit

structure Cn where
  who : ByteArray
  fo : ByteArray
  base : List En
  cur : Int
  mine : List En
  key : ByteArray
  ask : List Pp.Ch
  keys : Int
/-- A client as a value: its trees and changes lie in memory. -/
def LiesN (w : World) (v : Value) (c : Cn) : Prop := ∃ vb vm va, v = .agg #[.string c.who, .string c.fo, vb, .int .i64 c.cur, vm, .string c.key, va, .int .i64 c.keys] ∧ Lies w vb c.base ∧ Lies w vm c.mine ∧ LiesC w va c.ask
theorem LiesN.below {w w' : World} {v : Value} {c : Cn} (h : LiesN w v c) (hw : Below w.heap.size w w') : LiesN w' v c := by
  obtain ⟨vb, vm, va, e, h1, h2, h3⟩ := h
  exact ⟨vb, vm, va, e, h1.below hw, h2.below hw, h3.below hw⟩
structure SizedN (c : Cn) : Prop where
  who : c.who.size ≤ 150000000000000
  fo : c.fo.size ≤ 150000000000000
  key : c.key.size ≤ 150000000000000
  base : Sized c.base
  mine : Sized c.mine
namespace Cy
def cnE (who fo : ByteArray) : Int := if ¬ Pp.nmsE [who, fo] = 0 then Pp.nmsE [who, fo] else if 10 < who.size then 1 else Pp.keyE who.data.toList
def caE (key : ByteArray) (n : Nat) : Int := if ¬ key.size = 0 ∧ ¬ Pp.keyE key.data.toList = 0 then 1 else if decide (key.size = 0) ≠ decide (n = 0) then 4 else if 20 < n then 2 else 0
def rgB (c : Cn) : Bool := decide (c.cur < 0) || decide (1000000 < c.cur) || decide (c.keys < 0) || decide (1000000 < c.keys)
def chE (c : Cn) : Int := if ¬ cnE c.who c.fo = 0 then cnE c.who c.fo else if ¬ Pp.treeE c.base = 0 then Pp.treeE c.base else if ¬ Pp.treeE c.mine = 0 then Pp.treeE c.mine else if rgB c = true then 3 else caE c.key c.ask.length
end Cy

set_option maxRecDepth 100000 in
set_option maxHeartbeats 1000000 in
theorem cNames_any (who fo : ByteArray) (w : World) (hw : who.size ≤ 150000000000000) (hf : fo.size ≤ 150000000000000) :
    Calls Tryz.prog 46 #[.string who, .string fo] w fun e w' => e = .returned (.int .i64 (Cy.cnE who fo)) ∧ Below w.heap.size w w' := by
  obtain ⟨wz, hwz⟩ : ∃ wz, wz = w.alloc (.cells #[.string who, .string fo] 9) := ⟨_, rfl⟩
  have hbz : Below w.heap.size w wz := by rw [hwz]; exact (Below.refl _ _).alloc (Nat.le_refl _) _
  have HX : Hid (Cs wz w.heap.size [.string who, .string fo]) := (by rw [hwz]; exact Cs.new _ [.string who, .string fo] _ : Cs wz w.heap.size [.string who, .string fo])
  obtain ⟨r, hr⟩ : ∃ r, r = Cy.cnE who fo := ⟨_, rfl⟩
  rw [← hr]
  have HR := hid hr
  clear hr
  go_enter Tryz.func46, Tryz.ntmps46
  go_wp2_with fail
  rw [← hwz]
  refine (names_any [who, fo] w.heap.size 0 2 wz HX.out.lt (fun i hi => by
    match i, hi with
    | 0, _ => show who.size ≤ _; omega
    | 1, _ => show fo.size ≤ _; omega) (by simp) (fun i hi => by
    match i, hi with
    | 0, _ => exact HX.out.cell 0 rfl
    | 1, _ => exact HX.out.cell 1 rfl)).mono ?_
  rintro e w1 ⟨rfl, hb1⟩
  have hb01 := below_tr hbz hb1
  by_cases hn : Pp.nmsE [who, fo] = 0
  · by_cases h10 : 10 < who.size
    · have HE : Hid (r = 1) := (by rw [HR.out, Cy.cnE, if_neg (fun x => x hn), if_pos h10] : r = 1)
      have h10' : 10 < (who.size : Int) := by omega
      rw [hn]
      go_wp2_with fail
      go_ret
      exact ⟨by rw [HE.out]; rfl, hb01⟩
    · have HE : Hid (r = Pp.keyE who.data.toList) := (by rw [HR.out, Cy.cnE, if_neg (fun x => x hn), if_neg h10] : r = Pp.keyE who.data.toList)
      have h10' : ¬ 10 < (who.size : Int) := by omega
      rw [hn]
      go_wp2_with fail
      refine (key_any who _ (by unfold maxLen; omega)).mono ?_
      rintro e w2 ⟨rfl, rfl⟩
      go_wp2_with fail
      go_ret
      exact ⟨by rw [HE.out]; rfl, hb01⟩
  · have HE : Hid (r = Pp.nmsE [who, fo]) := (by rw [HR.out, Cy.cnE, if_pos hn] : r = Pp.nmsE [who, fo])
    have hn' : (Pp.nmsE [who, fo] != 0) = true := by simpa using hn
    generalize Pp.nmsE [who, fo] = n at *
    clear hn
    go_wp2_with fail
    go_ret
    exact ⟨by rw [HE.out]; rfl, hb01⟩

set_option maxRecDepth 100000 in
set_option maxHeartbeats 1000000 in
theorem cAsked_any (key : ByteArray) (a : Option Addr) (n cap : Nat) (w : World) (hk : key.size ≤ 150000000000000) (hn : n ≤ 1000000000000000) :
    Calls Tryz.prog 48 #[.string key, .slice a n cap] w fun e w' => e = .returned (.int .i64 (Cy.caE key n)) ∧ w' = w := by
  obtain ⟨r, hr⟩ : ∃ r, r = Cy.caE key n := ⟨_, rfl⟩
  rw [← hr]
  have HR := hid hr
  clear hr
  by_cases k0 : key.size = 0
  · have ke : key = ⟨#[]⟩ := by
      cases key with
      | mk d => have h : d.size = 0 := k0; rw [Array.size_eq_zero_iff.1 h]
    subst ke
    by_cases n0 : n = 0
    · subst n0
      have HE : Hid (r = 0) := (HR.out : r = 0)
      go_enter Tryz.func48, Tryz.ntmps48
      go_wp2_with fail
      go_ret
      exact ⟨by rw [HE.out]; rfl, rfl⟩
    · have HE : Hid (r = 4) := (by rw [HR.out, Cy.caE, if_neg (fun h => h.1 k0), if_pos (by rw [decide_eq_true k0]; simp [n0])] : r = 4)
      have n1 : ((n : Int) == 0) = false := by simpa using (by omega : ¬ (n : Int) = 0)
      clear n0 k0
      go_enter Tryz.func48, Tryz.ntmps48
      go_wp2_with fail
      go_ret
      exact ⟨by rw [HE.out]; rfl, rfl⟩
  · have kl : ¬ key.toList = [] := by
      rw [Lib.toList_data]
      intro e
      have : key.data.toList.length = key.size := Array.length_toList
      rw [e] at this
      exact k0 this.symm
    have kb : (key.toList == ([] : List UInt8)) = false := beq_eq_false_iff_ne.2 kl
    have kb2 : (key.toList == (⟨#[]⟩ : ByteArray).toList) = false := by rw [Lib.toList_data ⟨#[]⟩]; exact kb
    by_cases hK : Pp.keyE key.data.toList = 0
    · have hc : ¬ (¬ key.size = 0 ∧ ¬ Pp.keyE key.data.toList = 0) := fun h => h.2 hK
      by_cases n0 : n = 0
      · subst n0
        have HE : Hid (r = 4) := (by rw [HR.out, Cy.caE, if_neg hc, if_pos (by simp [k0])] : r = 4)
        clear hc
        go_enter Tryz.func48, Tryz.ntmps48
        go_wp2_with fail
        refine (key_any key _ (by unfold maxLen; omega)).mono ?_
        rintro e w2 ⟨rfl, rfl⟩
        rw [hK]
        go_wp2_with fail
        go_ret
        exact ⟨by rw [HE.out]; rfl, rfl⟩
      · have n1 : ((n : Int) == 0) = false := by simpa using (by omega : ¬ (n : Int) = 0)
        have hd : ¬ decide (key.size = 0) ≠ decide (n = 0) := by simp [k0, n0]
        by_cases h20 : 20 < n
        · have HE : Hid (r = 2) := (by rw [HR.out, Cy.caE, if_neg hc, if_neg hd, if_pos h20] : r = 2)
          have h20' : 20 < (n : Int) := by omega
          clear hc hd n0
          go_enter Tryz.func48, Tryz.ntmps48
          go_wp2_with fail
          refine (key_any key _ (by unfold maxLen; omega)).mono ?_
          rintro e w2 ⟨rfl, rfl⟩
          rw [hK]
          go_wp2_with fail
          go_ret
          exact ⟨by rw [HE.out]; rfl, rfl⟩
        · have HE : Hid (r = 0) := (by rw [HR.out, Cy.caE, if_neg hc, if_neg hd, if_neg h20] : r = 0)
          have h20' : ¬ 20 < (n : Int) := by omega
          clear hc hd n0
          go_enter Tryz.func48, Tryz.ntmps48
          go_wp2_with fail
          refine (key_any key _ (by unfold maxLen; omega)).mono ?_
          rintro e w2 ⟨rfl, rfl⟩
          rw [hK]
          go_wp2_with fail
          go_ret
          exact ⟨by rw [HE.out]; rfl, rfl⟩
    · have HE : Hid (r = 1) := (by rw [HR.out, Cy.caE, if_pos ⟨k0, hK⟩] : r = 1)
      have hK1 : Pp.keyE key.data.toList = 1 := by
        rw [Pp.keyE] at hK ⊢
        split
        · rename_i h; rw [if_pos h] at hK; exact absurd rfl hK
        · rfl
      go_enter Tryz.func48, Tryz.ntmps48
      go_wp2_with fail
      refine (key_any key _ (by unfold maxLen; omega)).mono ?_
      rintro e w2 ⟨rfl, rfl⟩
      rw [hK1]
      clear hK hK1
      go_wp2_with fail
      go_ret
      exact ⟨by rw [HE.out]; rfl, rfl⟩

set_option maxRecDepth 100000 in
set_option maxHeartbeats 2000000 in
theorem ccheck_any (c : Cn) (v : Value) (w : World) (hv : LiesN w v c) (hs : SizedN c) :
    Calls Tryz.prog 22 #[v] w fun e w' => e = .returned (.int .i64 (Cy.chE c)) ∧ Below w.heap.size w w' := by
  obtain ⟨vb, vm, va, rfl, hb, hm, ha⟩ := hv
  have HB := hid hb
  have HM := hid hm
  have HS := hid hs
  obtain ⟨ab, cb, rfl, _⟩ := hb
  obtain ⟨am, cm, rfl, _⟩ := hm
  obtain ⟨aa, ca, rfl, _, hal, _⟩ := ha
  obtain ⟨r, hr⟩ : ∃ r, r = Cy.chE c := ⟨_, rfl⟩
  rw [← hr]
  have HR := hid hr
  have hwho := hs.who
  have hfo := hs.fo
  have hkey := hs.key
  clear hr hs
  obtain ⟨wz, hwz⟩ : ∃ wz, wz = w.alloc (.cells #[.string c.who, .string c.fo, .slice ab c.base.length cb, .int .i64 c.cur, .slice am c.mine.length cm, .string c.key, .slice aa c.ask.length ca, .int .i64 c.keys] 25) := ⟨_, rfl⟩
  have hbz : Below w.heap.size w wz := by rw [hwz]; exact (Below.refl _ _).alloc (Nat.le_refl _) _
  have HX : Hid (Cs wz w.heap.size [.string c.who, .string c.fo, .slice ab c.base.length cb, .int .i64 c.cur, .slice am c.mine.length cm, .string c.key, .slice aa c.ask.length ca, .int .i64 c.keys]) := (by rw [hwz]; exact Cs.new _ [.string c.who, .string c.fo, .slice ab c.base.length cb, .int .i64 c.cur, .slice am c.mine.length cm, .string c.key, .slice aa c.ask.length ca, .int .i64 c.keys] _ : Cs wz w.heap.size [.string c.who, .string c.fo, .slice ab c.base.length cb, .int .i64 c.cur, .slice am c.mine.length cm, .string c.key, .slice aa c.ask.length ca, .int .i64 c.keys])
  go_enter Tryz.func22, Tryz.ntmps22
  go_wp2_with fail
  rw [← hwz]
  clear hwz
  refine (cNames_any c.who c.fo _ hwho hfo).mono ?_
  rintro e w1 ⟨rfl, hb1⟩
  have hb01 := below_tr hbz hb1
  have HX1 := hid (HX.out.below hb1)
  by_cases hn : Cy.cnE c.who c.fo = 0
  · have HN := hid hn
    rw [hn]
    clear hn
    have x2 := HX1.out.cell 2 rfl
    have x4 := HX1.out.cell 4 rfl
    have hlx := HX1.out.lt
    have hne : ¬ w.heap.size = w1.heap.size := by omega
    obtain ⟨wy, hwy⟩ : ∃ wy, wy = w1.alloc (.cells #[.slice ab c.base.length cb, .slice am c.mine.length cm] 22) := ⟨_, rfl⟩
    have hby : Below w1.heap.size w1 wy := by rw [hwy]; exact (Below.refl _ _).alloc (Nat.le_refl _) _
    have HY : Hid (Cs wy w1.heap.size [.slice ab c.base.length cb, .slice am c.mine.length cm]) := (by rw [hwy]; exact Cs.new _ [.slice ab c.base.length cb, .slice am c.mine.length cm] _ : Cs wy w1.heap.size [.slice ab c.base.length cb, .slice am c.mine.length cm])
    have HXy := hid (HX1.out.below hby)
    have hb0y := below_tr hb01 hby
    go_wp2_with fail
    rw [← hwy]
    clear hwy x2 x4
    go_loopw [21] (fun x wr => ∃ k : Nat, k ≤ 2 ∧ x = .int .i64 k ∧ Hid (1 ≤ k → Pp.treeE c.base = 0) ∧ Hid (2 ≤ k → Pp.treeE c.mine = 0) ∧ Below wy.heap.size wy wr) (fun x _ => 2 - (intOf x).toNat)
    case atStart => exact ⟨0, by omega, rfl, (fun h => absurd h (by omega) : 1 ≤ 0 → Pp.treeE c.base = 0), (fun h => absurd h (by omega) : 2 ≤ 0 → Pp.treeE c.mine = 0), Below.refl _ _⟩
    case round =>
      obtain ⟨k, hk, rfl, H1, H2, hbr⟩ := hrel
      have hbel := below_tr hb0y hbr
      have HYr := hid (HY.out.below hbr)
      have HXr := hid (HXy.out.below hbr)
      have y0 := HYr.out.cell 0 rfl
      have y1 := HYr.out.cell 1 rfl
      rcases (by omega : k = 0 ∨ k = 1 ∨ k = 2) with rfl | rfl | rfl
      · go_wp2_with fail
        refine (tcheck_all c.base _ _ (HB.out.below hbel) HS.out.base).mono ?_
        rintro e w2 ⟨rfl, hb2⟩
        have hbr2 := below_tr hbr hb2
        have hbel2 := below_tr hbel hb2
        by_cases hE : Pp.treeE c.base = 0
        · have HE := hid hE
          rw [hE]
          clear hE y0 y1
          go_wp2_with fail
          go_roundw
          case rel => exact ⟨1, by omega, rfl, (fun _ => HE.out : 1 ≤ 1 → Pp.treeE c.base = 0), (fun h => absurd h (by omega) : 2 ≤ 1 → Pp.treeE c.mine = 0), hbr2⟩
          case measure => simp [intOf]
        · have HE : Hid (r = Pp.treeE c.base) := (by rw [HR.out, Cy.chE, if_neg (fun x => x HN.out), if_pos hE] : r = Pp.treeE c.base)
          have hE' : (Pp.treeE c.base != 0) = true := by simpa using hE
          clear y0 y1 hE
          go_wp2_with fail
          go_ret
          exact ⟨by rw [HE.out]; rfl, hbel2⟩
      · go_wp2_with fail
        refine (tcheck_all c.mine _ _ (HM.out.below hbel) HS.out.mine).mono ?_
        rintro e w2 ⟨rfl, hb2⟩
        have hbr2 := below_tr hbr hb2
        have hbel2 := below_tr hbel hb2
        by_cases hE : Pp.treeE c.mine = 0
        · have HE := hid hE
          have HE0 := hid (H1.out (by omega))
          rw [hE]
          clear hE y0 y1
          go_wp2_with fail
          go_roundw
          case rel => exact ⟨2, by omega, rfl, (fun _ => HE0.out : 1 ≤ 2 → Pp.treeE c.base = 0), (fun _ => HE.out : 2 ≤ 2 → Pp.treeE c.mine = 0), hbr2⟩
          case measure => simp [intOf]
        · have HE : Hid (r = Pp.treeE c.mine) := (by rw [HR.out, Cy.chE, if_neg (fun x => x HN.out), if_neg (fun x => x (H1.out (by omega))), if_pos hE] : r = Pp.treeE c.mine)
          have hE' : (Pp.treeE c.mine != 0) = true := by simpa using hE
          clear y0 y1 hE
          go_wp2_with fail
          go_ret
          exact ⟨by rw [HE.out]; rfl, hbel2⟩
      · have HRR : Hid (r = if Cy.rgB c = true then 3 else Cy.caE c.key c.ask.length) := (by rw [HR.out, Cy.chE, if_neg (fun x => x HN.out), if_neg (fun x => x (H1.out (by omega))), if_neg (fun x => x (H2.out (by omega)))] : r = if Cy.rgB c = true then 3 else Cy.caE c.key c.ask.length)
        have x3 := HXr.out.cell 3 rfl
        have x7 := HXr.out.cell 7 rfl
        have x5 := HXr.out.cell 5 rfl
        have x6 := HXr.out.cell 6 rfl
        clear y0 y1 H1 H2
        have stop : Cy.rgB c = true → Hid (r = 3) := fun h => (by rw [HRR.out, if_pos h] : r = 3)
        by_cases g1 : c.cur < 0
        · have HE := stop (by simp [Cy.rgB, g1])
          clear stop
          go_wp2_with fail
          go_ret
          exact ⟨by rw [HE.out]; rfl, hbel⟩
        · have g1' : decide (c.cur < 0) = false := decide_eq_false g1
          by_cases g2 : 1000000 < c.cur
          · have HE := stop (by simp [Cy.rgB, g2])
            clear stop
            go_wp2_with fail
            go_ret
            exact ⟨by rw [HE.out]; rfl, hbel⟩
          · have g2' : decide (1000000 < c.cur) = false := decide_eq_false g2
            by_cases g3 : c.keys < 0
            · have HE := stop (by simp [Cy.rgB, g3])
              clear stop
              go_wp2_with fail
              go_ret
              exact ⟨by rw [HE.out]; rfl, hbel⟩
            · have g3' : decide (c.keys < 0) = false := decide_eq_false g3
              by_cases g4 : 1000000 < c.keys
              · have HE := stop (by simp [Cy.rgB, g4])
                clear stop
                go_wp2_with fail
                go_ret
                exact ⟨by rw [HE.out]; rfl, hbel⟩
              · have g4' : decide (1000000 < c.keys) = false := decide_eq_false g4
                have HE : Hid (r = Cy.caE c.key c.ask.length) := (by rw [HRR.out, if_neg (by rw [Cy.rgB, g1', g2', g3', g4']; decide)] : r = Cy.caE c.key c.ask.length)
                clear stop
                go_wp2_with fail
                refine (cAsked_any c.key aa c.ask.length ca _ hkey hal).mono ?_
                rintro e w2 ⟨rfl, rfl⟩
                rw [← HE.out]
                go_wp2_with fail
                go_ret
                exact ⟨rfl, hbel⟩
  · have HE : Hid (r = Cy.cnE c.who c.fo) := (by rw [HR.out, Cy.chE, if_pos hn] : r = Cy.cnE c.who c.fo)
    have hn' : (Cy.cnE c.who c.fo != 0) = true := by simpa using hn
    generalize Cy.cnE c.who c.fo = n at *
    clear hn
    go_wp2_with fail
    go_ret
    exact ⟨by rw [HE.out]; rfl, hb01⟩
end Go.Proofs.YtlllcifehellpaaGreatDoor
set_option linter.unusedSimpArgs false
set_option linter.unusedVariables false
namespace Go.Proofs.YtlllcifehellpaaGreatDoor
open Go.RowKit

/-- A client whose trees and changes are the caller's own. -/
def OwnN (B : Nat) (w : World) (v : Value) (c : Cn) : Prop := ∃ vb vm va, v = .agg #[.string c.who, .string c.fo, vb, .int .i64 c.cur, vm, .string c.key, va, .int .i64 c.keys] ∧ (Lies w vb c.base ∧ Own B w vb) ∧ (Lies w vm c.mine ∧ Own B w vm) ∧ LiesC w va c.ask ∧ Own B w va
theorem OwnN.lies {B : Nat} {w : World} {v : Value} {c : Cn} (h : OwnN B w v c) : LiesN w v c := by
  obtain ⟨vb, vm, va, e, h1, h2, h3, _⟩ := h
  exact ⟨vb, vm, va, e, h1.1, h2.1, h3⟩
theorem OwnN.below {B : Nat} {w w' : World} {v : Value} {c : Cn} (h : OwnN B w v c) (hw : Below w.heap.size w w') : OwnN B w' v c := by
  obtain ⟨vb, vm, va, e, h1, h2, h3, h4⟩ := h
  exact ⟨vb, vm, va, e, ⟨h1.1.below hw, h1.2.below hw⟩, ⟨h2.1.below hw, h2.2.below hw⟩, h3.below hw, h4.below hw⟩
theorem OwnN.mono {B B' : Nat} {w : World} {v : Value} {c : Cn} (h : OwnN B w v c) (hB : B' ≤ B) : OwnN B' w v c := by
  obtain ⟨vb, vm, va, e, h1, h2, h3, h4⟩ := h
  exact ⟨vb, vm, va, e, ⟨h1.1, h1.2.mono hB⟩, ⟨h2.1, h2.2.mono hB⟩, h3, h4.mono hB⟩
theorem OwnN.nbo {B g : Nat} {w w' : World} {v : Value} {c : Cn} (h : OwnN B w v c) (hw : w.grownBy w' (some g)) (hg : g < B) : OwnN B w' v c := by
  obtain ⟨vb, vm, va, e, h1, h2, h3, h4⟩ := h
  have k : ∀ {u : Value}, Own B w u → ∀ b, u.ownBlock = some b → b ≠ g := fun h b hb => by have := (h b hb).1; omega
  exact ⟨vb, vm, va, e, ⟨h1.1.nbo hw (k h1.2), h1.2.nb hw (k h1.2)⟩, ⟨h2.1.nbo hw (k h2.2), h2.2.nb hw (k h2.2)⟩, h3.nbo hw (k h4), h4.nb hw (k h4)⟩
def zeroN : Cn := ⟨⟨#[]⟩, ⟨#[]⟩, [], 0, [], ⟨#[]⟩, [], 0⟩
theorem ownN_zero (B : Nat) (w : World) : OwnN B w (.agg #[.string ⟨#[]⟩, .string ⟨#[]⟩, .slice none 0 0, .int .i64 0, .slice none 0 0, .string ⟨#[]⟩, .slice none 0 0, .int .i64 0]) zeroN :=
  ⟨_, _, _, rfl, ⟨lies_nil _, own_nil _ _⟩, ⟨lies_nil _, own_nil _ _⟩, ⟨none, 0, rfl, Nat.le_refl _, by decide, fun i h => absurd h (by simp [zeroN])⟩, own_nil _ _⟩
abbrev zs : List Value := [.string ⟨#[]⟩, .string ⟨#[]⟩, .slice none 0 0, .int .i64 0, .slice none 0 0, .string ⟨#[]⟩, .slice none 0 0, .int .i64 0]

set_option maxRecDepth 100000 in
set_option maxHeartbeats 4000000 in
theorem ownClient_any (c : Cn) (v : Value) (w : World) (hv : LiesN w v c) (hb : c.base.length ≤ 1000000) (hm : c.mine.length ≤ 1000000) (ha : c.ask.length ≤ 1000000) :
    Calls Tryz.prog 23 #[v] w fun e w' => ∃ u, e = .returned u ∧ OwnN w.heap.size w' u c ∧ Below w.heap.size w w' := by
  obtain ⟨vb, vm, va, rfl, lb, lm, la⟩ := hv
  have HVB := hid lb
  have HVM := hid lm
  have HVA := hid la
  obtain ⟨ab, cb, rfl, _⟩ := lb
  obtain ⟨am, cm, rfl, _⟩ := lm
  obtain ⟨aa, ca, rfl, _⟩ := la
  obtain ⟨wz, hwz⟩ : ∃ wz, wz = (w.alloc (.cells #[.string c.who, .string c.fo, .slice ab c.base.length cb, .int .i64 c.cur, .slice am c.mine.length cm, .string c.key, .slice aa c.ask.length ca, .int .i64 c.keys] 25)).alloc (.cells #[.string ⟨#[]⟩, .string ⟨#[]⟩, .slice none 0 0, .int .i64 0, .slice none 0 0, .string ⟨#[]⟩, .slice none 0 0, .int .i64 0] 25) := ⟨_, rfl⟩
  have hbz : Below w.heap.size w wz := by rw [hwz]; exact ((Below.refl _ _).alloc (Nat.le_refl _) _).alloc (by simp) _
  have HBX : Hid (Cs wz w.heap.size [.string c.who, .string c.fo, .slice ab c.base.length cb, .int .i64 c.cur, .slice am c.mine.length cm, .string c.key, .slice aa c.ask.length ca, .int .i64 c.keys]) := (by rw [hwz]; exact (Cs.new w [.string c.who, .string c.fo, .slice ab c.base.length cb, .int .i64 c.cur, .slice am c.mine.length cm, .string c.key, .slice aa c.ask.length ca, .int .i64 c.keys] _).below ((Below.refl _ _).alloc (Nat.le_refl _) _) : Cs wz w.heap.size _)
  have HBY : Hid (Cs wz (w.heap.size + 1) zs) := (by
    have := Cs.new (w.alloc (.cells #[.string c.who, .string c.fo, .slice ab c.base.length cb, .int .i64 c.cur, .slice am c.mine.length cm, .string c.key, .slice aa c.ask.length ca, .int .i64 c.keys] 25)) zs 25
    rw [hwz]; simpa using this : Cs wz (w.heap.size + 1) zs)
  have hNz : w.heap.size + 1 < wz.heap.size := HBY.out.lt
  go_enter Tryz.func23, Tryz.ntmps23
  go_wp2_with fail
  rw [← hwz]
  clear hwz
  refine (cloneE (c.base.map Pp.cells) _ _ (liesR_en.1 (HVB.out.below hbz)) (by simp; omega)).mono ?_
  rintro e w1 ⟨u1, rfl, hR1, hO1, hb1⟩
  have HL1 := hid (liesR_en.2 hR1)
  have HO1 := hid hO1
  obtain ⟨xa, xc, rfl, _⟩ := HL1.out
  have hs1 := hb1.size
  have HB1 := hid (HBX.out.below hb1)
  have c0 := HB1.out.cell 2 rfl
  have f0 := HB1.out.fr 2
  have d4 := HB1.out.cell 4 rfl
  obtain ⟨w2, hw2⟩ : ∃ w2, w2 = w1.setCell ⟨w.heap.size, 2, none⟩ (.slice xa c.base.length xc) := ⟨_, rfl⟩
  have HB2 : Hid (Cs w2 w.heap.size [.string c.who, .string c.fo, .slice xa c.base.length xc, .int .i64 c.cur, .slice am c.mine.length cm, .string c.key, .slice aa c.ask.length ca, .int .i64 c.keys]) := (by rw [hw2]; exact HB1.out.set 2 _ : Cs w2 w.heap.size _)
  have HY2 : Hid (Cs w2 (w.heap.size + 1) zs) := (by rw [hw2]; exact (HBY.out.below hb1).other (by omega) _ : Cs w2 (w.heap.size + 1) zs)
  have hs2 : w2.heap.size = w1.heap.size := by rw [hw2]; simp
  have HL2 : Hid (Lies w2 (.slice xa c.base.length xc) c.base ∧ Own wz.heap.size w2 (.slice xa c.base.length xc)) := (by rw [hw2]; exact ⟨HL1.out.nbo (nb_set _ _ _ _) (fun b hb => by have := (HO1.out b hb).1; omega), HO1.out.setCell _ _ _⟩ : Lies w2 (.slice xa c.base.length xc) c.base ∧ Own wz.heap.size w2 (.slice xa c.base.length xc))
  have hb2 : Below w.heap.size w w2 := by rw [hw2]; exact (below_tr hbz hb1).setCell (p := ⟨w.heap.size, 2, none⟩) (Nat.le_refl _) _
  clear hR1 hO1
  go_wp2_with fail
  rw [← hw2]
  clear hw2 c0 f0 d4
  refine (cloneE (c.mine.map Pp.cells) _ _ (liesR_en.1 (HVM.out.below hb2)) (by simp; omega)).mono ?_
  rintro e w3 ⟨u3, rfl, hR3, hO3, hb3⟩
  have HL3 := hid (liesR_en.2 hR3)
  have HO3 := hid hO3
  obtain ⟨ya, yc, rfl, _⟩ := HL3.out
  have hs3 := hb3.size
  have HB3 := hid (HB2.out.below hb3)
  have c0 := HB3.out.cell 4 rfl
  have f0 := HB3.out.fr 4
  have d6 := HB3.out.cell 6 rfl
  obtain ⟨w4, hw4⟩ : ∃ w4, w4 = w3.setCell ⟨w.heap.size, 4, none⟩ (.slice ya c.mine.length yc) := ⟨_, rfl⟩
  have HB4 : Hid (Cs w4 w.heap.size [.string c.who, .string c.fo, .slice xa c.base.length xc, .int .i64 c.cur, .slice ya c.mine.length yc, .string c.key, .slice aa c.ask.length ca, .int .i64 c.keys]) := (by rw [hw4]; exact HB3.out.set 4 _ : Cs w4 w.heap.size _)
  have HY4 : Hid (Cs w4 (w.heap.size + 1) zs) := (by rw [hw4]; exact (HY2.out.below hb3).other (by omega) _ : Cs w4 (w.heap.size + 1) zs)
  have hs4 : w4.heap.size = w3.heap.size := by rw [hw4]; simp
  have HL4 : Hid (Lies w4 (.slice xa c.base.length xc) c.base ∧ Own wz.heap.size w4 (.slice xa c.base.length xc)) := (by rw [hw4]; exact ⟨(HL2.out.1.below hb3).nbo (nb_set _ _ _ _) (fun b hb => by have := (HL2.out.2 b hb).1; omega), (HL2.out.2.below hb3).setCell _ _ _⟩ : Lies w4 (.slice xa c.base.length xc) c.base ∧ Own wz.heap.size w4 (.slice xa c.base.length xc))
  have HM4 : Hid (Lies w4 (.slice ya c.mine.length yc) c.mine ∧ Own wz.heap.size w4 (.slice ya c.mine.length yc)) := (by rw [hw4]; exact ⟨HL3.out.nbo (nb_set _ _ _ _) (fun b hb => by have := (HO3.out b hb).1; omega), (HO3.out.setCell _ _ _).mono (by omega)⟩ : Lies w4 (.slice ya c.mine.length yc) c.mine ∧ Own wz.heap.size w4 (.slice ya c.mine.length yc))
  have hb4 : Below w.heap.size w w4 := by rw [hw4]; exact (below_tr hb2 hb3).setCell (p := ⟨w.heap.size, 4, none⟩) (Nat.le_refl _) _
  clear hR3 hO3
  go_wp2_with fail
  rw [← hw4]
  clear hw4 c0 f0 d6
  refine (cloneC (c.ask.map Pp.chC) _ _ (liesR_ch.1 (HVA.out.below hb4)) (by simp; omega)).mono ?_
  rintro e w5 ⟨u5, rfl, hR5, hO5, hb5⟩
  have HL5 := hid (liesR_ch.2 hR5)
  have HO5 := hid hO5
  obtain ⟨za, zc, rfl, _⟩ := HL5.out
  have hs5 := hb5.size
  have HB5 := hid (HB4.out.below hb5)
  have c0 := HB5.out.cell 6 rfl
  have f0 := HB5.out.fr 6
  obtain ⟨w6, hw6⟩ : ∃ w6, w6 = w5.setCell ⟨w.heap.size, 6, none⟩ (.slice za c.ask.length zc) := ⟨_, rfl⟩
  have HB6 : Hid (Cs w6 w.heap.size [.string c.who, .string c.fo, .slice xa c.base.length xc, .int .i64 c.cur, .slice ya c.mine.length yc, .string c.key, .slice za c.ask.length zc, .int .i64 c.keys]) := (by rw [hw6]; exact HB5.out.set 6 _ : Cs w6 w.heap.size _)
  have HY6 : Hid (Cs w6 (w.heap.size + 1) zs) := (by rw [hw6]; exact (HY4.out.below hb5).other (by omega) _ : Cs w6 (w.heap.size + 1) zs)
  have HN6 : Hid (OwnN wz.heap.size w6 (.agg #[.string c.who, .string c.fo, .slice xa c.base.length xc, .int .i64 c.cur, .slice ya c.mine.length yc, .string c.key, .slice za c.ask.length zc, .int .i64 c.keys]) c) := (by
    rw [hw6]
    have k : ∀ {W : World} {u : Value}, Own wz.heap.size W u → ∀ b, u.ownBlock = some b → b ≠ w.heap.size := fun h b hb => by have := (h b hb).1; omega
    exact ⟨_, _, _, rfl, ⟨(HL4.out.1.below hb5).nbo (nb_set _ _ _ _) (k HL4.out.2), (HL4.out.2.below hb5).setCell _ _ _⟩, ⟨(HM4.out.1.below hb5).nbo (nb_set _ _ _ _) (k HM4.out.2), (HM4.out.2.below hb5).setCell _ _ _⟩, HL5.out.nbo (nb_set _ _ _ _) (fun b hb => by have := (HO5.out b hb).1; omega), (HO5.out.setCell _ _ _).mono (by omega)⟩ : OwnN wz.heap.size w6 _ c)
  have hb6 : Below w.heap.size w w6 := by rw [hw6]; exact (below_tr hb4 hb5).setCell (p := ⟨w.heap.size, 6, none⟩) (Nat.le_refl _) _
  clear hR5 hO5
  go_upto_region 4 with fail
  rw [← hw6]
  clear hw6 c0 f0
  have a0 := HB6.out.cell 0 rfl
  have a1 := HB6.out.cell 1 rfl
  have a2 := HB6.out.cell 2 rfl
  have a3 := HB6.out.cell 3 rfl
  have a4 := HB6.out.cell 4 rfl
  have a5 := HB6.out.cell 5 rfl
  have a6 := HB6.out.cell 6 rfl
  have a7 := HB6.out.cell 7 rfl
  have y0 := HY6.out.cell 0 rfl
  have y1 := HY6.out.cell 1 rfl
  have y2 := HY6.out.cell 2 rfl
  have y3 := HY6.out.cell 3 rfl
  have y4 := HY6.out.cell 4 rfl
  have y5 := HY6.out.cell 5 rfl
  have y6 := HY6.out.cell 6 rfl
  have y7 := HY6.out.cell 7 rfl
  have g0 := HY6.out.fr 0
  have g1 := HY6.out.fr 1
  have g2 := HY6.out.fr 2
  have g3 := HY6.out.fr 3
  have g4 := HY6.out.fr 4
  have g5 := HY6.out.fr 5
  have g6 := HY6.out.fr 6
  have g7 := HY6.out.fr 7
  have hne : ¬ w.heap.size = w.heap.size + 1 := by omega
  go_wp2_with fail
  refine bodyPost_ret (v := .agg #[.string c.who, .string c.fo, .slice xa c.base.length xc, .int .i64 c.cur, .slice ya c.mine.length yc, .string c.key, .slice za c.ask.length zc, .int .i64 c.keys]) (by simp [results, Tryz.results23, go_sem, y0, y1, y2, y3, y4, y5, y6, y7]) rfl ⟨_, rfl, ?_, ?_⟩
  · exact (HN6.out.nbo (grown_on (grown_on (grown_on (grown_on (grown_on (grown_on (grown_on (nb_set w6 (w.heap.size + 1) 0 (.string c.who)) (nb_set _ (w.heap.size + 1) 1 (.string c.fo))) (nb_set _ (w.heap.size + 1) 2 (.slice xa c.base.length xc))) (nb_set _ (w.heap.size + 1) 3 (.int .i64 c.cur))) (nb_set _ (w.heap.size + 1) 4 (.slice ya c.mine.length yc))) (nb_set _ (w.heap.size + 1) 5 (.string c.key))) (nb_set _ (w.heap.size + 1) 6 (.slice za c.ask.length zc))) (nb_set _ (w.heap.size + 1) 7 (.int .i64 c.keys))) hNz).mono (by omega)
  · exact ((((((((hb6.setCell (p := ⟨w.heap.size + 1, 0, none⟩) (Nat.le_succ _) _).setCell (p := ⟨w.heap.size + 1, 1, none⟩) (Nat.le_succ _) _).setCell (p := ⟨w.heap.size + 1, 2, none⟩) (Nat.le_succ _) _).setCell (p := ⟨w.heap.size + 1, 3, none⟩) (Nat.le_succ _) _).setCell (p := ⟨w.heap.size + 1, 4, none⟩) (Nat.le_succ _) _).setCell (p := ⟨w.heap.size + 1, 5, none⟩) (Nat.le_succ _) _).setCell (p := ⟨w.heap.size + 1, 6, none⟩) (Nat.le_succ _) _).setCell (p := ⟨w.heap.size + 1, 7, none⟩) (Nat.le_succ _) _)
end Go.Proofs.YtlllcifehellpaaGreatDoor
set_option linter.unusedSimpArgs false
set_option linter.unusedVariables false
namespace Go.Proofs.YtlllcifehellpaaGreatDoor
open Go.RowKit

namespace Cy
def ok (c : Cn) : Cn := if chE c = 0 then c else zeroN
theorem ok_yes {c : Cn} (h : chE c = 0) : ok c = c := if_pos h
theorem ok_no {c : Cn} (h : ¬ chE c = 0) : ok c = zeroN := if_neg h
theorem ch_parts {c : Cn} (h : chE c = 0) : cnE c.who c.fo = 0 ∧ Pp.treeE c.base = 0 ∧ Pp.treeE c.mine = 0 ∧ rgB c = false ∧ caE c.key c.ask.length = 0 := by
  unfold chE at h
  split at h
  · rename_i h1; exact absurd h h1
  · rename_i h1
    split at h
    · rename_i h2; exact absurd h h2
    · rename_i h2
      split at h
      · rename_i h3; exact absurd h h3
      · rename_i h3
        split at h
        · cases h
        · rename_i h4
          exact ⟨Classical.not_not.1 h1, Classical.not_not.1 h2, Classical.not_not.1 h3, by simpa using h4, h⟩
theorem ca_len {key : ByteArray} {n : Nat} (h : caE key n = 0) : n ≤ 20 := by
  unfold caE at h
  split at h
  · cases h
  · split at h
    · cases h
    · split at h
      · cases h
      · omega
theorem ch_len {c : Cn} (h : chE c = 0) : c.base.length ≤ 60 ∧ c.mine.length ≤ 60 ∧ c.ask.length ≤ 20 := by
  obtain ⟨_, h2, h3, _, h5⟩ := ch_parts h
  exact ⟨((Pp.good_iff _).1 h2).len, ((Pp.good_iff _).1 h3).len, ca_len h5⟩
end Cy

set_option maxRecDepth 100000 in
set_option maxHeartbeats 4000000 in
theorem checked_any (c : Cn) (v : Value) (w : World) (hv : LiesN w v c) (hs : SizedN c) :
    Calls Tryz.prog 10 #[v] w fun e w' => ∃ u, e = .returned (.tuple #[u, .int .i64 (Cy.chE c)]) ∧ OwnN w.heap.size w' u (Cy.ok c) ∧ Below w.heap.size w w' := by
  have HV := hid hv
  have HS := hid hs
  obtain ⟨vb, vm, va, rfl, lb, lm, la⟩ := hv
  obtain ⟨ab, cb, rfl, _⟩ := lb
  obtain ⟨am, cm, rfl, _⟩ := lm
  obtain ⟨aa, ca, rfl, _⟩ := la
  clear hs
  obtain ⟨wz, hwz⟩ : ∃ wz, wz = (w.alloc (.cells #[.string c.who, .string c.fo, .slice ab c.base.length cb, .int .i64 c.cur, .slice am c.mine.length cm, .string c.key, .slice aa c.ask.length ca, .int .i64 c.keys] 25)).alloc (.cells #[.string ⟨#[]⟩, .string ⟨#[]⟩, .slice none 0 0, .int .i64 0, .slice none 0 0, .string ⟨#[]⟩, .slice none 0 0, .int .i64 0] 25) := ⟨_, rfl⟩
  have hbz : Below w.heap.size w wz := by rw [hwz]; exact ((Below.refl _ _).alloc (Nat.le_refl _) _).alloc (by simp) _
  have HBX : Hid (Cs wz w.heap.size [.string c.who, .string c.fo, .slice ab c.base.length cb, .int .i64 c.cur, .slice am c.mine.length cm, .string c.key, .slice aa c.ask.length ca, .int .i64 c.keys]) := (by rw [hwz]; exact (Cs.new w [.string c.who, .string c.fo, .slice ab c.base.length cb, .int .i64 c.cur, .slice am c.mine.length cm, .string c.key, .slice aa c.ask.length ca, .int .i64 c.keys] _).below ((Below.refl _ _).alloc (Nat.le_refl _) _) : Cs wz w.heap.size _)
  have HBY : Hid (Cs wz (w.heap.size + 1) zs) := (by
    have := Cs.new (w.alloc (.cells #[.string c.who, .string c.fo, .slice ab c.base.length cb, .int .i64 c.cur, .slice am c.mine.length cm, .string c.key, .slice aa c.ask.length ca, .int .i64 c.keys] 25)) zs 25
    rw [hwz]; simpa using this : Cs wz (w.heap.size + 1) zs)
  have hNz : w.heap.size + 1 < wz.heap.size := HBY.out.lt
  go_enter Tryz.func10, Tryz.ntmps10
  go_wp2_with fail
  rw [← hwz]
  clear hwz
  refine (ccheck_any c _ _ (HV.out.below hbz) HS.out).mono ?_
  rintro e w1 ⟨rfl, hb1⟩
  have hb01 := below_tr hbz hb1
  have hs1 := hb1.size
  have HX1 := hid (HBX.out.below hb1)
  have HY1 := hid (HBY.out.below hb1)
  have hne : ¬ w.heap.size = w.heap.size + 1 := by omega
  by_cases h0 : Cy.chE c = 0
  · have HZ := hid h0
    have hlen := Cy.ch_len h0
    rw [h0]
    clear h0
    have a0 := HX1.out.cell 0 rfl
    have a1 := HX1.out.cell 1 rfl
    have a2 := HX1.out.cell 2 rfl
    have a3 := HX1.out.cell 3 rfl
    have a4 := HX1.out.cell 4 rfl
    have a5 := HX1.out.cell 5 rfl
    have a6 := HX1.out.cell 6 rfl
    have a7 := HX1.out.cell 7 rfl
    go_wp2_with fail
    refine (ownClient_any c _ _ (HV.out.below hb01) (by omega) (by omega) (by omega)).mono ?_
    rintro e w2 ⟨u, rfl, hN2, hb2⟩
    have hb02 := below_tr hb01 hb2
    have HY2 := hid (HY1.out.below hb2)
    have HN2 := hid hN2
    obtain ⟨vb, vm, va, rfl, ⟨lb2, _⟩, ⟨lm2, _⟩, la2, _⟩ := hN2
    obtain ⟨xb, yb, rfl, _⟩ := lb2
    obtain ⟨xm, ym, rfl, _⟩ := lm2
    obtain ⟨xa, ya, rfl, _⟩ := la2
    clear a0 a1 a2 a3 a4 a5 a6 a7
    have y0 := HY2.out.cell 0 rfl
    have g0 := HY2.out.fr 0
    have y1 := HY2.out.cell 1 rfl
    have g1 := HY2.out.fr 1
    have y2 := HY2.out.cell 2 rfl
    have g2 := HY2.out.fr 2
    have y3 := HY2.out.cell 3 rfl
    have g3 := HY2.out.fr 3
    have y4 := HY2.out.cell 4 rfl
    have g4 := HY2.out.fr 4
    have y5 := HY2.out.cell 5 rfl
    have g5 := HY2.out.fr 5
    have y6 := HY2.out.cell 6 rfl
    have g6 := HY2.out.fr 6
    have y7 := HY2.out.cell 7 rfl
    have g7 := HY2.out.fr 7
    go_wp2_with fail
    refine bodyPost_ret (v := .tuple #[.agg #[.string c.who, .string c.fo, .slice xb c.base.length yb, .int .i64 c.cur, .slice xm c.mine.length ym, .string c.key, .slice xa c.ask.length ya, .int .i64 c.keys], .int .i64 0]) (by simp [results, Tryz.results10, go_sem, y0, y1, y2, y3, y4, y5, y6, y7]) rfl ⟨_, by rw [HZ.out], ?_, ?_⟩
    · rw [Cy.ok_yes HZ.out]
      exact (HN2.out.nbo (grown_on (grown_on (grown_on (grown_on (grown_on (grown_on (grown_on (nb_set w2 (w.heap.size + 1) 0 (.string c.who)) (nb_set _ (w.heap.size + 1) 1 (.string c.fo))) (nb_set _ (w.heap.size + 1) 2 (.slice xb c.base.length yb))) (nb_set _ (w.heap.size + 1) 3 (.int .i64 c.cur))) (nb_set _ (w.heap.size + 1) 4 (.slice xm c.mine.length ym))) (nb_set _ (w.heap.size + 1) 5 (.string c.key))) (nb_set _ (w.heap.size + 1) 6 (.slice xa c.ask.length ya))) (nb_set _ (w.heap.size + 1) 7 (.int .i64 c.keys))) (by omega)).mono (by omega)
    · exact ((((((((hb02.setCell (p := ⟨w.heap.size + 1, 0, none⟩) (Nat.le_succ _) _).setCell (p := ⟨w.heap.size + 1, 1, none⟩) (Nat.le_succ _) _).setCell (p := ⟨w.heap.size + 1, 2, none⟩) (Nat.le_succ _) _).setCell (p := ⟨w.heap.size + 1, 3, none⟩) (Nat.le_succ _) _).setCell (p := ⟨w.heap.size + 1, 4, none⟩) (Nat.le_succ _) _).setCell (p := ⟨w.heap.size + 1, 5, none⟩) (Nat.le_succ _) _).setCell (p := ⟨w.heap.size + 1, 6, none⟩) (Nat.le_succ _) _).setCell (p := ⟨w.heap.size + 1, 7, none⟩) (Nat.le_succ _) _)
  · have HZ := hid (Cy.ok_no h0)
    have h0' : (Cy.chE c != 0) = true := by simpa using h0
    obtain ⟨r, hr⟩ : ∃ r, r = Cy.chE c := ⟨_, rfl⟩
    rw [← hr] at h0' ⊢
    have HRE := hid hr
    clear h0 hr
    have y0 := HY1.out.cell 0 rfl
    have g0 := HY1.out.fr 0
    have y1 := HY1.out.cell 1 rfl
    have g1 := HY1.out.fr 1
    have y2 := HY1.out.cell 2 rfl
    have g2 := HY1.out.fr 2
    have y3 := HY1.out.cell 3 rfl
    have g3 := HY1.out.fr 3
    have y4 := HY1.out.cell 4 rfl
    have g4 := HY1.out.fr 4
    have y5 := HY1.out.cell 5 rfl
    have g5 := HY1.out.fr 5
    have y6 := HY1.out.cell 6 rfl
    have g6 := HY1.out.fr 6
    have y7 := HY1.out.cell 7 rfl
    have g7 := HY1.out.fr 7
    go_wp2_with fail
    refine bodyPost_ret (v := .tuple #[.agg #[.string ⟨#[]⟩, .string ⟨#[]⟩, .slice none 0 0, .int .i64 0, .slice none 0 0, .string ⟨#[]⟩, .slice none 0 0, .int .i64 0], .int .i64 r]) (by simp [results, Tryz.results10, go_sem, y0, y1, y2, y3, y4, y5, y6, y7]) rfl ⟨_, by rw [HRE.out], ?_, ?_⟩
    · rw [HZ.out]
      exact ownN_zero _ _
    · exact ((((((((hb01.setCell (p := ⟨w.heap.size + 1, 0, none⟩) (Nat.le_succ _) _).setCell (p := ⟨w.heap.size + 1, 1, none⟩) (Nat.le_succ _) _).setCell (p := ⟨w.heap.size + 1, 2, none⟩) (Nat.le_succ _) _).setCell (p := ⟨w.heap.size + 1, 3, none⟩) (Nat.le_succ _) _).setCell (p := ⟨w.heap.size + 1, 4, none⟩) (Nat.le_succ _) _).setCell (p := ⟨w.heap.size + 1, 5, none⟩) (Nat.le_succ _) _).setCell (p := ⟨w.heap.size + 1, 6, none⟩) (Nat.le_succ _) _).setCell (p := ⟨w.heap.size + 1, 7, none⟩) (Nat.le_succ _) _)
def newN (who fo : ByteArray) : Cn := ⟨who, fo, [], 0, [], ⟨#[]⟩, [], 0⟩
theorem liesN_new (who fo : ByteArray) (w : World) : LiesN w (.agg #[.string who, .string fo, .slice none 0 0, .int .i64 0, .slice none 0 0, .string ⟨#[]⟩, .slice none 0 0, .int .i64 0]) (newN who fo) :=
  ⟨_, _, _, rfl, lies_nil _, lies_nil _, ⟨none, 0, rfl, Nat.le_refl _, Nat.zero_le _, fun i h => absurd h (by simp [newN])⟩⟩
theorem sizedN_new {who fo : ByteArray} (h1 : who.size ≤ 150000000000000) (h2 : fo.size ≤ 150000000000000) : SizedN (newN who fo) := ⟨h1, h2, Nat.zero_le _, (fun e he => (by cases he)), (fun e he => (by cases he))⟩

set_option maxRecDepth 100000 in
set_option maxHeartbeats 4000000 in
theorem cnew_any (who fo : ByteArray) (w : World) (h1 : who.size ≤ 150000000000000) (h2 : fo.size ≤ 150000000000000) :
    Calls Tryz.prog 18 #[.string who, .string fo] w fun e w' => ∃ u, e = .returned (.tuple #[u, .int .i64 (Cy.chE (newN who fo))]) ∧ OwnN w.heap.size w' u (Cy.ok (newN who fo)) ∧ Below w.heap.size w w' := by
  obtain ⟨r, hr⟩ : ∃ r, r = Cy.chE (newN who fo) := ⟨_, rfl⟩
  have HR := hid hr
  rw [← hr]
  clear hr
  obtain ⟨wz, hwz⟩ : ∃ wz, wz = w.alloc (.cells #[.string ⟨#[]⟩, .string ⟨#[]⟩, .slice none 0 0, .int .i64 0, .slice none 0 0, .string ⟨#[]⟩, .slice none 0 0, .int .i64 0] 25) := ⟨_, rfl⟩
  have hbz : Below w.heap.size w wz := by rw [hwz]; exact (Below.refl _ _).alloc (Nat.le_refl _) _
  have HBY : Hid (Cs wz w.heap.size zs) := (by rw [hwz]; exact Cs.new w zs 25 : Cs wz w.heap.size zs)
  have hNz : w.heap.size < wz.heap.size := HBY.out.lt
  go_enter Tryz.func18, Tryz.ntmps18
  go_wp2_with fail
  rw [← hwz]
  clear hwz
  refine (checked_any (newN who fo) _ _ (liesN_new who fo _) (sizedN_new h1 h2)).mono ?_
  rintro e w2 ⟨u, rfl, hN2, hb2⟩
  rw [← HR.out]
  have hb02 := below_tr hbz hb2
  have HY2 := hid (HBY.out.below hb2)
  obtain ⟨c, hc⟩ : ∃ c, c = Cy.ok (newN who fo) := ⟨_, rfl⟩
  rw [← hc] at hN2
  have HC := hid hc
  clear hc
  have HN2 := hid hN2
  obtain ⟨vb, vm, va, rfl, ⟨lb2, _⟩, ⟨lm2, _⟩, la2, _⟩ := hN2
  obtain ⟨xb, yb, rfl, _⟩ := lb2
  obtain ⟨xm, ym, rfl, _⟩ := lm2
  obtain ⟨xa, ya, rfl, _⟩ := la2
  have y0 := HY2.out.cell 0 rfl
  have g0 := HY2.out.fr 0
  have y1 := HY2.out.cell 1 rfl
  have g1 := HY2.out.fr 1
  have y2 := HY2.out.cell 2 rfl
  have g2 := HY2.out.fr 2
  have y3 := HY2.out.cell 3 rfl
  have g3 := HY2.out.fr 3
  have y4 := HY2.out.cell 4 rfl
  have g4 := HY2.out.fr 4
  have y5 := HY2.out.cell 5 rfl
  have g5 := HY2.out.fr 5
  have y6 := HY2.out.cell 6 rfl
  have g6 := HY2.out.fr 6
  have y7 := HY2.out.cell 7 rfl
  have g7 := HY2.out.fr 7
  go_wp2_with fail
  refine bodyPost_ret (v := .tuple #[.agg #[.string c.who, .string c.fo, .slice xb c.base.length yb, .int .i64 c.cur, .slice xm c.mine.length ym, .string c.key, .slice xa c.ask.length ya, .int .i64 c.keys], .int .i64 r]) (by simp [results, Tryz.results18, go_sem, y0, y1, y2, y3, y4, y5, y6, y7]) rfl ⟨_, rfl, ?_, ?_⟩
  · rw [← HC.out]
    exact (HN2.out.nbo (grown_on (grown_on (grown_on (grown_on (grown_on (grown_on (grown_on (nb_set w2 (w.heap.size) 0 (.string c.who)) (nb_set _ (w.heap.size) 1 (.string c.fo))) (nb_set _ (w.heap.size) 2 (.slice xb c.base.length yb))) (nb_set _ (w.heap.size) 3 (.int .i64 c.cur))) (nb_set _ (w.heap.size) 4 (.slice xm c.mine.length ym))) (nb_set _ (w.heap.size) 5 (.string c.key))) (nb_set _ (w.heap.size) 6 (.slice xa c.ask.length ya))) (nb_set _ (w.heap.size) 7 (.int .i64 c.keys))) (by omega)).mono hbz.size
  · exact ((((((((hb02.setCell (p := ⟨w.heap.size, 0, none⟩) (Nat.le_refl _) _).setCell (p := ⟨w.heap.size, 1, none⟩) (Nat.le_refl _) _).setCell (p := ⟨w.heap.size, 2, none⟩) (Nat.le_refl _) _).setCell (p := ⟨w.heap.size, 3, none⟩) (Nat.le_refl _) _).setCell (p := ⟨w.heap.size, 4, none⟩) (Nat.le_refl _) _).setCell (p := ⟨w.heap.size, 5, none⟩) (Nat.le_refl _) _).setCell (p := ⟨w.heap.size, 6, none⟩) (Nat.le_refl _) _).setCell (p := ⟨w.heap.size, 7, none⟩) (Nat.le_refl _) _)
end Go.Proofs.YtlllcifehellpaaGreatDoor
