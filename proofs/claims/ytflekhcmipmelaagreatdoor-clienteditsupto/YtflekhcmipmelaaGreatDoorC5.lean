/- The reference's SameClient and the laws' clientIs, of the same clients. -/
import Derived.Test.YtflekhcmipmelaaGreatDoorPJ
import Derived.Test.YtflekhcmipmelaaGreatDoorTSam
import Derived.Test.YtflekhcmipmelaaGreatDoorPO
set_option linter.unusedSimpArgs false
set_option linter.unusedVariables false
namespace Go.Proofs.YtflekhcmipmelaaGreatDoor
open Go.RowKit

set_option maxRecDepth 100000 in
set_option maxHeartbeats 4000000 in
theorem sameClient_yes (c : Cn) (v u : Value) (w : World) (hv : LiesN w v c) (hu : LiesN w u c) :
    Calls Tryz.prog 24 #[v, u] w fun e w' => e = .returned (.bool true) ∧ Below w.heap.size w w' := by
  obtain ⟨vb, vm, va, rfl, lb, lm, la⟩ := hv
  obtain ⟨ub, um, ua, rfl, lb', lm', la'⟩ := hu
  have HB := hid lb
  have HM := hid lm
  have HA := hid la
  have HB' := hid lb'
  have HM' := hid lm'
  have HA' := hid la'
  obtain ⟨ab, cb, rfl, _⟩ := lb
  obtain ⟨am, cm, rfl, _⟩ := lm
  obtain ⟨aa, ca, rfl, _⟩ := la
  obtain ⟨ab', cb', rfl, _⟩ := lb'
  obtain ⟨am', cm', rfl, _⟩ := lm'
  obtain ⟨aa', ca', rfl, _⟩ := la'
  obtain ⟨wz, hwz⟩ : ∃ wz, wz = (w.alloc (.cells #[.string c.who, .string c.fo, .slice ab c.base.length cb, .int .i64 c.cur, .slice am c.mine.length cm, .string c.key, .slice aa c.ask.length ca, .int .i64 c.keys] 25)).alloc (.cells #[.string c.who, .string c.fo, .slice ab' c.base.length cb', .int .i64 c.cur, .slice am' c.mine.length cm', .string c.key, .slice aa' c.ask.length ca', .int .i64 c.keys] 25) := ⟨_, rfl⟩
  have hbz : Below w.heap.size w wz := by rw [hwz]; exact ((Below.refl _ _).alloc (Nat.le_refl _) _).alloc (by simp) _
  have HX : Hid (Cs wz w.heap.size [.string c.who, .string c.fo, .slice ab c.base.length cb, .int .i64 c.cur, .slice am c.mine.length cm, .string c.key, .slice aa c.ask.length ca, .int .i64 c.keys]) := (by rw [hwz]; exact (Cs.new w [.string c.who, .string c.fo, .slice ab c.base.length cb, .int .i64 c.cur, .slice am c.mine.length cm, .string c.key, .slice aa c.ask.length ca, .int .i64 c.keys] _).below ((Below.refl _ _).alloc (Nat.le_refl _) _) : Cs wz w.heap.size _)
  have HY : Hid (Cs wz (w.heap.size + 1) [.string c.who, .string c.fo, .slice ab' c.base.length cb', .int .i64 c.cur, .slice am' c.mine.length cm', .string c.key, .slice aa' c.ask.length ca', .int .i64 c.keys]) := (by
    have := Cs.new (w.alloc (.cells #[.string c.who, .string c.fo, .slice ab c.base.length cb, .int .i64 c.cur, .slice am c.mine.length cm, .string c.key, .slice aa c.ask.length ca, .int .i64 c.keys] 25)) [.string c.who, .string c.fo, .slice ab' c.base.length cb', .int .i64 c.cur, .slice am' c.mine.length cm', .string c.key, .slice aa' c.ask.length ca', .int .i64 c.keys] 25
    rw [hwz]; simpa using this : Cs wz (w.heap.size + 1) _)
  go_enter Tryz.func24, Tryz.ntmps24
  go_wp2_with fail
  rw [← hwz]
  clear hwz
  refine (same_yes c.base _ _ _ (HB.out.below hbz) (HB'.out.below hbz)).mono ?_
  rintro e w1 ⟨rfl, hb1⟩
  have hb01 := below_tr hbz hb1
  have HX1 := hid (HX.out.below hb1)
  have HY1 := hid (HY.out.below hb1)
  have a3 := HX1.out.cell 3 rfl
  have a4 := HX1.out.cell 4 rfl
  have b3 := HY1.out.cell 3 rfl
  have b4 := HY1.out.cell 4 rfl
  go_wp2_with fail
  refine (same_yes c.mine _ _ _ (HM.out.below hb01) (HM'.out.below hb01)).mono ?_
  rintro e w2 ⟨rfl, hb2⟩
  have hb02 := below_tr hb01 hb2
  have HX2 := hid (HX1.out.below hb2)
  have HY2 := hid (HY1.out.below hb2)
  clear a3 a4 b3 b4
  have a5 := HX2.out.cell 5 rfl
  have a6 := HX2.out.cell 6 rfl
  have b5 := HY2.out.cell 5 rfl
  have b6 := HY2.out.cell 6 rfl
  go_wp2_with fail
  refine (sameChg_yes c.ask _ _ _ (HA.out.below hb02) (HA'.out.below hb02)).mono ?_
  rintro e w3 ⟨rfl, hb3⟩
  have hb03 := below_tr hb02 hb3
  have HX3 := hid (HX2.out.below hb3)
  have HY3 := hid (HY2.out.below hb3)
  clear a5 a6 b5 b6
  have a7 := HX3.out.cell 7 rfl
  have b7 := HY3.out.cell 7 rfl
  go_wp2_with fail
  go_ret
  exact ⟨rfl, hb03⟩
set_option maxRecDepth 100000 in
set_option maxHeartbeats 4000000 in
theorem clientIs_yes (c d : Cn) (v u : Value) (r : Int) (w : World) (hv : LiesN w v (if r = 0 then c else zeroN)) (hu : LiesN w u d) (hd : r = 0 → d = c) :
    Calls Tryz.prog 11 #[v, .int .i64 r, .int .i64 r, u] w fun e w' => e = .returned (.bool true) ∧ Below w.heap.size w w' := by
  obtain ⟨x, hx⟩ : ∃ x, x = (if r = 0 then c else zeroN) := ⟨_, rfl⟩
  rw [← hx] at hv
  have HV := hid hv
  have HU := hid hu
  have HX0 := hid hx
  have HD := hid hd
  obtain ⟨vb, vm, va, rfl, lb, lm, la⟩ := hv
  obtain ⟨ub, um, ua, rfl, lb', lm', la'⟩ := hu
  obtain ⟨axb, cxb, rfl, _⟩ := lb
  obtain ⟨axm, cxm, rfl, _⟩ := lm
  obtain ⟨axa, cxa, rfl, _⟩ := la
  obtain ⟨adb, cdb, rfl, _⟩ := lb'
  obtain ⟨adm, cdm, rfl, _⟩ := lm'
  obtain ⟨ada, cda, rfl, _⟩ := la'
  clear hx hd
  obtain ⟨wz, hwz⟩ : ∃ wz, wz = (w.alloc (.cells #[.string x.who, .string x.fo, .slice axb x.base.length cxb, .int .i64 x.cur, .slice axm x.mine.length cxm, .string x.key, .slice axa x.ask.length cxa, .int .i64 x.keys] 25)).alloc (.cells #[.string d.who, .string d.fo, .slice adb d.base.length cdb, .int .i64 d.cur, .slice adm d.mine.length cdm, .string d.key, .slice ada d.ask.length cda, .int .i64 d.keys] 25) := ⟨_, rfl⟩
  have hbz : Below w.heap.size w wz := by rw [hwz]; exact ((Below.refl _ _).alloc (Nat.le_refl _) _).alloc (by simp) _
  by_cases h0 : r = 0
  · have HE : Hid (x = d) := (by rw [HX0.out, if_pos h0]; exact (HD.out h0).symm : x = d)
    subst h0
    clear HX0 HD
    go_enter Tryz.func11, Tryz.ntmps11
    go_wp2_with fail
    rw [← hwz]
    clear hwz
    refine (sameClient_yes d _ _ _ (by rw [← HE.out]; exact HV.out.below hbz) (HU.out.below hbz)).mono ?_
    rintro e w1 ⟨rfl, hb1⟩
    have hb01 := below_tr hbz hb1
    go_wp2_with fail
    go_ret
    exact ⟨rfl, hb01⟩
  · have HE : Hid (x = zeroN) := (by rw [HX0.out, if_neg h0] : x = zeroN)
    have h0' : (r != 0) = true := by simpa using h0
    clear HX0 HD h0
    go_enter Tryz.func11, Tryz.ntmps11
    go_wp2_with fail
    have hbq : ∀ o : Obj, Below w.heap.size w ((w.alloc (.cells #[.string x.who, .string x.fo, .slice axb x.base.length cxb, .int .i64 x.cur, .slice axm x.mine.length cxm, .string x.key, .slice axa x.ask.length cxa, .int .i64 x.keys] 25)).alloc o) := fun o => ((Below.refl _ _).alloc (Nat.le_refl _) _).alloc (by simp) _
    refine (sameClient_yes zeroN _ _ _ (by rw [← HE.out]; exact HV.out.below (hbq _)) (ownN_zero 0 _).lies).mono ?_
    rintro e w1 ⟨rfl, hb1⟩
    have hb01 := below_tr (hbq _) hb1
    go_wp2_with fail
    go_ret
    exact ⟨rfl, hb01⟩
end Go.Proofs.YtflekhcmipmelaaGreatDoor
