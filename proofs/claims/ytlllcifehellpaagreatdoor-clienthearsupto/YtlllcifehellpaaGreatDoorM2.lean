/- A joining of two sides in memory; what isFree and version answer. -/
import Derived.Test.YtlllcifehellpaaGreatDoorQN
set_option linter.unusedSimpArgs false
set_option linter.unusedVariables false
namespace Go.Proofs.YtlllcifehellpaaGreatDoor
open Go.RowKit Go.Maps Go.WideMaps

/-- What is at a path of a list, as a spot. -/
def Mg.st (L : List En) (p : List UInt8) : Spo := ⟨Sp.wAt L p, Sp.tAt L p, Sp.vAt L p⟩
theorem spotSt {b n : Nat} {w : World} {L : List En} (h : w.ownsMap Tryz.prog 9 Sp.rd b n (Sp.D L)) (hL : Sp.Apart L) (p : ByteArray) (hp : p.size ≤ maxLen) : (Instr.lookup 96 (.map (some b)) (.string p) false).run Tryz.prog w = .ok (.agg #[.int .i64 (Mg.st L p.data.toList).w, .string (Mg.st L p.data.toList).t, .int .i64 (Mg.st L p.data.toList).v]) w := by
  have := spotAt_any h hL p hp
  rw [Sp.val_eq] at this
  exact this
/-- A joining: its box, and what its three maps hold. -/
structure Join (w : World) (j bm bt bn : Nat) (vc : Value) (M T N : List En) : Prop where
  box : Cs w j [.map (some bm), .map (some bt), .map (some bn), vc]
  mine : ∃ n, n ≤ 1000000 ∧ w.ownsMap Tryz.prog 9 Sp.rd bm n (Sp.D M)
  theirs : ∃ n, n ≤ 1000000 ∧ w.ownsMap Tryz.prog 9 Sp.rd bt n (Sp.D T)
  now : ∃ n, n ≤ 1000000 ∧ w.ownsMap Tryz.prog 9 Sp.rd bn n (Sp.D N)
theorem Join.below {w w' : World} {j bm bt bn : Nat} {vc : Value} {M T N : List En} (h : Join w j bm bt bn vc M T N) (hw : Below w.heap.size w w') : Join w' j bm bt bn vc M T N := by
  obtain ⟨h1, ⟨n1, l1, m1⟩, ⟨n2, l2, m2⟩, ⟨n3, l3, m3⟩⟩ := h
  exact ⟨h1.below hw, ⟨n1, l1, omap_below m1 hw m1.lt⟩, ⟨n2, l2, omap_below m2 hw m2.lt⟩, ⟨n3, l3, omap_below m3 hw m3.lt⟩⟩
namespace Mg
def free (M T N : List En) (p : List UInt8) : Bool := ((st M p).w == 0) && ((st T p).w == 0) && ((st N p).w == 0)
def ver (M T N : List En) (p : List UInt8) : Int := if lk (st N p) (st T p) = true then (st T p).v else if lk (st N p) (st M p) = true then (st M p).v else 1
end Mg
theorem Tryz.fieldVer (a : Int) (s : ByteArray) (n : Int) (W : World) : (Instr.field 114 (.agg #[.int .i64 a, .string s, .int .i64 n]) 2).run Tryz.prog W = .ok (.int .i64 n) W := by
  have h : (Instr.field 114 (.agg #[.int .i64 a, .string s, .int .i64 n]) 2).run Tryz.prog W = .ok (#[Value.int .i64 a, Value.string s, Value.int .i64 n][2]) W := by
    simp [Instr.field, run_underlying Tryz.underlying114, asAgg, part, go_sem]
    try rfl
  exact h

set_option maxRecDepth 100000 in
set_option maxHeartbeats 2000000 in
theorem isFree_any {w : World} {j bm bt bn : Nat} {vc : Value} {M T N : List En} (h : Join w j bm bt bn vc M T N) (hM : Sp.Apart M) (hT : Sp.Apart T) (hN : Sp.Apart N) (p : ByteArray) (hp : p.size ≤ maxLen) :
    Calls Tryz.prog 99 #[.pointer (some ⟨j, 0, none⟩), .string p] w fun e w' => e = .returned (.bool (Mg.free M T N p.data.toList)) ∧ Below w.heap.size w w' := by
  obtain ⟨h1, ⟨n1, _, m1⟩, ⟨n2, _, m2⟩, ⟨n3, _, m3⟩⟩ := h
  have k1 := spotSt m1 hM p hp
  have k2 := spotSt m2 hT p hp
  have k3 := spotSt m3 hN p hp
  have c0 := h1.cell 0 rfl
  have c1 := h1.cell 1 rfl
  have c2 := h1.cell 2 rfl
  have HF : Hid (Mg.free M T N p.data.toList = (((Mg.st M p.data.toList).w == 0) && ((Mg.st T p.data.toList).w == 0) && ((Mg.st N p.data.toList).w == 0))) := (rfl : Mg.free M T N p.data.toList = (((Mg.st M p.data.toList).w == 0) && ((Mg.st T p.data.toList).w == 0) && ((Mg.st N p.data.toList).w == 0)))
  generalize Mg.st M p.data.toList = x at *
  generalize Mg.st T p.data.toList = y at *
  generalize Mg.st N p.data.toList = z at *
  have hfd := Tryz.fieldWhat
  clear h1 m1 m2 m3
  cases hx : (x.w == 0) with
  | false =>
    go_enter Tryz.func99, Tryz.ntmps99
    go_wp2
    go_ret
    exact ⟨by rw [HF.out, hx]; rfl, Below.refl _ _⟩
  | true =>
    cases hy : (y.w == 0) with
    | false =>
      go_enter Tryz.func99, Tryz.ntmps99
      go_wp2
      go_ret
      exact ⟨by rw [HF.out, hx, hy]; rfl, Below.refl _ _⟩
    | true =>
      go_enter Tryz.func99, Tryz.ntmps99
      go_wp2
      go_ret
      exact ⟨by rw [HF.out, hx, hy]; simp, Below.refl _ _⟩

set_option maxRecDepth 100000 in
set_option maxHeartbeats 2000000 in
theorem version_any {w : World} {j bm bt bn : Nat} {vc : Value} {M T N : List En} (h : Join w j bm bt bn vc M T N) (hM : Sp.Apart M) (hT : Sp.Apart T) (hN : Sp.Apart N) (p : ByteArray) (hp : p.size ≤ maxLen) :
    Calls Tryz.prog 78 #[.pointer (some ⟨j, 0, none⟩), .string p] w fun e w' => e = .returned (.int .i64 (Mg.ver M T N p.data.toList)) ∧ Below w.heap.size w w' := by
  have HJ := hid h
  have HK : Hid (∀ W, Below w.heap.size w W → (Instr.lookup 96 (.map (some bm)) (.string p) false).run Tryz.prog W = .ok (.agg #[.int .i64 (Mg.st M p.data.toList).w, .string (Mg.st M p.data.toList).t, .int .i64 (Mg.st M p.data.toList).v]) W ∧ (Instr.lookup 96 (.map (some bt)) (.string p) false).run Tryz.prog W = .ok (.agg #[.int .i64 (Mg.st T p.data.toList).w, .string (Mg.st T p.data.toList).t, .int .i64 (Mg.st T p.data.toList).v]) W ∧ (Instr.lookup 96 (.map (some bn)) (.string p) false).run Tryz.prog W = .ok (.agg #[.int .i64 (Mg.st N p.data.toList).w, .string (Mg.st N p.data.toList).t, .int .i64 (Mg.st N p.data.toList).v]) W) := (fun W hW => by
    obtain ⟨_, ⟨_, _, m1⟩, ⟨_, _, m2⟩, ⟨_, _, m3⟩⟩ := HJ.out.below hW
    exact ⟨spotSt m1 hM p hp, spotSt m2 hT p hp, spotSt m3 hN p hp⟩ : _)
  have HBX := hid h.box
  obtain ⟨k1, k2, k3⟩ := HK.out w (Below.refl _ _)
  have c0 := h.box.cell 0 rfl
  have c1 := h.box.cell 1 rfl
  have c2 := h.box.cell 2 rfl
  have hfd := Tryz.fieldVer
  have HV : Hid (Mg.ver M T N p.data.toList = if Mg.lk (Mg.st N p.data.toList) (Mg.st T p.data.toList) = true then (Mg.st T p.data.toList).v else if Mg.lk (Mg.st N p.data.toList) (Mg.st M p.data.toList) = true then (Mg.st M p.data.toList).v else 1) := (rfl : _)
  generalize Mg.st M p.data.toList = x at *
  generalize Mg.st T p.data.toList = y at *
  generalize Mg.st N p.data.toList = z at *
  clear h hM hT hN
  obtain ⟨wz, hwz⟩ : ∃ wz, wz = w.alloc (.cells #[.int .i64 z.w, .string z.t, .int .i64 z.v] 114) := ⟨_, rfl⟩
  have hbz : Below w.heap.size w wz := by rw [hwz]; exact (Below.refl _ _).alloc (Nat.le_refl _) _
  have hjl := HBX.out.lt
  have HX : Hid (Cs wz w.heap.size [.int .i64 z.w, .string z.t, .int .i64 z.v]) := (by rw [hwz]; exact Cs.new _ [.int .i64 z.w, .string z.t, .int .i64 z.v] _ : Cs wz w.heap.size [.int .i64 z.w, .string z.t, .int .i64 z.v])
  cases h1 : Mg.lk z y with
  | true =>
    have HE : Hid (Mg.ver M T N p.data.toList = y.v) := (by rw [HV.out, if_pos h1] : Mg.ver M T N p.data.toList = y.v)
    have H1 : Hid (((z.w == y.w) && (z.t.toList == y.t.toList)) = true) := h1
    clear h1 HV
    have c0' := c0
    go_enter Tryz.func78, Tryz.ntmps78
    go_wp2_with fail
    rw [← hwz]
    clear hwz k1 k2 k3 c0 c1 c2 c0'
    obtain ⟨q1, q2, q3⟩ := HK.out wz.drew hbz.drew
    have x0 := (HX.out).cell 0 rfl
    have x1 := (HX.out).cell 1 rfl
    have x2 := (HX.out).cell 2 rfl
    have d0 := (HBX.out.below hbz).cell 0 rfl
    have d1 := (HBX.out.below hbz).cell 1 rfl
    go_region_with (go_at_call 101; refine (like_any z.w y.w z.t y.t z.v y.v _).mono ?_; rintro e w1 ⟨rfl, hb1⟩; rw [H1.out])
    all_goals
      have hb01 := below_tr hbz.drew hb1
      obtain ⟨r1, r2, r3⟩ := HK.out w1 hb01
      have f0 := (HBX.out.below hb01).cell 0 rfl
      have f1 := (HBX.out.below hb01).cell 1 rfl
      go_wp2_with fail
      go_ret
      exact ⟨by rw [HE.out] <;> rfl, hb01⟩
  | false =>
    cases h2 : Mg.lk z x with
    | true =>
      have HE : Hid (Mg.ver M T N p.data.toList = x.v) := (by rw [HV.out, if_neg (by simp [h1]), if_pos h2] : Mg.ver M T N p.data.toList = x.v)
      have H1 : Hid (((z.w == y.w) && (z.t.toList == y.t.toList)) = false) := h1
      have H2 : Hid (((z.w == x.w) && (z.t.toList == x.t.toList)) = true) := h2
      clear h1 h2 HV
      have c0' := c0
      go_enter Tryz.func78, Tryz.ntmps78
      go_wp2_with fail
      rw [← hwz]
      clear hwz k1 k2 k3 c0 c1 c2 c0'
      obtain ⟨q1, q2, q3⟩ := HK.out wz.drew hbz.drew
      have x0 := (HX.out).cell 0 rfl
      have x1 := (HX.out).cell 1 rfl
      have x2 := (HX.out).cell 2 rfl
      have d0 := (HBX.out.below hbz).cell 0 rfl
      have d1 := (HBX.out.below hbz).cell 1 rfl
      go_region_with (go_at_call 101; refine (like_any z.w y.w z.t y.t z.v y.v _).mono ?_; rintro e w1 ⟨rfl, hb1⟩; rw [H1.out])
      all_goals
        have hb01 := below_tr hbz.drew hb1
        clear q1 q2 q3 x0 x1 x2 d0 d1
        have HX1 := hid (HX.out.below ((Below.refl _ _).drew.trans hb1))
        go_wp2_with fail
        obtain ⟨q1, q2, q3⟩ := HK.out w1.drew hb01.drew
        have x0 := (HX1.out).cell 0 rfl
        have x1 := (HX1.out).cell 1 rfl
        have x2 := (HX1.out).cell 2 rfl
        have d0 := (HBX.out.below hb01).cell 0 rfl
        have d1 := (HBX.out.below hb01).cell 1 rfl
        go_region_with (go_at_call 101; refine (like_any z.w x.w z.t x.t z.v x.v _).mono ?_; rintro e w2 ⟨rfl, hb2⟩; rw [H2.out])
        all_goals
          have hb02 := below_tr hb01.drew hb2
          obtain ⟨r1, r2, r3⟩ := HK.out w2 hb02
          have f0 := (HBX.out.below hb02).cell 0 rfl
          have f1 := (HBX.out.below hb02).cell 1 rfl
          go_wp2_with fail
          go_ret
          exact ⟨by rw [HE.out] <;> rfl, hb02⟩
    | false =>
      have HE : Hid (Mg.ver M T N p.data.toList = 1) := (by rw [HV.out, if_neg (by simp [h1]), if_neg (by simp [h2])] : Mg.ver M T N p.data.toList = 1)
      have H1 : Hid (((z.w == y.w) && (z.t.toList == y.t.toList)) = false) := h1
      have H2 : Hid (((z.w == x.w) && (z.t.toList == x.t.toList)) = false) := h2
      clear h1 h2 HV
      have c0' := c0
      go_enter Tryz.func78, Tryz.ntmps78
      go_wp2_with fail
      rw [← hwz]
      clear hwz k1 k2 k3 c0 c1 c2 c0'
      obtain ⟨q1, q2, q3⟩ := HK.out wz.drew hbz.drew
      have x0 := (HX.out).cell 0 rfl
      have x1 := (HX.out).cell 1 rfl
      have x2 := (HX.out).cell 2 rfl
      have d0 := (HBX.out.below hbz).cell 0 rfl
      have d1 := (HBX.out.below hbz).cell 1 rfl
      go_region_with (go_at_call 101; refine (like_any z.w y.w z.t y.t z.v y.v _).mono ?_; rintro e w1 ⟨rfl, hb1⟩; rw [H1.out])
      all_goals
        have hb01 := below_tr hbz.drew hb1
        clear q1 q2 q3 x0 x1 x2 d0 d1
        have HX1 := hid (HX.out.below ((Below.refl _ _).drew.trans hb1))
        go_wp2_with fail
        obtain ⟨q1, q2, q3⟩ := HK.out w1.drew hb01.drew
        have x0 := (HX1.out).cell 0 rfl
        have x1 := (HX1.out).cell 1 rfl
        have x2 := (HX1.out).cell 2 rfl
        have d0 := (HBX.out.below hb01).cell 0 rfl
        have d1 := (HBX.out.below hb01).cell 1 rfl
        go_region_with (go_at_call 101; refine (like_any z.w x.w z.t x.t z.v x.v _).mono ?_; rintro e w2 ⟨rfl, hb2⟩; rw [H2.out])
        all_goals
          have hb02 := below_tr hb01.drew hb2
          go_wp2_with fail
          go_ret
          exact ⟨by rw [HE.out] <;> rfl, hb02⟩
end Go.Proofs.YtlllcifehellpaaGreatDoor
